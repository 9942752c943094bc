/-
  The laws' copies of a row of what is felt.
-/
import Derived.Test.YtgpphkjdmonkaaaLawBits
import Derived.Test.YtgpphkjdmonkaaaRunSpec
namespace Go.Proofs.Ytgpphkjdmonkaaa
open Go.RowKit
attribute [local go_sem ↓] Go.wp_at_zero Go.wp_at_succ

theorem flat5_length : ∀ fs : List Felt5, (fs.flatMap Felt5.vals).length = fs.length * 5
  | [] => rfl
  | f :: fs => by rw [List.flatMap_cons, List.length_append, flat5_length fs, List.length_cons]; simp [Felt5.vals]; omega
/-- One element more is laid. -/
theorem take_set5 {fs : List Felt5} {ys : List Value} {j : Nat} {f : Felt5} (hlen : ys.length = fs.length * 5) (hf : fs[j]? = some f) (hy : ys.take (j * 5) = (fs.take j).flatMap Felt5.vals) :
    (((((ys.set (j * 5) (.int .i64 f.high)).set (j * 5 + 1) (.int .i64 f.speed)).set (j * 5 + 2) (.int .i64 f.en)).set (j * 5 + 3) (.int .i64 f.lim)).set (j * 5 + 4) (.bool f.ack)).take ((j + 1) * 5) = (fs.take (j + 1)).flatMap Felt5.vals := by
  obtain ⟨hj, he⟩ := List.getElem?_eq_some_iff.1 hf
  rw [List.take_succ_eq_append_getElem hj, List.flatMap_append, he, ← hy]
  have hl5 : j * 5 + 5 ≤ ys.length := by omega
  apply List.ext_getElem?
  intro i
  have e5 : (j + 1) * 5 = j * 5 + 5 := by omega
  rw [e5]
  by_cases h1 : i < j * 5
  · rw [List.getElem?_take_of_lt (by omega), List.getElem?_append_left (by rw [List.length_take]; omega), List.getElem?_take_of_lt h1]
    rw [List.getElem?_set_ne (by omega), List.getElem?_set_ne (by omega), List.getElem?_set_ne (by omega), List.getElem?_set_ne (by omega), List.getElem?_set_ne (by omega)]
  · by_cases h2 : i < j * 5 + 5
    · rw [List.getElem?_take_of_lt h2, List.getElem?_append_right (by rw [List.length_take]; omega), List.length_take, Nat.min_eq_left (by omega)]
      have hi : i = j * 5 ∨ i = j * 5 + 1 ∨ i = j * 5 + 2 ∨ i = j * 5 + 3 ∨ i = j * 5 + 4 := by omega
      rcases hi with rfl | rfl | rfl | rfl | rfl
      · rw [List.getElem?_set_ne (by omega), List.getElem?_set_ne (by omega), List.getElem?_set_ne (by omega), List.getElem?_set_ne (by omega), List.getElem?_set_self (by omega)]
        simp [Felt5.vals]
      · rw [List.getElem?_set_ne (by omega), List.getElem?_set_ne (by omega), List.getElem?_set_ne (by omega), List.getElem?_set_self (by simp; omega)]
        simp [Felt5.vals]
      · rw [List.getElem?_set_ne (by omega), List.getElem?_set_ne (by omega), List.getElem?_set_self (by simp; omega)]
        simp [Felt5.vals]
      · rw [List.getElem?_set_ne (by omega), List.getElem?_set_self (by simp; omega)]
        simp [Felt5.vals]
      · rw [List.getElem?_set_self (by simp; omega)]
        simp [Felt5.vals]
    · rw [List.getElem?_take_eq_none (by omega)]
      symm
      apply List.getElem?_eq_none
      simp [Felt5.vals, List.length_take]
      omega
/-- What is owned lies there. -/
theorem feltsAt_own {base g cap : Nat} {t : TypeId} {fs : List Felt5} {W : World} (h : W.ownsRow base t 5 (.slice (some ⟨g, 0, none⟩) fs.length cap) fs.length (fs.flatMap Felt5.vals)) (hg : g < W.heap.size) : FeltsAt (some ⟨g, 0, none⟩) fs W := by
  refine .inr ⟨g, 0, rfl, hg, fun i f hf => ?_⟩
  obtain ⟨hi, he⟩ := List.getElem?_eq_some_iff.1 hf
  have key : ∀ t, t < 5 → W.cell? ⟨g, 0 + i * 5 + t, none⟩ = (Felt5.vals f)[t]? := fun t ht => by
    rw [Nat.zero_add, h.cellAt _ (by omega)]
    have hd : fs = fs.take i ++ f :: fs.drop (i + 1) := by rw [← he, List.getElem_cons_drop, List.take_append_drop]
    conv => lhs; rw [hd]
    rw [List.flatMap_append, List.flatMap_cons, List.getElem?_append_right (by rw [flat5_length, List.length_take]; omega), flat5_length, List.length_take, Nat.min_eq_left (by omega), Nat.add_sub_cancel_left, List.getElem?_append_left (by simp [Felt5.vals]; omega)]
  exact ⟨key 0 (by omega), key 1 (by omega), key 2 (by omega), key 3 (by omega), key 4 (by omega)⟩

theorem hiddenY {p : Prop} (h : p) : Hid p := h

end Go.Proofs.Ytgpphkjdmonkaaa
