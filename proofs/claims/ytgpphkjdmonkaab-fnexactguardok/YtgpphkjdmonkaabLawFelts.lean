/-
  The laws' copies of a row of what is felt.
-/
import Derived.Test.YtgpphkjdmonkaabLawBits
import Derived.Test.YtgpphkjdmonkaabRunSpec
namespace Go.Proofs.Ytgpphkjdmonkaab
open Go.RowKit
attribute [local go_sem ↓] Go.wp_at_zero Go.wp_at_succ

theorem flat5_length : ∀ fs : List Felt5, (fs.flatMap Felt5.vals).length = fs.length * 5
  | [] => rfl
  | f :: fs => by rw [List.flatMap_cons, List.length_append, flat5_length fs, List.length_cons]; simp [Felt5.vals]; omega
/-- One element more is laid. -/
theorem take_set5 {fs : List Felt5} {ys : List Value} {j : Nat} {f : Felt5} (hlen : ys.length = fs.length * 5) (hf : fs[j]? = some f) (hy : ys.take (j * 5) = (fs.take j).flatMap Felt5.vals) :
    (((((ys.set (j * 5) (.int .i64 f.high)).set (j * 5 + 1) (.int .i64 f.speed)).set (j * 5 + 2) (.int .i64 f.en)).set (j * 5 + 3) (.int .i64 f.lim)).set (j * 5 + 4) (.bool f.ack)).take ((j + 1) * 5) = (fs.take (j + 1)).flatMap Felt5.vals := by
  obtain ⟨hj, he⟩ := List.getElem?_eq_some_iff.1 hf
  rw [List.take_succ_eq_append_getElem hj, List.flatMap_append, he, ← hy]
  have hl5 : j * 5 + 5 ≤ ys.length := by omega
  apply List.ext_getElem?
  intro i
  have e5 : (j + 1) * 5 = j * 5 + 5 := by omega
  rw [e5]
  by_cases h1 : i < j * 5
  · rw [List.getElem?_take_of_lt (by omega), List.getElem?_append_left (by rw [List.length_take]; omega), List.getElem?_take_of_lt h1]
    rw [List.getElem?_set_ne (by omega), List.getElem?_set_ne (by omega), List.getElem?_set_ne (by omega), List.getElem?_set_ne (by omega), List.getElem?_set_ne (by omega)]
  · by_cases h2 : i < j * 5 + 5
    · rw [List.getElem?_take_of_lt h2, List.getElem?_append_right (by rw [List.length_take]; omega), List.length_take, Nat.min_eq_left (by omega)]
      have hi : i = j * 5 ∨ i = j * 5 + 1 ∨ i = j * 5 + 2 ∨ i = j * 5 + 3 ∨ i = j * 5 + 4 := by omega
      rcases hi with rfl | rfl | rfl | rfl | rfl
      · rw [List.getElem?_set_ne (by omega), List.getElem?_set_ne (by omega), List.getElem?_set_ne (by omega), List.getElem?_set_ne (by omega), List.getElem?_set_self (by omega)]
        simp [Felt5.vals]
      · rw [List.getElem?_set_ne (by omega), List.getElem?_set_ne (by omega), List.getElem?_set_ne (by omega), List.getElem?_set_self (by simp; omega)]
        simp [Felt5.vals]
      · rw [List.getElem?_set_ne (by omega), List.getElem?_set_ne (by omega), List.getElem?_set_self (by simp; omega)]
        simp [Felt5.vals]
      · rw [List.getElem?_set_ne (by omega), List.getElem?_set_self (by simp; omega)]
        simp [Felt5.vals]
      · rw [List.getElem?_set_self (by simp; omega)]
        simp [Felt5.vals]
    · rw [List.getElem?_take_eq_none (by omega)]
      symm
      apply List.getElem?_eq_none
      simp [Felt5.vals, List.length_take]
      omega
/-- What is owned lies there. -/
theorem feltsAt_own {base g cap : Nat} {t : TypeId} {fs : List Felt5} {W : World} (h : W.ownsRow base t 5 (.slice (some ⟨g, 0, none⟩) fs.length cap) fs.length (fs.flatMap Felt5.vals)) (hg : g < W.heap.size) : FeltsAt (some ⟨g, 0, none⟩) fs W := by
  refine .inr ⟨g, 0, rfl, hg, fun i f hf => ?_⟩
  obtain ⟨hi, he⟩ := List.getElem?_eq_some_iff.1 hf
  have key : ∀ t, t < 5 → W.cell? ⟨g, 0 + i * 5 + t, none⟩ = (Felt5.vals f)[t]? := fun t ht => by
    rw [Nat.zero_add, h.cellAt _ (by omega)]
    have hd : fs = fs.take i ++ f :: fs.drop (i + 1) := by rw [← he, List.getElem_cons_drop, List.take_append_drop]
    conv => lhs; rw [hd]
    rw [List.flatMap_append, List.flatMap_cons, List.getElem?_append_right (by rw [flat5_length, List.length_take]; omega), flat5_length, List.length_take, Nat.min_eq_left (by omega), Nat.add_sub_cancel_left, List.getElem?_append_left (by simp [Felt5.vals]; omega)]
  exact ⟨key 0 (by omega), key 1 (by omega), key 2 (by omega), key 3 (by omega), key 4 (by omega)⟩

theorem hiddenY {p : Prop} (h : p) : Hid p := h
theorem infoFelt : (Try.prog.info? 25).map (fun i => (i.zero, i.size, i.bytes)) = some (some (.agg #[.int .i64 0, .int .i64 0, .int .i64 0, .int .i64 0, .bool false]), 5, 40) := by kernel_rfl
set_option maxHeartbeats 1600000 in
theorem toFeltS_any (ad : Option Addr) (cap : Nat) (fs : List Felt5) (w : World) (hfs : FeltsAt ad fs w) (hl : fs.length ≤ 1048576) :
    Calls Try.prog 20 #[.slice ad fs.length cap] w
      fun e w' => e = .returned (.slice (some ⟨w.heap.size, 0, none⟩) fs.length fs.length) ∧ w'.ownsRow w.heap.size 25 5 (.slice (some ⟨w.heap.size, 0, none⟩) fs.length fs.length) fs.length (fs.flatMap Felt5.vals) ∧ w.heap.size < w'.heap.size ∧ Below w.heap.size w w' := by
  obtain ⟨i0, hi, hz0, hz1, hz2⟩ := info_parts infoFelt
  go_enter Try.func20, Try.ntmps20
  go_wp2_with (at_make; refine wpList_make_full _ rfl _ _ 47 rfl w.heap.size 25 i0 (.agg #[.int .i64 0, .int .i64 0, .int .i64 0, .int .i64 0, .bool false]) 5 Try.underlying47 hi hz0 hz1 .i64 .i64 _ _ fs.length rfl rfl rfl rfl (by rw [hz2]; omega) (by unfold maxLen; omega) (Nat.le_refl _) ?_; intro w1 hown hgrow)
  have hB1 : Below w.heap.size w w1 := (Below.refl _ _).grown hgrow (Nat.le_refl _) (fun k hk => by cases hk)
  have hz : w.heap.size < w1.heap.size := by
    rcases hown.2 with ⟨h, _⟩ | ⟨g, c, cur, h, _, h3, _⟩
    · cases h
    · cases h
      obtain ⟨hh, _⟩ := Array.getElem?_eq_some_iff.1 h3
      exact hh
  clear hgrow
  go_loopw [4] (fun si wr => ∃ (j : Nat) (ys : List Value), j ≤ fs.length ∧ si = .int .i64 j ∧ wr.ownsRow w.heap.size 25 5 (.slice (some ⟨w.heap.size, 0, none⟩) fs.length fs.length) fs.length ys ∧ Hid (ys.take (j * 5) = (fs.take j).flatMap Felt5.vals) ∧ w.heap.size < wr.heap.size ∧ Below w.heap.size w wr) (fun si _ => fs.length - (intOf si).toNat)
  case atStart => exact ⟨0, _, Nat.zero_le _, rfl, hown, by show _ = _; simp, hz, hB1⟩
  case round =>
    obtain ⟨j, ys, hj, rfl, hownr, HY, hzr, hBr⟩ := hrel
    clear hown hB1 hz
    by_cases hlt : j < fs.length
    · obtain ⟨f, hf⟩ : ∃ f, fs[j]? = some f := ⟨_, List.getElem?_eq_getElem hlt⟩
      rcases (hfs.keep hBr) with hnil | ⟨b, off, rfl, hbl, hcs⟩
      · rw [hnil] at hlt; simp at hlt
      · obtain ⟨c0, c1, c2, c3, c4⟩ := hcs j f hf
        clear hcs
        have hyl : ys.length = fs.length * 5 := hownr.1
        have hlt2 : (0 : Int) ≤ (j : Int) ∧ (j : Int) < (fs.length : Int) := by omega
        have HY2 := hiddenY (take_set5 hyl hf HY.out)
        go_wp2_with fail
        refine (toFelt_any _ _ _ _ _ _).mono ?_; rintro e w3 ⟨rfl, hb3⟩
        have own3 := ownsRow_below hownr hb3
        have hB3 := hBr.trans (hb3.mono (Nat.le_of_lt hzr))
        have hz3 : w.heap.size < w3.heap.size := Nat.lt_of_lt_of_le hzr hb3.size
        have q0 : w3.cell? ⟨w.heap.size, j * 5, none⟩ = some (ys[j * 5]'(by omega)) := by rw [own3.cellAt _ (by omega)]; exact List.getElem?_eq_getElem _
        have q1 : w3.cell? ⟨w.heap.size, j * 5 + 1, none⟩ = some (ys[j * 5 + 1]'(by omega)) := by rw [own3.cellAt _ (by omega)]; exact List.getElem?_eq_getElem _
        have q2 : w3.cell? ⟨w.heap.size, j * 5 + 2, none⟩ = some (ys[j * 5 + 2]'(by omega)) := by rw [own3.cellAt _ (by omega)]; exact List.getElem?_eq_getElem _
        have q3 : w3.cell? ⟨w.heap.size, j * 5 + 3, none⟩ = some (ys[j * 5 + 3]'(by omega)) := by rw [own3.cellAt _ (by omega)]; exact List.getElem?_eq_getElem _
        have q4 : w3.cell? ⟨w.heap.size, j * 5 + 4, none⟩ = some (ys[j * 5 + 4]'(by omega)) := by rw [own3.cellAt _ (by omega)]; exact List.getElem?_eq_getElem _
        have qf : ∀ o, w3.frozen? ⟨w.heap.size, o, none⟩ = false := fun o => own3.frozenAt o
        have O5 := (((((own3.stored (j * 5) (.int .i64 f.high)).1.stored (j * 5 + 1) (.int .i64 f.speed)).1.stored (j * 5 + 2) (.int .i64 f.en)).1.stored (j * 5 + 3) (.int .i64 f.lim)).1.stored (j * 5 + 4) (.bool f.ack)).1
        clear c0 c1 c2 c3 c4 hb3 hownr own3
        go_wp2_with fail
        go_roundw
        case rel => exact ⟨j + 1, _, by omega, by go_num, O5, HY2, by simpa [World.setCell] using hz3, ((((hB3.setCell (Nat.le_refl _) _).setCell (Nat.le_refl _) _).setCell (Nat.le_refl _) _).setCell (Nat.le_refl _) _).setCell (Nat.le_refl _) _⟩
        case measure => simp [intOf]; omega
    · have hyl : ys.length = fs.length * 5 := hownr.1
      have ej : j = fs.length := by omega
      have hfin : ys = fs.flatMap Felt5.vals := by
        have := HY.out
        rw [ej, List.take_of_length_le (by omega), List.take_of_length_le (Nat.le_refl _)] at this
        exact this
      rw [hfin] at hownr
      go_wp2
      go_ret
      exact ⟨rfl, hownr, hzr, hBr⟩

end Go.Proofs.Ytgpphkjdmonkaab
