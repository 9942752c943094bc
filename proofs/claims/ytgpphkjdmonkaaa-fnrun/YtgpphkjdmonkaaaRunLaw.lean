/-
  The exact law of Run: the walk, given what the program's Run answers.
-/
import Derived.Test.YtgpphkjdmonkaaaOpenMore
namespace Go.Proofs.Ytgpphkjdmonkaaa
open Go.RowKit
attribute [local go_sem ↓] Go.wp_at_zero Go.wp_at_succ

theorem own_lt {base : Nat} {e : TypeId} {size n : Nat} {v : Value} {xs : List Value} {w : World} (h : w.ownsRow base e size v n xs) : ∀ k, v.ownBlock = some k → k < w.heap.size := by
  obtain ⟨_, ⟨rfl, _⟩ | ⟨g, cap, cur, rfl, _, e3, _⟩⟩ := h
  · intro k hk; cases hk
  · intro k hk; cases hk
    obtain ⟨hh, _⟩ := Array.getElem?_eq_some_iff.1 e3
    exact hh
theorem ownsRow_far {C base : Nat} {e : TypeId} {size n : Nat} {v : Value} {xs : List Value} {w w' : World} (h : w.ownsRow base e size v n xs) (hC : ∀ k, v.ownBlock = some k → k ≠ C) (hb : But C w w') : w'.ownsRow base e size v n xs := by
  obtain ⟨h1, h2⟩ := h
  refine ⟨h1, ?_⟩
  rcases h2 with h2 | ⟨g, cap, cur, rfl, e2, e3, e4⟩
  · exact .inl h2
  · have hg : g < w.heap.size := by
      obtain ⟨hh, _⟩ := Array.getElem?_eq_some_iff.1 e3
      exact hh
    exact .inr ⟨g, cap, cur, rfl, e2, (hb.block g hg (hC g rfl)).trans e3, e4⟩
theorem own_form {base : Nat} {e : TypeId} {size n : Nat} {v : Value} {xs : List Value} {w : World} (h : w.ownsRow base e size v n xs) : ∃ ad cap, v = .slice ad n cap := by
  obtain ⟨_, ⟨rfl, rfl⟩ | ⟨g, cap, cur, rfl, _⟩⟩ := h
  · exact ⟨none, 0, rfl⟩
  · exact ⟨_, cap, rfl⟩
theorem flat6_length : ∀ xs : List Said6, (xs.flatMap Said6.vals).length = xs.length * 6
  | [] => rfl
  | f :: fs => by rw [List.flatMap_cons, List.length_append, flat6_length fs, List.length_cons]; simp [Said6.vals]; omega
theorem saidsAt_own {base cap : Nat} {ad : Option Addr} {t : TypeId} {xs : List Said6} {W : World} (h : W.ownsRow base t 6 (.slice ad xs.length cap) xs.length (xs.flatMap Said6.vals)) : SaidsAt ad xs W := by
  by_cases h0 : xs = []
  · exact .inl h0
  · have hn : xs.length ≠ 0 := fun e => h0 (List.length_eq_zero_iff.1 e)
    have hlt := own_lt h
    have h' := h
    obtain ⟨_, ⟨_, e⟩ | ⟨g, c, cur, e, _⟩⟩ := h
    · exact absurd e hn
    · simp only [Value.slice.injEq] at e
      obtain ⟨rfl, _, rfl⟩ := e
      refine .inr ⟨g, 0, rfl, hlt g rfl, fun i f hf => ?_⟩
      obtain ⟨hi, he⟩ := List.getElem?_eq_some_iff.1 hf
      have key : ∀ t, t < 6 → W.cell? ⟨g, 0 + i * 6 + t, none⟩ = (Said6.vals f)[t]? := fun t ht => by
        rw [Nat.zero_add, h'.cellAt _ (by omega)]
        have hd : xs = xs.take i ++ f :: xs.drop (i + 1) := by rw [← he, List.getElem_cons_drop, List.take_append_drop]
        conv => lhs; rw [hd]
        rw [List.flatMap_append, List.flatMap_cons, List.getElem?_append_right (by rw [flat6_length, List.length_take]; omega), flat6_length, List.length_take, Nat.min_eq_left (by omega), Nat.add_sub_cancel_left, List.getElem?_append_left (by simp [Said6.vals]; omega)]
      exact ⟨key 0 (by omega), key 1 (by omega), key 2 (by omega), key 3 (by omega), key 4 (by omega), key 5 (by omega)⟩
theorem Box5.but {w : World} {s h d a k : Int} {W W' : World} {C : Nat} (i : Box5 w s h d a k W) (hC : w.heap.size < C) (hb : But C W W') : Box5 w s h d a k W' := by
  obtain ⟨d0, d1, d2, d3, d4, dz, dB⟩ := i
  have hs := hb.size
  exact ⟨(hb.cell dz (by omega)).trans d0, (hb.cell dz (by omega)).trans d1, (hb.cell dz (by omega)).trans d2, (hb.cell dz (by omega)).trans d3, (hb.cell dz (by omega)).trans d4, by omega, dB.trans (hb.below (by omega) (by omega))⟩


end Go.Proofs.Ytgpphkjdmonkaaa
