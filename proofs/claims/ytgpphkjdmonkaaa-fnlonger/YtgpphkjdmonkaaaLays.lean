/-
  A box of its own, and what lies in it.
-/
import Derived.Test.YtgpphkjdmonkaaaFrames
namespace Go.Proofs.Ytgpphkjdmonkaaa
open Go.RowKit

/-- A box of its own: what lies in it. -/
structure Lay (N : Nat) (vs : List Value) (W : World) : Prop where
  cell : ∀ j v, vs[j]? = some v → W.cell? ⟨N, j, none⟩ = some v
  fr : ∀ o, W.frozen? ⟨N, o, none⟩ = false
  lt : N < W.heap.size
theorem Lay.new (W : World) (vs : Array Value) (t : TypeId) : Lay W.heap.size vs.toList (W.alloc (.cells vs t)) :=
  ⟨fun j v h => by rw [World.cell?_alloc_new]; simpa using h, fun o => by simp, by simp⟩
theorem Lay.of {N : Nat} {vs : List Value} {W W' : World} (h : Lay N vs W) (hb : W'.heap[N]? = W.heap[N]?) : Lay N vs W' := by
  have hlt : N < W'.heap.size := by
    rw [Array.getElem?_eq_getElem h.lt] at hb
    obtain ⟨h, _⟩ := Array.getElem?_eq_some_iff.1 hb
    exact h
  exact ⟨fun j v hv => (World.cell?_of_block (w := W) (a := ⟨N, j, none⟩) hb).trans (h.cell j v hv), fun o => (World.frozen?_of_block (w := W) (a := ⟨N, o, none⟩) hb).trans (h.fr o), hlt⟩
theorem Lay.below {N : Nat} {vs : List Value} {W W' : World} (h : Lay N vs W) (hb : Below W.heap.size W W') : Lay N vs W' := h.of (hb.block N h.lt)
theorem Lay.alloc {N : Nat} {vs : List Value} {W : World} (h : Lay N vs W) (o : Obj) : Lay N vs (W.alloc o) := h.below (bone _ _)
theorem Lay.drew {N : Nat} {vs : List Value} {W : World} (h : Lay N vs W) : Lay N vs W.drew := ⟨h.cell, h.fr, h.lt⟩
theorem Lay.far {N : Nat} {vs : List Value} {W : World} (h : Lay N vs W) {M : Nat} (hne : M ≠ N) (i : Nat) (v : Value) : Lay N vs (W.setCell ⟨M, i, none⟩ v) := h.of (Below.heap_setCell _ _ _ _ (by show N ≠ M; exact Ne.symm hne))
theorem Lay.set {N : Nat} {vs : List Value} {W : World} (h : Lay N vs W) (i : Nat) (v : Value) (hi : i < vs.length) : Lay N (vs.set i v) (W.setCell ⟨N, i, none⟩ v) := by
  refine ⟨fun j u hu => ?_, fun o => by simpa using h.fr o, by have := h.lt; simpa [World.setCell] using this⟩
  by_cases e : i = j
  · subst e
    rw [List.getElem?_set_self hi] at hu
    cases hu
    exact World.cell?_setCell_same _ _ _ (h.cell i _ (List.getElem?_eq_getElem hi))
  · rw [List.getElem?_set_ne e] at hu
    rw [World.cell?_setCell_other _ _ _ _ (fun q => e (by cases q; rfl))]
    exact h.cell j u hu
theorem Lay.five {N : Nat} {a b c d e : Value} {W : World} (h : Lay N [a, b, c, d, e] W) : W.cell? ⟨N, 0, none⟩ = some a ∧ W.cell? ⟨N, 1, none⟩ = some b ∧ W.cell? ⟨N, 2, none⟩ = some c ∧ W.cell? ⟨N, 3, none⟩ = some d ∧ W.cell? ⟨N, 4, none⟩ = some e ∧ (∀ o, W.frozen? ⟨N, o, none⟩ = false) ∧ N < W.heap.size :=
  ⟨h.cell 0 _ rfl, h.cell 1 _ rfl, h.cell 2 _ rfl, h.cell 3 _ rfl, h.cell 4 _ rfl, h.fr, h.lt⟩
theorem Lay.four {N : Nat} {a b c d : Value} {W : World} (h : Lay N [a, b, c, d] W) : W.cell? ⟨N, 0, none⟩ = some a ∧ W.cell? ⟨N, 1, none⟩ = some b ∧ W.cell? ⟨N, 2, none⟩ = some c ∧ W.cell? ⟨N, 3, none⟩ = some d :=
  ⟨h.cell 0 _ rfl, h.cell 1 _ rfl, h.cell 2 _ rfl, h.cell 3 _ rfl⟩
theorem Lay.three {N : Nat} {a b c : Value} {W : World} (h : Lay N [a, b, c] W) : W.cell? ⟨N, 0, none⟩ = some a ∧ W.cell? ⟨N, 1, none⟩ = some b ∧ W.cell? ⟨N, 2, none⟩ = some c :=
  ⟨h.cell 0 _ rfl, h.cell 1 _ rfl, h.cell 2 _ rfl⟩
theorem Lay.two {N : Nat} {a b : Value} {W : World} (h : Lay N [a, b] W) : W.cell? ⟨N, 0, none⟩ = some a ∧ W.cell? ⟨N, 1, none⟩ = some b ∧ (∀ o, W.frozen? ⟨N, o, none⟩ = false) ∧ N < W.heap.size :=
  ⟨h.cell 0 _ rfl, h.cell 1 _ rfl, h.fr, h.lt⟩
theorem Lay.six {N : Nat} {a b c d e f : Value} {W : World} (h : Lay N [a, b, c, d, e, f] W) : W.cell? ⟨N, 0, none⟩ = some a ∧ W.cell? ⟨N, 1, none⟩ = some b ∧ W.cell? ⟨N, 2, none⟩ = some c ∧ W.cell? ⟨N, 3, none⟩ = some d ∧ W.cell? ⟨N, 4, none⟩ = some e ∧ W.cell? ⟨N, 5, none⟩ = some f ∧ (∀ o, W.frozen? ⟨N, o, none⟩ = false) ∧ N < W.heap.size :=
  ⟨h.cell 0 _ rfl, h.cell 1 _ rfl, h.cell 2 _ rfl, h.cell 3 _ rfl, h.cell 4 _ rfl, h.cell 5 _ rfl, h.fr, h.lt⟩
/-- Whatever leaves what lies below a bound leaves a box there. -/
theorem Lay.under {N B : Nat} {vs : List Value} {W W' : World} (h : Lay N vs W) (hb : Below B W W') (hN : N < B) : Lay N vs W' := h.of (hb.block N hN)
theorem Lay.eight {N : Nat} {a b c d e f g h : Value} {W : World} (k : Lay N [a, b, c, d, e, f, g, h] W) : W.cell? ⟨N, 0, none⟩ = some a ∧ W.cell? ⟨N, 1, none⟩ = some b ∧ W.cell? ⟨N, 2, none⟩ = some c ∧ W.cell? ⟨N, 3, none⟩ = some d ∧ W.cell? ⟨N, 4, none⟩ = some e ∧ W.cell? ⟨N, 5, none⟩ = some f ∧ W.cell? ⟨N, 6, none⟩ = some g ∧ W.cell? ⟨N, 7, none⟩ = some h :=
  ⟨k.cell 0 _ rfl, k.cell 1 _ rfl, k.cell 2 _ rfl, k.cell 3 _ rfl, k.cell 4 _ rfl, k.cell 5 _ rfl, k.cell 6 _ rfl, k.cell 7 _ rfl⟩

end Go.Proofs.Ytgpphkjdmonkaaa
