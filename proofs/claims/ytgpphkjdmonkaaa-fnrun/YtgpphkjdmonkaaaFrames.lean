/-
  What stays: all but one block; rows that the call owns.
-/
import Derived.Test.YtgpphkjdmonkaaaBase
import Derived.Deep.QuietTactic
namespace Go.Proofs.Ytgpphkjdmonkaaa
open Go.RowKit

/-- Of what was there nothing has turned but block C. -/
structure But (C : Nat) (W W' : World) : Prop where
  os : W'.os = W.os
  tape : W'.tape = W.tape
  output : W'.output = W.output
  size : W.heap.size ≤ W'.heap.size
  block : ∀ k, k < W.heap.size → k ≠ C → W'.heap[k]? = W.heap[k]?
theorem But.refl (C : Nat) (W : World) : But C W W := ⟨rfl, rfl, rfl, Nat.le_refl _, fun _ _ _ => rfl⟩
theorem But.trans {C : Nat} {a b c : World} (h : But C a b) (k : But C b c) : But C a c :=
  ⟨k.os.trans h.os, k.tape.trans h.tape, k.output.trans h.output, Nat.le_trans h.size k.size, fun i hi hn => (k.block i (Nat.lt_of_lt_of_le hi h.size) hn).trans (h.block i hi hn)⟩
theorem But.of {C : Nat} {a b : World} (h : Below a.heap.size a b) : But C a b := ⟨h.os, h.tape, h.output, h.size, fun i hi _ => h.block i hi⟩
theorem But.below {C B : Nat} {a b : World} (h : But C a b) (hC : B ≤ C) (hB : B ≤ a.heap.size) : Below B a b := ⟨h.os, h.tape, h.output, h.size, fun i hi => h.block i (by omega) (by omega)⟩
theorem But.drewN {C : Nat} {a b : World} (h : But C a b) (n : Nat) : But C a (b.drewN n) := ⟨h.os, h.tape, h.output, h.size, h.block⟩
theorem But.drew {C : Nat} {a b : World} (h : But C a b) : But C a b.drew := ⟨h.os, h.tape, h.output, h.size, h.block⟩
theorem But.set {C : Nat} {a b : World} (h : But C a b) (o : Nat) (v : Value) : But C a (b.setCell ⟨C, o, none⟩ v) :=
  h.trans ⟨rfl, rfl, rfl, by simp [World.setCell], fun k _ hn => Below.heap_setCell _ _ _ _ hn⟩
/-- A store into a block that was not there. -/
theorem But.setNew {C : Nat} {a b : World} (h : But C a b) {p : Addr} (hp : a.heap.size ≤ p.block) (v : Value) : But C a (b.setCell p v) :=
  ⟨h.os, h.tape, h.output, by have := h.size; simp [World.setCell]; exact this, fun k hk hn => (Below.heap_setCell _ _ _ _ (by omega)).trans (h.block k hk hn)⟩
theorem But.alloc {C : Nat} {a b : World} (h : But C a b) (o : Obj) : But C a (b.alloc o) := h.trans (But.of (bone b o))
theorem But.cell {C : Nat} {a b : World} (h : But C a b) {k o : Nat} (hk : k < a.heap.size) (hn : k ≠ C) : b.cell? ⟨k, o, none⟩ = a.cell? ⟨k, o, none⟩ := World.cell?_of_block (w := a) (a := ⟨k, o, none⟩) (h.block k hk hn)
theorem But.frozen {C : Nat} {a b : World} (h : But C a b) {k o : Nat} (hk : k < a.heap.size) (hn : k ≠ C) : b.frozen? ⟨k, o, none⟩ = a.frozen? ⟨k, o, none⟩ := World.frozen?_of_block (w := a) (a := ⟨k, o, none⟩) (h.block k hk hn)

theorem ownsRow_but {C base : Nat} {e : TypeId} {size n : Nat} {v : Value} {xs : List Value} {w w' : World} (h : w.ownsRow base e size v n xs) (hC : C < base) (hb : But C w w') : w'.ownsRow base e size v n xs := by
  obtain ⟨h1, h2⟩ := h
  refine ⟨h1, ?_⟩
  rcases h2 with h2 | ⟨g, cap, cur, e1, e2, e3, e4⟩
  · exact .inl h2
  · have hg : g < w.heap.size := by
      obtain ⟨hh, _⟩ := Array.getElem?_eq_some_iff.1 e3
      exact hh
    exact .inr ⟨g, cap, cur, e1, e2, (hb.block g hg (by omega)).trans e3, e4⟩
theorem own_ge {base : Nat} {e : TypeId} {size n : Nat} {v : Value} {xs : List Value} {w : World} (h : w.ownsRow base e size v n xs) : ∀ k, v.ownBlock = some k → base ≤ k := by
  obtain ⟨_, ⟨rfl, _⟩ | ⟨g, cap, cur, rfl, e2, _⟩⟩ := h
  · intro k hk; cases hk
  · intro k hk; cases hk; exact e2
theorem But.grown {C : Nat} {A w w1 : World} {row : Option Nat} (h : But C A w) (hg : w.grownBy w1 row) (hr : ∀ k, row = some k → A.heap.size ≤ k) : But C A w1 :=
  ⟨hg.os.trans h.os, hg.tape.trans h.tape, hg.output.trans h.output, Nat.le_trans h.size hg.size, fun k hk hn => (hg.block k (Nat.lt_of_lt_of_le hk h.size) (fun e => by have := hr k e.symm; omega)).trans (h.block k hk hn)⟩
theorem forall_snoc {α : Type} {P : α → Prop} {xs : List α} {x : α} (h : ∀ y ∈ xs, P y) (hx : P x) : ∀ y ∈ xs ++ [x], P y := by
  intro y hy
  rcases List.mem_append.1 hy with hy | hy
  · exact h y hy
  · rw [List.mem_singleton] at hy; rw [hy]; exact hx
theorem ownsRow_base {base base' : Nat} {e : TypeId} {size n : Nat} {v : Value} {xs : List Value} {w : World} (h : w.ownsRow base e size v n xs) (hb : base' ≤ base) : w.ownsRow base' e size v n xs := by
  obtain ⟨h1, h2 | ⟨g, cap, cur, e1, e2, e3⟩⟩ := h
  · exact ⟨h1, .inl h2⟩
  · exact ⟨h1, .inr ⟨g, cap, cur, e1, Nat.le_trans hb e2, e3⟩⟩
/-- What is new leaves what is owned. -/
theorem ownsRow_below {base : Nat} {e : TypeId} {size n : Nat} {v : Value} {xs : List Value} {w w' : World} (h : w.ownsRow base e size v n xs) (hb : Below w.heap.size w w') : w'.ownsRow base e size v n xs := by
  obtain ⟨h1, h2⟩ := h
  refine ⟨h1, ?_⟩
  rcases h2 with h2 | ⟨g, cap, cur, e1, e2, e3, e4⟩
  · exact .inl h2
  · have hg : g < w.heap.size := by
      obtain ⟨hh, _⟩ := Array.getElem?_eq_some_iff.1 e3
      exact hh
    exact .inr ⟨g, cap, cur, e1, e2, (hb.block g hg).trans e3, e4⟩

end Go.Proofs.Ytgpphkjdmonkaaa
