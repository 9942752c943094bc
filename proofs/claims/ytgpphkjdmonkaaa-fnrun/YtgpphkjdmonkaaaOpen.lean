/-
  A struct of five whole numbers that comes in by value: the value written out, its numbers well formed.
-/
import Derived.Test.YtgpphkjdmonkaaaProg
import Derived.WalkKit
import Derived.ProofKit
import Derived.OpenShut
namespace Go.Proofs.Ytgpphkjdmonkaaa
open Go.ChangeShapes Go.WideShapes Go.ChangeAt Go.RowKit

theorem own : ownKnob Try.prog.godebug = none := by kernel_rfl
theorem laidOut : laidOutB Try.prog = true := by kernel_rfl
theorem cellsBrakes : Try.prog.cellsOf 48 = 5 := by kernel_rfl
theorem cellsInt : Try.prog.cellsOf 3 = 1 := by kernel_rfl
theorem array5 {α : Type} {cs : Array α} (h : cs.size = 5) : ∃ c0 c1 c2 c3 c4, cs = #[c0, c1, c2, c3, c4] := by
  obtain ⟨l⟩ := cs
  match l, h with
  | [c0, c1, c2, c3, c4], _ => exact ⟨c0, c1, c2, c3, c4, rfl⟩

section
variable {H : Type} {enc : TypeId × Value → H} {P : Program} {w : World} {base : Nat} {spare : Nat → Bool} {held : Bool}
theorem cell_int {e : TypeId} {n : Nat} {c : Value} {y : Option (DataW H × List MemPlace)} (he : P.underlying e = some (.int .i64)) (h : DataW.trod enc P w base spare held n e [c] = y) (hy : ∃ z, y = some z) :
    ∃ a : Int, c = .int .i64 a ∧ (Lit.int .i64 a).wf = true := by
  obtain ⟨z, rfl⟩ := hy
  obtain ⟨a, e1, _, wa⟩ := DataW.trod_int he h
  simp at e1
  exact ⟨a, e1, wa⟩
theorem open_ints5 {r : Reach} {b0 : Nat} {t e : TypeId} {f0 f1 f2 f3 f4 : Field} {v : Value} {d : DataW H} {p : List MemPlace} (hs : P.underlying t = some (.struct #[f0, f1, f2, f3, f4])) (hC : P.cellsOf t = 5)
    (he : P.underlying e = some (.int .i64)) (hc : P.cellsOf e = 1) (e0 : f0.type = e) (e1 : f1.type = e) (e2 : f2.type = e) (e3 : f3.type = e) (e4 : f4.type = e)
    (o0 : f0.offset = 0) (o1 : f1.offset = 1) (o2 : f2.offset = 2) (o3 : f3.offset = 3) (o4 : f4.offset = 4)
    (hv : Value.okWide P w r b0 t v) (h : DataW.Trod enc P w base spare held t v d p) :
    ∃ (a0 a1 a2 a3 a4 : Int), v = .agg #[.int .i64 a0, .int .i64 a1, .int .i64 a2, .int .i64 a3, .int .i64 a4] ∧
      (Lit.int .i64 a0).wf = true ∧ (Lit.int .i64 a1).wf = true ∧ (Lit.int .i64 a2).wf = true ∧ (Lit.int .i64 a3).wf = true ∧ (Lit.int .i64 a4).wf = true := by
  obtain ⟨cs, rfl, hsz⟩ := okWide_struct hs hv
  obtain ⟨c0, c1, c2, c3, c4, rfl⟩ := array5 (hsz.trans hC)
  obtain ⟨fuel, hf⟩ := h
  obtain ⟨xs, n, _, _, _, hlen, hfs⟩ := DataW.trod_struct hs hf
  have hx : ∀ i, i < 5 → ∃ z, xs[i]? = some z := fun i hi => ⟨xs[i]'(by rw [hlen]; exact hi), List.getElem?_eq_getElem _⟩
  have g0 := hfs 0 f0 rfl
  have g1 := hfs 1 f1 rfl
  have g2 := hfs 2 f2 rfl
  have g3 := hfs 3 f3 rfl
  have g4 := hfs 4 f4 rfl
  rw [e0, o0, hc] at g0
  rw [e1, o1, hc] at g1
  rw [e2, o2, hc] at g2
  rw [e3, o3, hc] at g3
  rw [e4, o4, hc] at g4
  obtain ⟨a0, rfl, w0⟩ := cell_int he (by simpa [Value.cells] using g0) (hx 0 (by decide))
  obtain ⟨a1, rfl, w1⟩ := cell_int he (by simpa [Value.cells] using g1) (hx 1 (by decide))
  obtain ⟨a2, rfl, w2⟩ := cell_int he (by simpa [Value.cells] using g2) (hx 2 (by decide))
  obtain ⟨a3, rfl, w3⟩ := cell_int he (by simpa [Value.cells] using g3) (hx 3 (by decide))
  obtain ⟨a4, rfl, w4⟩ := cell_int he (by simpa [Value.cells] using g4) (hx 4 (by decide))
  exact ⟨a0, a1, a2, a3, a4, rfl, w0, w1, w2, w3, w4⟩
end
end Go.Proofs.Ytgpphkjdmonkaaa
