/-
  What comes in: what happens in a tick by value.
-/
import Derived.Test.YtgpphkjdmonkaabOpenMore
import Derived.Test.YtgpphkjdmonkaabActPlain
namespace Go.Proofs.Ytgpphkjdmonkaab
open Go.ChangeShapes Go.WideShapes Go.ChangeAt Go.RowKit Go.Deep

section
variable {H : Type} {enc : TypeId × Value → H} {P : Program} {w : World} {base : Nat} {spare : Nat → Bool} {held : Bool}
/-- Seven cells that read as what happens. -/
theorem act_cells {t e eb : TypeId} {f0 f1 f2 f3 f4 f5 f6 : Field} {fuel : Nat} {cs : List Value} {x : DataW H × List MemPlace} (hs : P.underlying t = some (.struct #[f0, f1, f2, f3, f4, f5, f6])) (hC : P.cellsOf t = 7)
    (he : P.underlying e = some (.int .i64)) (hc : P.cellsOf e = 1) (hb : P.underlying eb = some .bool) (hcb : P.cellsOf eb = 1) (e0 : f0.type = e) (e1 : f1.type = e) (e2 : f2.type = e) (e3 : f3.type = e) (e4 : f4.type = e) (e5 : f5.type = e) (e6 : f6.type = eb)
    (o0 : f0.offset = 0) (o1 : f1.offset = 1) (o2 : f2.offset = 2) (o3 : f3.offset = 3) (o4 : f4.offset = 4) (o5 : f5.offset = 5) (o6 : f6.offset = 6) (h : DataW.trod enc P w base spare held fuel t cs = some x) : ∃ f : Act7, cs = f.vals := by
  obtain ⟨xs, n, _, _, hl, hlen, hfs⟩ := DataW.trod_struct hs h
  rw [hC] at hl
  match cs, hl with
  | [c0, c1, c2, c3, c4, c5, c6], _ =>
    have hx : ∀ i, i < 7 → ∃ z, xs[i]? = some z := fun i hi => ⟨xs[i]'(by rw [hlen]; exact hi), List.getElem?_eq_getElem _⟩
    have g0 := hfs 0 f0 rfl
    have g1 := hfs 1 f1 rfl
    have g2 := hfs 2 f2 rfl
    have g3 := hfs 3 f3 rfl
    have g4 := hfs 4 f4 rfl
    have g5 := hfs 5 f5 rfl
    have g6 := hfs 6 f6 rfl
    rw [e0, o0, hc] at g0
    rw [e1, o1, hc] at g1
    rw [e2, o2, hc] at g2
    rw [e3, o3, hc] at g3
    rw [e4, o4, hc] at g4
    rw [e5, o5, hc] at g5
    rw [e6, o6, hcb] at g6
    obtain ⟨a0, rfl, _⟩ := cell_int he (by simpa using g0) (hx 0 (by decide))
    obtain ⟨a1, rfl, _⟩ := cell_int he (by simpa using g1) (hx 1 (by decide))
    obtain ⟨a2, rfl, _⟩ := cell_int he (by simpa using g2) (hx 2 (by decide))
    obtain ⟨a3, rfl, _⟩ := cell_int he (by simpa using g3) (hx 3 (by decide))
    obtain ⟨a4, rfl, _⟩ := cell_int he (by simpa using g4) (hx 4 (by decide))
    obtain ⟨a5, rfl, _⟩ := cell_int he (by simpa using g5) (hx 5 (by decide))
    obtain ⟨a6, rfl⟩ := cell_bool hb (by simpa using g6) (hx 6 (by decide))
    exact ⟨⟨a0, a1, a2, a3, a4, a5, a6⟩, rfl⟩
theorem open_act {r : Reach} {b0 : Nat} {t e eb : TypeId} {f0 f1 f2 f3 f4 f5 f6 : Field} {v : Value} {d : DataW H} {p : List MemPlace} (hs : P.underlying t = some (.struct #[f0, f1, f2, f3, f4, f5, f6])) (hC : P.cellsOf t = 7)
    (he : P.underlying e = some (.int .i64)) (hc : P.cellsOf e = 1) (hb : P.underlying eb = some .bool) (hcb : P.cellsOf eb = 1) (e0 : f0.type = e) (e1 : f1.type = e) (e2 : f2.type = e) (e3 : f3.type = e) (e4 : f4.type = e) (e5 : f5.type = e) (e6 : f6.type = eb)
    (o0 : f0.offset = 0) (o1 : f1.offset = 1) (o2 : f2.offset = 2) (o3 : f3.offset = 3) (o4 : f4.offset = 4) (o5 : f5.offset = 5) (o6 : f6.offset = 6)
    (hv : Value.okWide P w r b0 t v) (h : DataW.Trod enc P w base spare held t v d p) : ∃ f : Act7, v = .agg #[.int .i64 f.want, .int .i64 f.off, .int .i64 f.fast, .int .i64 f.more, .int .i64 f.en, .int .i64 f.lim, .bool f.ack] := by
  obtain ⟨cs, rfl, hsz⟩ := okWide_struct hs hv
  obtain ⟨fuel, hf⟩ := h
  obtain ⟨f, hff⟩ := act_cells hs hC he hc hb hcb e0 e1 e2 e3 e4 e5 e6 o0 o1 o2 o3 o4 o5 o6 hf
  refine ⟨f, ?_⟩
  have : cs.toList = f.vals := by simpa [Value.cells] using hff
  obtain ⟨l⟩ := cs
  simp at this
  rw [this]; rfl
end
end Go.Proofs.Ytgpphkjdmonkaab
