/-
  What comes in: a guard and what is felt by value; a row of what is felt.
-/
import Derived.Test.YtgpphkjdmonkaaaOpen
import Derived.Test.YtgpphkjdmonkaaaLawMarks
import Derived.Deep.Slices
namespace Go.Proofs.Ytgpphkjdmonkaaa
open Go.ChangeShapes Go.WideShapes Go.ChangeAt Go.RowKit Go.Deep

section
variable {H : Type} {enc : TypeId × Value → H} {P : Program} {w : World} {base : Nat} {spare : Nat → Bool} {held : Bool}
theorem cell_bool {e : TypeId} {n : Nat} {c : Value} {y : Option (DataW H × List MemPlace)} (he : P.underlying e = some .bool) (h : DataW.trod enc P w base spare held n e [c] = y) (hy : ∃ z, y = some z) : ∃ a : Bool, c = .bool a := by
  obtain ⟨z, rfl⟩ := hy
  obtain ⟨a, e1, _⟩ := DataW.trod_bool he h
  simp at e1
  exact ⟨a, e1⟩
theorem array2' {α : Type} {cs : Array α} (h : cs.size = 2) : ∃ c0 c1, cs = #[c0, c1] := by
  obtain ⟨l⟩ := cs
  match l, h with
  | [c0, c1], _ => exact ⟨c0, c1, rfl⟩
theorem open_ints2 {r : Reach} {b0 : Nat} {t e : TypeId} {f0 f1 : Field} {v : Value} {d : DataW H} {p : List MemPlace} (hs : P.underlying t = some (.struct #[f0, f1])) (hC : P.cellsOf t = 2)
    (he : P.underlying e = some (.int .i64)) (hc : P.cellsOf e = 1) (e0 : f0.type = e) (e1 : f1.type = e) (o0 : f0.offset = 0) (o1 : f1.offset = 1)
    (hv : Value.okWide P w r b0 t v) (h : DataW.Trod enc P w base spare held t v d p) : ∃ (a0 a1 : Int), v = .agg #[.int .i64 a0, .int .i64 a1] := by
  obtain ⟨cs, rfl, hsz⟩ := okWide_struct hs hv
  obtain ⟨c0, c1, rfl⟩ := array2' (hsz.trans hC)
  obtain ⟨fuel, hf⟩ := h
  obtain ⟨xs, n, _, _, _, hlen, hfs⟩ := DataW.trod_struct hs hf
  have hx : ∀ i, i < 2 → ∃ z, xs[i]? = some z := fun i hi => ⟨xs[i]'(by rw [hlen]; exact hi), List.getElem?_eq_getElem _⟩
  have g0 := hfs 0 f0 rfl
  have g1 := hfs 1 f1 rfl
  rw [e0, o0, hc] at g0
  rw [e1, o1, hc] at g1
  obtain ⟨a0, rfl, _⟩ := cell_int he (by simpa [Value.cells] using g0) (hx 0 (by decide))
  obtain ⟨a1, rfl, _⟩ := cell_int he (by simpa [Value.cells] using g1) (hx 1 (by decide))
  exact ⟨a0, a1, rfl⟩
/-- Five cells that read as what is felt. -/
theorem felt_cells {t e eb : TypeId} {f0 f1 f2 f3 f4 : Field} {fuel : Nat} {cs : List Value} {x : DataW H × List MemPlace} (hs : P.underlying t = some (.struct #[f0, f1, f2, f3, f4])) (hC : P.cellsOf t = 5)
    (he : P.underlying e = some (.int .i64)) (hc : P.cellsOf e = 1) (hb : P.underlying eb = some .bool) (hcb : P.cellsOf eb = 1) (e0 : f0.type = e) (e1 : f1.type = e) (e2 : f2.type = e) (e3 : f3.type = e) (e4 : f4.type = eb)
    (o0 : f0.offset = 0) (o1 : f1.offset = 1) (o2 : f2.offset = 2) (o3 : f3.offset = 3) (o4 : f4.offset = 4) (h : DataW.trod enc P w base spare held fuel t cs = some x) : ∃ f : Felt5, cs = f.vals := by
  obtain ⟨xs, n, _, _, hl, hlen, hfs⟩ := DataW.trod_struct hs h
  rw [hC] at hl
  match cs, hl with
  | [c0, c1, c2, c3, c4], _ =>
    have hx : ∀ i, i < 5 → ∃ z, xs[i]? = some z := fun i hi => ⟨xs[i]'(by rw [hlen]; exact hi), List.getElem?_eq_getElem _⟩
    have g0 := hfs 0 f0 rfl
    have g1 := hfs 1 f1 rfl
    have g2 := hfs 2 f2 rfl
    have g3 := hfs 3 f3 rfl
    have g4 := hfs 4 f4 rfl
    rw [e0, o0, hc] at g0
    rw [e1, o1, hc] at g1
    rw [e2, o2, hc] at g2
    rw [e3, o3, hc] at g3
    rw [e4, o4, hcb] at g4
    obtain ⟨a0, rfl, _⟩ := cell_int he (by simpa using g0) (hx 0 (by decide))
    obtain ⟨a1, rfl, _⟩ := cell_int he (by simpa using g1) (hx 1 (by decide))
    obtain ⟨a2, rfl, _⟩ := cell_int he (by simpa using g2) (hx 2 (by decide))
    obtain ⟨a3, rfl, _⟩ := cell_int he (by simpa using g3) (hx 3 (by decide))
    obtain ⟨a4, rfl⟩ := cell_bool hb (by simpa using g4) (hx 4 (by decide))
    exact ⟨⟨a0, a1, a2, a3, a4⟩, rfl⟩
theorem open_felt {r : Reach} {b0 : Nat} {t e eb : TypeId} {f0 f1 f2 f3 f4 : Field} {v : Value} {d : DataW H} {p : List MemPlace} (hs : P.underlying t = some (.struct #[f0, f1, f2, f3, f4])) (hC : P.cellsOf t = 5)
    (he : P.underlying e = some (.int .i64)) (hc : P.cellsOf e = 1) (hb : P.underlying eb = some .bool) (hcb : P.cellsOf eb = 1) (e0 : f0.type = e) (e1 : f1.type = e) (e2 : f2.type = e) (e3 : f3.type = e) (e4 : f4.type = eb)
    (o0 : f0.offset = 0) (o1 : f1.offset = 1) (o2 : f2.offset = 2) (o3 : f3.offset = 3) (o4 : f4.offset = 4)
    (hv : Value.okWide P w r b0 t v) (h : DataW.Trod enc P w base spare held t v d p) : ∃ f : Felt5, v = .agg #[.int .i64 f.high, .int .i64 f.speed, .int .i64 f.en, .int .i64 f.lim, .bool f.ack] := by
  obtain ⟨cs, rfl, hsz⟩ := okWide_struct hs hv
  obtain ⟨fuel, hf⟩ := h
  obtain ⟨f, hff⟩ := felt_cells hs hC he hc hb hcb e0 e1 e2 e3 e4 o0 o1 o2 o3 o4 hf
  refine ⟨f, ?_⟩
  have : cs.toList = f.vals := by simpa [Value.cells] using hff
  obtain ⟨l⟩ := cs
  simp at this
  rw [this]; rfl
theorem list_of {α : Type} {p : Nat → α → Prop} : ∀ n : Nat, (∀ i, i < n → ∃ f, p i f) → ∃ fs : List α, fs.length = n ∧ ∀ i f, fs[i]? = some f → p i f
  | 0, _ => ⟨[], rfl, fun i f h => by simp at h⟩
  | n + 1, h => by
    obtain ⟨fs, hl, hfs⟩ := list_of n (fun i hi => h i (by omega))
    obtain ⟨f, hf⟩ := h n (by omega)
    refine ⟨fs ++ [f], by simp [hl], fun i g hg => ?_⟩
    by_cases hi : i < fs.length
    · rw [List.getElem?_append_left hi] at hg; exact hfs i g hg
    · rw [List.getElem?_append_right (by omega)] at hg
      have e : i = n := by
        by_cases e : i - fs.length = 0
        · omega
        · rw [List.getElem?_eq_none (by simp; omega)] at hg; cases hg
      subst e
      rw [hl, Nat.sub_self] at hg
      simp at hg
      rw [← hg]; exact hf
theorem add_none (b off i : Nat) : (⟨b, off, none⟩ : Addr).add i = ⟨b, off + i, none⟩ := by
  simp only [Addr.add]
  by_cases hi : i = 0
  · subst hi; simp
  · simp [hi]
theorem open_felts {t te e eb : TypeId} {f0 f1 f2 f3 f4 : Field} {a : Option Addr} {len cap : Nat} {d : DataW H} {p : List MemPlace} (ht : P.underlying t = some (.slice te)) (hs : P.underlying te = some (.struct #[f0, f1, f2, f3, f4])) (hC : P.cellsOf te = 5)
    (he : P.underlying e = some (.int .i64)) (hc : P.cellsOf e = 1) (hb : P.underlying eb = some .bool) (hcb : P.cellsOf eb = 1) (e0 : f0.type = e) (e1 : f1.type = e) (e2 : f2.type = e) (e3 : f3.type = e) (e4 : f4.type = eb)
    (o0 : f0.offset = 0) (o1 : f1.offset = 1) (o2 : f2.offset = 2) (o3 : f3.offset = 3) (o4 : f4.offset = 4)
    (h : DataW.Trod enc P w base spare held t (.slice a len cap) d p) : len ≤ 9223372036854775807 ∧ ∃ fs : List Felt5, fs.length = len ∧ FeltsAt a fs w := by
  obtain ⟨fuel, hf⟩ := h
  rcases open_slice ht hf with ⟨hcs, _⟩ | ⟨ad, l, c, m, n, D, Pl, hcs, _, hl, hm, hmm, _, hx⟩
  · simp [Value.cells] at hcs
    obtain ⟨rfl, rfl, rfl⟩ := hcs
    exact ⟨by omega, [], rfl, .inl rfl⟩
  · simp [Value.cells] at hcs
    obtain ⟨rfl, rfl, rfl⟩ := hcs
    unfold maxLen at hm
    refine ⟨by omega, ?_⟩
    have hlm : len ≤ m := by rw [hmm]; split <;> omega
    have hall : ∀ i, i < len → ∃ f : Felt5, w.cells? base (ad.add (i * 5)) 5 = some f.vals := fun i hi => by
      obtain ⟨cs', hc1, hc2⟩ := hx i (by omega)
      obtain ⟨f, hff⟩ := felt_cells hs hC he hc hb hcb e0 e1 e2 e3 e4 o0 o1 o2 o3 o4 hc2
      rw [hC, hff] at hc1
      exact ⟨f, hc1⟩
    obtain ⟨fs, hfl, hfs⟩ := list_of len hall
    refine ⟨fs, hfl, ?_⟩
    by_cases h0 : len = 0
    · exact .inl (List.length_eq_zero_iff.1 (by omega))
    · have hcell : ∀ i f t v, fs[i]? = some f → f.vals[t]? = some v → w.cell? ((ad.add (i * 5)).add t) = some v := fun i f t v hf hv => by
        obtain ⟨_, _, hz⟩ := World.cells?_some (hfs i f hf)
        have ht5 : t < 5 := by
          obtain ⟨hh, _⟩ := List.getElem?_eq_some_iff.1 hv
          simpa [Felt5.vals] using hh
        rw [hz t ht5]; exact hv
      obtain ⟨b, off, spot⟩ := ad
      obtain ⟨g, hg⟩ : ∃ g, fs[0]? = some g := ⟨_, List.getElem?_eq_getElem (by omega)⟩
      have h1 := hcell 0 g 0 _ hg rfl
      have hspot : spot = none := by simpa [Addr.add] using World.cell?_spot h1
      subst hspot
      have hlt : b < w.heap.size := by
        by_cases hb2 : b < w.heap.size
        · exact hb2
        · exfalso
          have h2 : w.cell? ⟨b, off, none⟩ = some (.int .i64 g.high) := by simpa [add_none] using h1
          have : w.heap[b]? = none := Array.getElem?_eq_none (by omega)
          simp [World.cell?, this] at h2
      refine .inr ⟨b, off, rfl, hlt, fun i f hf => ?_⟩
      have key : ∀ t v, f.vals[t]? = some v → w.cell? ⟨b, off + i * 5 + t, none⟩ = some v := fun t v hv => by
        have := hcell i f t v hf hv
        rw [add_none, add_none] at this
        exact this
      exact ⟨key 0 _ rfl, key 1 _ rfl, key 2 _ rfl, key 3 _ rfl, key 4 _ rfl⟩
end

end Go.Proofs.Ytgpphkjdmonkaaa
