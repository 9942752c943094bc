/-
  The program's run.
-/
import Derived.Test.YtgpphkjdmonkaaaTickImplAll
import Derived.Test.YtgpphkjdmonkaaaRunSpec
namespace Go.Proofs.Ytgpphkjdmonkaaa
open Go.RowKit
attribute [local go_sem ↓] Go.wp_at_zero Go.wp_at_succ

theorem tickF_ok (s h d a k st en : Int) (f : Felt5) : (tickF s h d a k st en f).ok = (okB s h d a k && (guardB st en && f.okB)) := by
  unfold tickF
  rcases Bool.eq_false_or_eq_true (okB s h d a k && (guardB st en && f.okB)) with e | e
  · rw [e]; simp only [if_true]; repeat' split
    all_goals rfl
  · rw [e]; rfl
theorem tickF_guard {s h d a k st en : Int} {f : Felt5} (e : (tickF s h d a k st en f).ok = true) : guardB (tickF s h d a k st en f).st (tickF s h d a k st en f).en = true := by
  rw [tickF_ok] at e
  have e2 := e
  rw [Bool.and_eq_true, Bool.and_eq_true] at e2
  have hF := e2.2.2
  simp only [Felt5.okB, Bool.and_eq_true] at hF
  have hen := hF.2.2.1
  unfold tickF
  rw [e]
  simp only [if_true]
  repeat' split
  all_goals (unfold guardB; rw [hen]; rfl)
/-- A tick that is not right: nothing is said of the whole run. -/
theorem runF_no {s h d a k st en : Int} {fs : List Felt5} {j : Nat} {f : Felt5} (hf : fs[j]? = some f) (hg : guardB st en = true) (hx : (tickF s h d a k st en f).ok = false) : runF s h d a k fs = [] := by
  rw [tickF_ok, hg, Bool.true_and] at hx
  unfold runF
  rw [if_neg]
  intro he
  simp only [Bool.and_eq_true, decide_eq_true_eq, List.all_eq_true] at he
  rw [he.1, he.2.2 f (List.mem_of_getElem? hf)] at hx
  cases hx
theorem runF_yes {s h d a k st en : Int} {fs : List Felt5} {xs : List Said6} (hl : fs.length ≤ 1000) (hr : RunAt s h d a k fs fs.length st en xs) (ho : ∀ i f, i < fs.length → fs[i]? = some f → f.okB = true) (hk : fs = [] ∨ okB s h d a k = true) : runF s h d a k fs = xs := by
  rw [hr.last]
  rcases hk with rfl | hk
  · unfold runF; split <;> rfl
  · unfold runF
    rw [if_pos]
    rw [hk]
    simp only [Bool.true_and, Bool.and_eq_true, decide_eq_true_eq, List.all_eq_true]
    refine ⟨hl, fun f hf => ?_⟩
    obtain ⟨i, hi, he⟩ := List.getElem_of_mem hf
    exact ho i f hi (by rw [List.getElem?_eq_getElem hi, he])

theorem grown_below {W W' : World} (h : W.grownBy W' none) : Below W.heap.size W W' := ⟨h.os, h.tape, h.output, h.size, fun i hi => h.block i hi (by simp)⟩
theorem runi_step {w w3 w10 : World} {s h d a k x0 x1 : Int} {G : Nat} {o1 o2 : Obj} {st en : Int} {row : Option Nat} (hBx : Box5 w s h d a k w3) (hG : w.heap.size < G) (plt : G < w3.heap.size) (p0 : w3.cell? ⟨G, 0, none⟩ = some (.int .i64 x0)) (p1 : w3.cell? ⟨G, 1, none⟩ = some (.int .i64 x1)) (pf : ∀ o, w3.frozen? ⟨G, o, none⟩ = false)
    (hr : ∀ k, row = some k → G + 1 ≤ k) (hgrow : ((w3.alloc o1).alloc o2).grownBy w10 row) :
    Box5 w s h d a k ((w10.setCell ⟨G, 0, none⟩ (.int .i64 st)).setCell ⟨G, 1, none⟩ (.int .i64 en)) ∧ ((w10.setCell ⟨G, 0, none⟩ (.int .i64 st)).setCell ⟨G, 1, none⟩ (.int .i64 en)).cell? ⟨G, 0, none⟩ = some (.int .i64 st) ∧ ((w10.setCell ⟨G, 0, none⟩ (.int .i64 st)).setCell ⟨G, 1, none⟩ (.int .i64 en)).cell? ⟨G, 1, none⟩ = some (.int .i64 en) ∧ (∀ o, ((w10.setCell ⟨G, 0, none⟩ (.int .i64 st)).setCell ⟨G, 1, none⟩ (.int .i64 en)).frozen? ⟨G, o, none⟩ = false) ∧ G < ((w10.setCell ⟨G, 0, none⟩ (.int .i64 st)).setCell ⟨G, 1, none⟩ (.int .i64 en)).heap.size ∧
    w10.cell? ⟨G, 0, none⟩ = some (.int .i64 x0) ∧ w10.cell? ⟨G, 1, none⟩ = some (.int .i64 x1) ∧ (∀ o, w10.frozen? ⟨G, o, none⟩ = false) := by
  have hs : w3.heap.size + 1 + 1 ≤ w10.heap.size := by have := hgrow.size; rw [World.size_alloc, World.size_alloc] at this; exact this
  have hb : ∀ i, i ≤ G → w10.heap[i]? = w3.heap[i]? := fun i hi => by
    rw [hgrow.block i (by rw [World.size_alloc, World.size_alloc]; omega) (fun e => by have := hr i e.symm; omega), Below.heap_alloc _ _ _ (by rw [World.size_alloc]; omega), Below.heap_alloc _ _ _ (by omega)]
  have hc : ∀ i o, i ≤ G → w10.cell? ⟨i, o, none⟩ = w3.cell? ⟨i, o, none⟩ := fun i o hi => World.cell?_of_block (w := w3) (a := ⟨i, o, none⟩) (hb i hi)
  have hf : ∀ o, w10.frozen? ⟨G, o, none⟩ = w3.frozen? ⟨G, o, none⟩ := fun o => World.frozen?_of_block (a := ⟨G, o, none⟩) (hb G (Nat.le_refl _))
  obtain ⟨d0, d1, d2, d3, d4, dz, dB⟩ := hBx
  have q0 := (hc G 0 (Nat.le_refl _)).trans p0
  have q1 := (hc G 1 (Nat.le_refl _)).trans p1
  have hnew : Below w.heap.size w w10 := dB.trans ⟨hgrow.os, hgrow.tape, hgrow.output, by omega, fun i hi => hb i (by omega)⟩
  have hne : G ≠ w.heap.size := by omega
  refine ⟨⟨?_, ?_, ?_, ?_, ?_, ?_, ?_⟩, ?_, ?_, fun o => ?_, ?_, q0, q1, fun o => (hf o).trans (pf o)⟩
  · rw [World.cell?_setCell_far _ _ _ _ hne, World.cell?_setCell_far _ _ _ _ hne]; exact (hc _ _ (by omega)).trans d0
  · rw [World.cell?_setCell_far _ _ _ _ hne, World.cell?_setCell_far _ _ _ _ hne]; exact (hc _ _ (by omega)).trans d1
  · rw [World.cell?_setCell_far _ _ _ _ hne, World.cell?_setCell_far _ _ _ _ hne]; exact (hc _ _ (by omega)).trans d2
  · rw [World.cell?_setCell_far _ _ _ _ hne, World.cell?_setCell_far _ _ _ _ hne]; exact (hc _ _ (by omega)).trans d3
  · rw [World.cell?_setCell_far _ _ _ _ hne, World.cell?_setCell_far _ _ _ _ hne]; exact (hc _ _ (by omega)).trans d4
  · have : w10.heap.size = ((w10.setCell ⟨G, 0, none⟩ (.int .i64 st)).setCell ⟨G, 1, none⟩ (.int .i64 en)).heap.size := by simp [World.setCell]
    omega
  · exact (hnew.setCell (by show w.heap.size ≤ G; omega) _).setCell (by show w.heap.size ≤ G; omega) _
  · rw [so (by decide)]; exact World.cell?_setCell_same _ _ _ q0
  · exact World.cell?_setCell_same _ _ _ (by rw [so (by decide)]; exact q1)
  · have := (hf o).trans (pf o); simpa using this
  · have : w10.heap.size = ((w10.setCell ⟨G, 0, none⟩ (.int .i64 st)).setCell ⟨G, 1, none⟩ (.int .i64 en)).heap.size := by simp [World.setCell]
    omega

theorem own_sets {w : World} {base G : Nat} {e : TypeId} {size n : Nat} {v : Value} {xs : List Value} (h : w.ownsRow base e size v n xs) (hG : G < base) (x0 x1 : Value) : ((w.setCell ⟨G, 0, none⟩ x0).setCell ⟨G, 1, none⟩ x1).ownsRow base e size v n xs :=
  ownsRow_setCell_below (ownsRow_setCell_below h (by show G < base; exact hG) x0) (by show G < base; exact hG) x1
theorem said_after {w3 w10 : World} {x : Said6} {t : TypeId} {o2 : Obj} {row : Option Nat} (hgrow : ((w3.alloc (.cells #[.bool x.ok, .int .i64 x.st, .int .i64 x.en, .int .i64 x.sp, .bool x.kept, .bool x.change] t)).alloc o2).grownBy w10 row) (hr : ∀ k, row = some k → k < w3.heap.size) :
    w10.cell? ⟨w3.heap.size, 1, none⟩ = some (.int .i64 x.st) ∧ w10.cell? ⟨w3.heap.size, 2, none⟩ = some (.int .i64 x.en) := by
  have hb : w10.heap[w3.heap.size]? = (w3.alloc (.cells #[.bool x.ok, .int .i64 x.st, .int .i64 x.en, .int .i64 x.sp, .bool x.kept, .bool x.change] t)).heap[w3.heap.size]? := by
    rw [hgrow.block _ (by rw [World.size_alloc, World.size_alloc]; omega) (fun e => by have := hr _ e.symm; omega), Below.heap_alloc _ _ _ (by rw [World.size_alloc]; omega)]
  have hc : ∀ o, w10.cell? ⟨w3.heap.size, o, none⟩ = (w3.alloc (.cells #[.bool x.ok, .int .i64 x.st, .int .i64 x.en, .int .i64 x.sp, .bool x.kept, .bool x.change] t)).cell? ⟨w3.heap.size, o, none⟩ := fun o => World.cell?_of_block (a := ⟨w3.heap.size, o, none⟩) hb
  exact ⟨(hc 1).trans (by simp), (hc 2).trans (by simp)⟩

set_option maxRecDepth 100000 in
theorem firstGuard_any (w : World) : Calls Try.prog 59 #[] w fun e w' => e = .returned (.agg #[.int .i64 3, .int .i64 (-1)]) ∧ Below w.heap.size w w' := by
  go_enter Try.func59, Try.ntmps59
  go_wp2
  refine bodyPost_ret (v := .agg #[.int .i64 3, .int .i64 (-1)]) (by simp [results, Try.results59, go_sem]) rfl ⟨rfl, ?_⟩
  repeat (first | exact Below.refl _ _ | refine Below.setCell ?_ (by first | (simp; done) | (simp; omega)) _ | refine Below.alloc ?_ (by first | (simp; done) | (simp; omega)) _ | refine Below.drew ?_)
set_option maxRecDepth 100000 in
set_option maxHeartbeats 3200000 in
theorem run_impl (s h d a k : Int) (ad : Option Addr) (cap : Nat) (fs : List Felt5) (w : World) (hfs : FeltsAt ad fs w) (hl : fs.length ≤ 1048576) :
    Calls Try.prog 26 #[.agg #[.int .i64 s, .int .i64 h, .int .i64 d, .int .i64 a, .int .i64 k], .slice ad fs.length cap] w
      fun e w' => ∃ v, e = .returned v ∧ w'.ownsRow w.heap.size 32 6 v (runF s h d a k fs).length ((runF s h d a k fs).flatMap Said6.vals) ∧ Below w.heap.size w w' := by
  by_cases hlen : (1000 : Int) < fs.length
  · have hR : runF s h d a k fs = [] := by unfold runF; rw [if_neg]; simp; omega
    rw [hR]
    go_enter Try.func26, Try.ntmps26
    go_wp2
    go_ret
    exact ⟨_, rfl, World.ownsRow_nil _ _ _ _, bone _ _⟩
  · obtain ⟨i0, hi, hz0, hz1, hz2⟩ := info_parts infoSaid
    go_enter Try.func26, Try.ntmps26
    go_wp2_with fail
    refine (firstGuard_any _).mono ?_; rintro e w1 ⟨rfl, hb1⟩
    have hbox := (Box5.first w s h d a k 24).step hb1
    have hG : w.heap.size < w1.heap.size := hbox.2.2.2.2.2.1
    clear hb1
    go_wp2_with (at_make; refine wpList_make_own _ rfl _ _ 45 rfl (w1.heap.size + 1) 32 i0 (.agg #[.bool false, .int .i64 0, .int .i64 0, .int .i64 0, .bool false, .bool false]) 6 Try.underlying45 hi hz0 hz1 .i64 .i64 _ fs.length rfl rfl rfl (by rw [hz2]; omega) (by unfold maxLen; omega) (by rw [World.size_alloc]; omega) ?_; intro w2 hown0 hgrow0)
    rw [World.size_alloc] at hown0
    have hBel0 := grown_below hgrow0
    have hB2 : Box5 w s h d a k w2 := (hbox.step (bone _ _)).step hBel0
    have hg0 : w2.cell? ⟨w1.heap.size, 0, none⟩ = some (.int .i64 3) := ((bcell hBel0).1 _ _ (by rw [World.size_alloc]; omega)).trans (by simp)
    have hg1 : w2.cell? ⟨w1.heap.size, 1, none⟩ = some (.int .i64 (-1)) := ((bcell hBel0).1 _ _ (by rw [World.size_alloc]; omega)).trans (by simp)
    have hgf : ∀ o, w2.frozen? ⟨w1.heap.size, o, none⟩ = false := fun o => ((bcell hBel0).2 _ _ (by rw [World.size_alloc]; omega)).trans (by simp)
    have hgl : w1.heap.size < w2.heap.size := by have := hBel0.size; rw [World.size_alloc] at this; omega
    clear hBel0 hgrow0 hbox
    go_loopw [6, 19] (fun so si wr => ∃ (j : Nat) (st en : Int) (xs : List Said6), j ≤ fs.length ∧ si = .int .i64 j ∧ Hid (RunAt s h d a k fs j st en xs) ∧ Hid (guardB st en = true) ∧ Hid (∀ i f, i < j → fs[i]? = some f → f.okB = true) ∧ Hid (j = 0 ∨ okB s h d a k = true) ∧ wr.ownsRow (w1.heap.size + 1) 32 6 so xs.length (xs.flatMap Said6.vals) ∧ Box5 w s h d a k wr ∧ wr.cell? ⟨w1.heap.size, 0, none⟩ = some (.int .i64 st) ∧ wr.cell? ⟨w1.heap.size, 1, none⟩ = some (.int .i64 en) ∧ (∀ o, wr.frozen? ⟨w1.heap.size, o, none⟩ = false) ∧ w1.heap.size < wr.heap.size) (fun _ si _ => fs.length - (intOf si).toNat)
    case atStart => exact ⟨0, 3, -1, [], Nat.zero_le _, rfl, RunAt.first _ _ _ _ _ _, rfl, fun i f hi => by omega, .inl rfl, hown0, hB2, hg0, hg1, hgf, hgl⟩
    case round =>
      obtain ⟨j, st, en, xs, hj, rfl, HR, HGd, HO, HK, hown, hBr, gc0, gc1, gf, glt⟩ := hrel
      have hxl : xs.length = j := HR.out.1
      clear hB2 hg0 hg1 hgf hgl hown0
      by_cases hlt2 : j < fs.length
      · obtain ⟨f, hf⟩ : ∃ f, fs[j]? = some f := ⟨_, List.getElem?_eq_getElem hlt2⟩
        rcases (hfs.keep hBr.2.2.2.2.2.2) with hnil | ⟨b, off, rfl, hbl, hcs⟩
        · rw [hnil] at hlt2; simp at hlt2
        · obtain ⟨c0, c1, c2, c3, c4⟩ := hcs j f hf
          clear hcs
          have hBr' := hBr
          obtain ⟨d0, d1, d2, d3, d4, dz, dB⟩ := hBr'
          have hNX : Hid _ := RunAt.next HR.out hf
          have HF : Hid (fs[j]? = some f) := hf
          clear hf
          go_wp2_with fail
          refine (tick_impl s h d a k st en f _).mono ?_; rintro e w3 ⟨rfl, hb3⟩
          obtain ⟨x, hx⟩ : ∃ x, x = tickF s h d a k st en f := ⟨_, rfl⟩
          rw [← hx] at hNX ⊢
          have HX : Hid (x = tickF s h d a k st en f) := hx
          clear hx
          have hx3 : Below wr.heap.size wr w3 := bstep (bone _ _) hb3
          have hs3 := hx3.size
          have p0 : w3.cell? ⟨w1.heap.size, 0, none⟩ = some (.int .i64 st) := ((bcell hx3).1 _ _ glt).trans gc0
          have p1 : w3.cell? ⟨w1.heap.size, 1, none⟩ = some (.int .i64 en) := ((bcell hx3).1 _ _ glt).trans gc1
          have pf : ∀ o, w3.frozen? ⟨w1.heap.size, o, none⟩ = false := fun o => ((bcell hx3).2 _ _ glt).trans (gf o)
          have plt : w1.heap.size < w3.heap.size := by omega
          have hown3 := ownsRow_below hown hx3
          have hBx3 := hBr.step hx3
          clear hb3 d0 d1 d2 d3 d4 dz dB gc0 gc1 gf c0 c1 c2 c3 c4
          rcases Bool.eq_false_or_eq_true x.ok with hok | hok
          · have hlq : xs.length ≤ 1000 := by omega
            have HN : Hid (∀ i f, i < j + 1 → fs[i]? = some f → f.okB = true) := by
              intro i g hi hg
              by_cases e : i = j
              · subst e
                have e2 := HF.out
                rw [e2] at hg; cases hg
                have e3 := hok
                rw [HX.out, tickF_ok, Bool.and_eq_true, Bool.and_eq_true] at e3
                exact e3.2.2
              · exact HO.out i g (by omega) hg
            have HK2 : Hid (j + 1 = 0 ∨ okB s h d a k = true) := by
              have e3 := hok
              rw [HX.out, tickF_ok, Bool.and_eq_true] at e3
              exact .inr e3.1
            have HG2 : Hid (guardB x.st x.en = true) := by
              have e3 := hok
              rw [HX.out] at e3 ⊢
              exact tickF_guard e3
            obtain ⟨y0, y1, y2, y3, y4, y5⟩ := x
            obtain rfl : y0 = true := hok
            go_wp2_with (at_builtin; refine wpList_append_own _ rfl _ _ 45 rfl (w1.heap.size + 1) 32 i0 (.agg #[.bool false, .int .i64 0, .int .i64 0, .int .i64 0, .bool false, .bool false]) 6 40 Try.underlying45 hi hz0 hz1 hz2 rfl (by decide) _ _ _ rfl ((hown3.alloc _).alloc _) ⟨w3.heap.size + 1, 0, none⟩ 1 1 (⟨true, y1, y2, y3, y4, y5⟩ : Said6).vals rfl rfl (new_said w3 _ rfl _ ⟨true, y1, y2, y3, y4, y5⟩ _) (said_one _) (len_ok1 hlq) (by omega) (by rw [World.size_alloc, World.size_alloc]; omega) ?_; intro v2 w10 hown2 hgrow _; obtain ⟨R1, R2, R3, R4, R5, q0, q1, qf⟩ := runi_step (x0 := st) (x1 := en) (st := y1) (en := y2) hBx3 hG plt p0 p1 pf (own_ge hown) hgrow; obtain ⟨z1, z2⟩ := said_after (x := ⟨true, y1, y2, y3, y4, y5⟩) hgrow (fun k hk => (World.ownsRow.lt hown3 k hk).2); have HO2 : Hid (((w10.setCell ⟨w1.heap.size, 0, none⟩ (.int .i64 y1)).setCell ⟨w1.heap.size, 1, none⟩ (.int .i64 y2)).ownsRow (w1.heap.size + 1) 32 6 v2 (xs ++ [(⟨true, y1, y2, y3, y4, y5⟩ : Said6)]).length ((xs ++ [(⟨true, y1, y2, y3, y4, y5⟩ : Said6)]).flatMap Said6.vals)) := (by show World.ownsRow _ _ _ _ _ _ _; refine own_sets ?_ (Nat.lt_succ_self _) _ _; simpa using hown2); have HR5 : Hid _ := And.intro R1 (And.intro R2 (And.intro R3 (And.intro R4 R5))); clear hown2 hgrow hown hown3 p0 p1 pf hBx3 R1 R2 R3 R4 R5)
            go_roundw
            case rel => exact ⟨j + 1, y1, y2, xs ++ [(⟨true, y1, y2, y3, y4, y5⟩ : Said6)], by omega, by go_num, hNX.out, HG2, HN, HK2, HO2.out, HR5.out.1, HR5.out.2.1, HR5.out.2.2.1, HR5.out.2.2.2.1, HR5.out.2.2.2.2⟩
            case measure => simp [intOf]; omega
          · have hR : Hid (runF s h d a k fs = []) := runF_no HF.out HGd.out (by rw [← HX.out]; exact hok)
            go_wp2
            go_ret
            rw [hR.out]
            exact ⟨_, rfl, World.ownsRow_nil _ _ _ _, (hBx3.step (bone _ _)).2.2.2.2.2.2⟩
      · have ej : j = fs.length := by omega
        have hfin : Hid (runF s h d a k fs = xs) := by
          subst ej
          refine runF_yes (by omega) HR.out HO.out ?_
          rcases HK.out with e | e
          · exact .inl (List.length_eq_zero_iff.1 e)
          · exact .inr e
        go_wp2
        go_ret
        refine ⟨_, rfl, ?_, hBr.2.2.2.2.2.2⟩
        rw [hfin.out]
        exact ownsRow_base hown (by omega)

end Go.Proofs.Ytgpphkjdmonkaaa
