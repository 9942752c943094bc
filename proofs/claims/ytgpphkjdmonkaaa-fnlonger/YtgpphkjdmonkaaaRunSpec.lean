/-
  The model's run.
-/
import Derived.Test.YtgpphkjdmonkaaaTickAll
import Derived.Test.YtgpphkjdmonkaaaFrames
import Derived.Test.YtgpphkjdmonkaaaRunPlain
namespace Go.Proofs.Ytgpphkjdmonkaaa
open Go.RowKit
attribute [local go_sem ↓] Go.wp_at_zero Go.wp_at_succ

/-- A row of what is felt lies there. -/
def FeltsAt (ad : Option Addr) (fs : List Felt5) (W : World) : Prop :=
  fs = [] ∨ ∃ b off, ad = some ⟨b, off, none⟩ ∧ b < W.heap.size ∧ ∀ i f, fs[i]? = some f → W.cell? ⟨b, off + i * 5, none⟩ = some (.int .i64 f.high) ∧ W.cell? ⟨b, off + i * 5 + 1, none⟩ = some (.int .i64 f.speed) ∧ W.cell? ⟨b, off + i * 5 + 2, none⟩ = some (.int .i64 f.en) ∧ W.cell? ⟨b, off + i * 5 + 3, none⟩ = some (.int .i64 f.lim) ∧ W.cell? ⟨b, off + i * 5 + 4, none⟩ = some (.bool f.ack)
theorem FeltsAt.keep {ad : Option Addr} {fs : List Felt5} {W W' : World} (h : FeltsAt ad fs W) (hb : Below W.heap.size W W') : FeltsAt ad fs W' := by
  rcases h with h | ⟨b, off, e, hl, hc⟩
  · exact .inl h
  · refine .inr ⟨b, off, e, Nat.lt_of_lt_of_le hl hb.size, fun i f hf => ?_⟩
    obtain ⟨c0, c1, c2, c3, c4⟩ := hc i f hf
    have hx := (bcell hb).1
    exact ⟨(hx _ _ hl).trans c0, (hx _ _ hl).trans c1, (hx _ _ hl).trans c2, (hx _ _ hl).trans c3, (hx _ _ hl).trans c4⟩

theorem len_ok1 {n : Nat} (h : n ≤ 1000) : n + 1 ≤ maxLen := by unfold maxLen; omega
theorem new_said (Y : World) (n : Nat) (hn : Y.heap.size = n) (o : Obj) (x : Said6) (t : TypeId) : ∀ j u, x.vals[j]? = some u → ((Y.alloc o).alloc (.cells #[.bool x.ok, .int .i64 x.st, .int .i64 x.en, .int .i64 x.sp, .bool x.kept, .bool x.change] t)).cell? ((⟨n + 1, 0, none⟩ : Addr).add j) = some u := by
  intro j u hj
  have e : ((⟨n + 1, 0, none⟩ : Addr).add j) = ⟨(Y.alloc o).heap.size, j, none⟩ := by rw [World.size_alloc, hn]; simp [Addr.add]; omega
  rw [e, World.cell?_alloc_new]
  simpa [Said6.vals] using hj
theorem said_one (x : Said6) : ∀ u ∈ x.vals, u.oneCell' = true := by
  intro u hu
  simp only [Said6.vals, List.mem_cons, List.not_mem_nil, or_false] at hu
  rcases hu with rfl | rfl | rfl | rfl | rfl | rfl <;> rfl
theorem run_step {w w3 w10 : World} {s h d a k x0 x1 : Int} {G : Nat} {o1 o2 : Obj} {st en : Int} {row : Option Nat} (hBx : Box5 w s h d a k w3) (hG : w.heap.size < G) (plt : G < w3.heap.size) (p0 : w3.cell? ⟨G, 0, none⟩ = some (.int .i64 x0)) (p1 : w3.cell? ⟨G, 1, none⟩ = some (.int .i64 x1)) (pf : ∀ o, w3.frozen? ⟨G, o, none⟩ = false)
    (hr : ∀ k, row = some k → G + 1 ≤ k) (hgrow : ((((w3.setCell ⟨G, 0, none⟩ (.int .i64 st)).setCell ⟨G, 1, none⟩ (.int .i64 en)).alloc o1).alloc o2).grownBy w10 row) :
    Box5 w s h d a k w10 ∧ w10.cell? ⟨G, 0, none⟩ = some (.int .i64 st) ∧ w10.cell? ⟨G, 1, none⟩ = some (.int .i64 en) ∧ (∀ o, w10.frozen? ⟨G, o, none⟩ = false) ∧ G < w10.heap.size := by
  have hz : ((w3.setCell ⟨G, 0, none⟩ (.int .i64 st)).setCell ⟨G, 1, none⟩ (.int .i64 en)).heap.size = w3.heap.size := by simp [World.setCell]
  have hs : w3.heap.size + 1 + 1 ≤ w10.heap.size := by have := hgrow.size; rw [World.size_alloc, World.size_alloc, hz] at this; exact this
  have hb : ∀ i, i ≤ G → w10.heap[i]? = ((w3.setCell ⟨G, 0, none⟩ (.int .i64 st)).setCell ⟨G, 1, none⟩ (.int .i64 en)).heap[i]? := fun i hi => by
    rw [hgrow.block i (by rw [World.size_alloc, World.size_alloc, hz]; omega) (fun e => by have := hr i e.symm; omega), Below.heap_alloc _ _ _ (by rw [World.size_alloc, hz]; omega), Below.heap_alloc _ _ _ (by rw [hz]; omega)]
  have hb3 : ∀ i, i < G → w10.heap[i]? = w3.heap[i]? := fun i hi => by
    rw [hb i (by omega), Below.heap_setCell _ _ _ _ (by show i ≠ G; omega), Below.heap_setCell _ _ _ _ (by show i ≠ G; omega)]
  have hc : ∀ i o, i < G → w10.cell? ⟨i, o, none⟩ = w3.cell? ⟨i, o, none⟩ := fun i o hi => World.cell?_of_block (w := w3) (a := ⟨i, o, none⟩) (hb3 i hi)
  have hcG : ∀ o, w10.cell? ⟨G, o, none⟩ = ((w3.setCell ⟨G, 0, none⟩ (.int .i64 st)).setCell ⟨G, 1, none⟩ (.int .i64 en)).cell? ⟨G, o, none⟩ := fun o => World.cell?_of_block (a := ⟨G, o, none⟩) (hb G (Nat.le_refl _))
  have hfG : ∀ o, w10.frozen? ⟨G, o, none⟩ = ((w3.setCell ⟨G, 0, none⟩ (.int .i64 st)).setCell ⟨G, 1, none⟩ (.int .i64 en)).frozen? ⟨G, o, none⟩ := fun o => World.frozen?_of_block (a := ⟨G, o, none⟩) (hb G (Nat.le_refl _))
  obtain ⟨d0, d1, d2, d3, d4, dz, dB⟩ := hBx
  have hnew : Below w.heap.size w w10 := dB.trans ⟨hgrow.os, hgrow.tape, hgrow.output, by omega, fun i hi => hb3 i (by omega)⟩
  refine ⟨⟨(hc _ _ hG).trans d0, (hc _ _ hG).trans d1, (hc _ _ hG).trans d2, (hc _ _ hG).trans d3, (hc _ _ hG).trans d4, by omega, hnew⟩, ?_, ?_, fun o => by rw [hfG]; simpa using pf o, by omega⟩
  · rw [hcG, so (by decide)]; exact World.cell?_setCell_same _ _ _ p0
  · rw [hcG]; exact World.cell?_setCell_same _ _ _ (by rw [so (by decide)]; exact p1)

theorem infoSaid : (Try.prog.info? 32).map (fun i => (i.zero, i.size, i.bytes)) = some (some (.agg #[.bool false, .int .i64 0, .int .i64 0, .int .i64 0, .bool false, .bool false]), 6, 40) := by kernel_rfl
set_option maxRecDepth 100000 in
set_option maxHeartbeats 3200000 in
theorem run_spec (s h d a k : Int) (ad : Option Addr) (cap : Nat) (fs : List Felt5) (w : World) (hfs : FeltsAt ad fs w) (hl : fs.length ≤ 1048576) :
    Calls Try.prog 27 #[.agg #[.int .i64 s, .int .i64 h, .int .i64 d, .int .i64 a, .int .i64 k], .slice ad fs.length cap] w
      fun e w' => ∃ v, e = .returned v ∧ w'.ownsRow (w.heap.size + 1) 32 6 v (runF s h d a k fs).length ((runF s h d a k fs).flatMap Said6.vals) ∧ Below w.heap.size w w' := by
  rcases Bool.eq_false_or_eq_true (okB s h d a k) with h1 | h1
  · by_cases hlen : (1000 : Int) < fs.length
    · have hR : runF s h d a k fs = [] := by unfold runF; rw [if_neg]; simp; omega
      rw [hR]
      go_enter Try.func27, Try.ntmps27
      go_wp2_with fail
      refine (brakesOk_spec _ _ _ _ _ _).mono ?_; rintro e w1 ⟨rfl, hb1⟩
      go_wp2
      go_ret
      exact ⟨_, rfl, World.ownsRow_nil _ _ _ _, bstep (bone _ _) hb1⟩
    · go_enter Try.func27, Try.ntmps27
      go_wp2_with fail
      refine (brakesOk_spec _ _ _ _ _ _).mono ?_; rintro e w1 ⟨rfl, hb1⟩
      have hbox := (Box5.first w s h d a k 24).step hb1
      clear hb1
      go_wp2
      go_loopw [22] (fun si wr => ∃ j : Nat, j ≤ fs.length ∧ si = .int .i64 j ∧ Hid (∀ i f, i < j → fs[i]? = some f → f.okB = true) ∧ Box5 w s h d a k wr) (fun si _ => fs.length - (intOf si).toNat)
      case atStart => exact ⟨0, Nat.zero_le _, rfl, (fun i f hi => by omega), hbox⟩
      case round =>
        obtain ⟨j, hj, rfl, HO, hB⟩ := hrel
        by_cases hlt : j < fs.length
        · obtain ⟨f, hf⟩ : ∃ f, fs[j]? = some f := ⟨_, List.getElem?_eq_getElem hlt⟩
          rcases (hfs.keep hB.2.2.2.2.2.2) with hnil | ⟨b, off, rfl, hbl, hcs⟩
          · rw [hnil] at hlt; simp at hlt
          · obtain ⟨c0, c1, c2, c3, c4⟩ := hcs j f hf
            clear hcs
            have hlt2 : (0 : Int) ≤ (j : Int) ∧ (j : Int) < (fs.length : Int) := by omega
            rcases Bool.eq_false_or_eq_true f.okB with hok | hok
            · have HN : Hid (∀ i f, i < j + 1 → fs[i]? = some f → f.okB = true) := by
                intro i g hi hg
                by_cases e : i = j
                · subst e; rw [hf] at hg; cases hg; exact hok
                · exact HO.out i g (by omega) hg
              go_wp2_with fail
              refine (feltOk_spec f _).mono ?_; rintro e w3 ⟨rfl, hb3⟩
              go_wp2
              go_roundw
              case rel => exact ⟨j + 1, by omega, by go_num, HN, (hB.step (bone _ _)).step hb3⟩
              case measure => simp [intOf]; omega
            · have hR : Hid (runF s h d a k fs = []) := by
                show _ = _
                unfold runF
                rw [if_neg]
                intro hc
                simp only [Bool.and_eq_true, List.all_eq_true] at hc
                have := hc.2.2 f (List.mem_of_getElem? hf)
                rw [hok] at this; cases this
              go_wp2_with fail
              refine (feltOk_spec f _).mono ?_; rintro e w3 ⟨rfl, hb3⟩
              go_wp2
              go_ret
              rw [hR.out]
              exact ⟨_, rfl, World.ownsRow_nil _ _ _ _, ((hB.step (bone _ _)).step hb3).2.2.2.2.2.2⟩
        · have hR : Hid (runF s h d a k fs = runFrom s h d a k 3 (-1) fs) := by
            show _ = _
            unfold runF
            rw [if_pos]
            rw [h1]
            simp only [Bool.true_and, Bool.and_eq_true, decide_eq_true_eq, List.all_eq_true]
            refine ⟨by omega, fun f hf => ?_⟩
            obtain ⟨i, hi, he⟩ := List.getElem_of_mem hf
            exact HO.out i f (by omega) (by rw [List.getElem?_eq_getElem hi, he])
          obtain ⟨wo, hwo⟩ : ∃ wo : World, wo = wr := ⟨_, rfl⟩
          subst hwo
          clear HO
          obtain ⟨i0, hi, hz0, hz1, hz2⟩ := info_parts infoSaid
          go_wp2
          have hB2 : Box5 w s h d a k (wo.alloc (.cells #[.int .i64 3, .int .i64 (-1)] 26)) := hB.step (bone _ _)
          have hGb : w.heap.size < wo.heap.size := hB.2.2.2.2.2.1
          go_loopw [8, 33] (fun so si w2 => ∃ (j2 : Nat) (st en : Int) (xs : List Said6), j2 ≤ fs.length ∧ si = .int .i64 j2 ∧ RunAt s h d a k fs j2 st en xs ∧ w2.ownsRow (wo.heap.size + 1) 32 6 so xs.length (xs.flatMap Said6.vals) ∧ Box5 w s h d a k w2 ∧ w2.cell? ⟨wo.heap.size, 0, none⟩ = some (.int .i64 st) ∧ w2.cell? ⟨wo.heap.size, 1, none⟩ = some (.int .i64 en) ∧ (∀ o, w2.frozen? ⟨wo.heap.size, o, none⟩ = false) ∧ wo.heap.size < w2.heap.size) (fun _ si _ => fs.length - (intOf si).toNat)
          case atStart => exact ⟨0, 3, -1, [], Nat.zero_le _, rfl, RunAt.first _ _ _ _ _ _, World.ownsRow_nil _ _ _ _, hB2, by simp, by simp, fun o => by simp, by simp⟩
          case round =>
            obtain ⟨j2, st, en, xs, hj2, rfl, hrun, hown, hBr, gc0, gc1, gf, glt⟩ := hrel
            have hRun : Hid (RunAt s h d a k fs j2 st en xs) := hrun
            have hxl : xs.length = j2 := hrun.1
            clear hrun hB hB2
            by_cases hlt2 : j2 < fs.length
            · obtain ⟨f, hf⟩ : ∃ f, fs[j2]? = some f := ⟨_, List.getElem?_eq_getElem hlt2⟩
              rcases (hfs.keep hBr.2.2.2.2.2.2) with hnil | ⟨b, off, rfl, hbl, hcs⟩
              · rw [hnil] at hlt2; simp at hlt2
              · obtain ⟨c0, c1, c2, c3, c4⟩ := hcs j2 f hf
                clear hcs
                have hBr' := hBr
                obtain ⟨d0, d1, d2, d3, d4, dz, dB⟩ := hBr'
                have hNX : Hid _ := RunAt.next hRun.out hf
                go_wp2_with fail
                refine (tick_spec s h d a k st en f _).mono ?_; rintro e w3 ⟨rfl, hb3⟩
                obtain ⟨x, hx⟩ : ∃ x, x = tickF s h d a k st en f := ⟨_, rfl⟩
                rw [← hx] at hNX ⊢
                clear hx
                have hx3 : Below wr.heap.size wr w3 := bstep (bone _ _) hb3
                have hs3 := hx3.size
                have p0 : w3.cell? ⟨wo.heap.size, 0, none⟩ = some (.int .i64 st) := ((bcell hx3).1 _ _ glt).trans gc0
                have p1 : w3.cell? ⟨wo.heap.size, 1, none⟩ = some (.int .i64 en) := ((bcell hx3).1 _ _ glt).trans gc1
                have pf : ∀ o, w3.frozen? ⟨wo.heap.size, o, none⟩ = false := fun o => ((bcell hx3).2 _ _ glt).trans (gf o)
                have plt : wo.heap.size < w3.heap.size := by omega
                have hown3 := ownsRow_below hown hx3
                have hBx3 := hBr.step hx3
                clear hb3 d0 d1 d2 d3 d4 dz dB gc0 gc1 gf c0 c1 c2 c3 c4
                have hzz : ((w3.setCell ⟨wo.heap.size, 0, none⟩ (.int .i64 x.st)).setCell ⟨wo.heap.size, 1, none⟩ (.int .i64 x.en)).heap.size = w3.heap.size := by simp [World.setCell]
                have hlq : xs.length ≤ 1000 := by omega
                go_wp2_with (at_builtin; refine wpList_append_own _ rfl _ _ 45 rfl (wo.heap.size + 1) 32 i0 (.agg #[.bool false, .int .i64 0, .int .i64 0, .int .i64 0, .bool false, .bool false]) 6 40 Try.underlying45 hi hz0 hz1 hz2 rfl (by decide) _ _ _ rfl (((ownsRow_setCell_below (ownsRow_setCell_below hown3 (Nat.lt_succ_self _) _) (Nat.lt_succ_self _) _).alloc _).alloc _) ⟨w3.heap.size + 1, 0, none⟩ 1 1 x.vals rfl rfl (new_said _ _ hzz _ x _) (said_one x) (len_ok1 hlq) (by omega) (by rw [World.size_alloc, World.size_alloc, hzz]; omega) ?_; intro v2 w10 hown2 hgrow _)
                have R := run_step (x0 := st) (x1 := en) hBx3 hGb plt p0 p1 pf (own_ge hown) hgrow
                have HO2 : Hid (w10.ownsRow (wo.heap.size + 1) 32 6 v2 (xs ++ [x]).length ((xs ++ [x]).flatMap Said6.vals)) := by
                  show World.ownsRow _ _ _ _ _ _ _
                  simpa using hown2
                clear hown2 hgrow hown hown3 p0 p1 pf hBx3
                go_wp2
                go_roundw
                case rel => exact ⟨j2 + 1, x.st, x.en, xs ++ [x], by omega, by go_num, hNX.out, HO2.out, R.1, R.2.1, R.2.2.1, R.2.2.2.1, R.2.2.2.2⟩
                case measure => simp [intOf]; omega
            · have ej : j2 = fs.length := by omega
              have hfin : Hid (xs = runFrom s h d a k 3 (-1) fs) := by
                have := hRun.out
                rw [ej] at this
                exact this.last
              go_wp2
              go_ret
              refine ⟨_, rfl, ?_, hBr.2.2.2.2.2.2⟩
              rw [hR.out, ← hfin.out]
              exact ownsRow_base hown (by omega)
  · have hR : runF s h d a k fs = [] := by unfold runF; rw [h1]; rfl
    rw [hR]
    go_enter Try.func27, Try.ntmps27
    go_wp2_with fail
    refine (brakesOk_spec _ _ _ _ _ _).mono ?_; rintro e w1 ⟨rfl, hb1⟩
    go_wp2
    go_ret
    exact ⟨_, rfl, World.ownsRow_nil _ _ _ _, bstep (bone _ _) hb1⟩

end Go.Proofs.Ytgpphkjdmonkaaa
