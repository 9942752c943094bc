/-
  The law that a run is its ticks: the walk.
-/
import Derived.Test.YtgpphkjdmonkaaaDrawRun
import Derived.Test.YtgpphkjdmonkaaaRunImpl
import Derived.Test.YtgpphkjdmonkaaaRunLaw
import Derived.Test.YtgpphkjdmonkaaaCurvesWalk
namespace Go.Proofs.Ytgpphkjdmonkaaa
open Go.RowKit
attribute [local go_sem ↓] Go.wp_at_zero Go.wp_at_succ

theorem feltsAt_any {base cap : Nat} {ad : Option Addr} {t : TypeId} {fs : List Felt5} {W : World} (h : W.ownsRow base t 5 (.slice ad fs.length cap) fs.length (fs.flatMap Felt5.vals)) : FeltsAt ad fs W := by
  have h' := h
  obtain ⟨_, h2⟩ := h'
  rcases h2 with ⟨_, hn⟩ | ⟨g, c, cur, e, _, hg, _⟩
  · exact .inl (List.length_eq_zero_iff.1 hn)
  · cases e
    exact feltsAt_own h (by obtain ⟨hh, _⟩ := Array.getElem?_eq_some_iff.1 hg; exact hh)
/-- A run that says something: each of its ticks is right. -/
theorem runs_tick {s hh d a k st en : Int} {fs : List Felt5} {j : Nat} {ys : List Said6} (hj : j < (runF s hh d a k fs).length) (hr : RunAt s hh d a k fs j st en ys) (hg : guardB st en = true) :
    ∃ f, fs[j]? = some f ∧ (runF s hh d a k fs)[j]? = some (tickF s hh d a k st en f) ∧ (tickF s hh d a k st en f).ok = true ∧ guardB (tickF s hh d a k st en f).st (tickF s hh d a k st en f).en = true := by
  have he : runF s hh d a k fs = runFrom s hh d a k 3 (-1) fs ∧ okB s hh d a k = true ∧ fs.all Felt5.okB = true := by
    unfold runF at hj ⊢
    by_cases e : (okB s hh d a k && (decide (fs.length ≤ 1000) && fs.all Felt5.okB)) = true
    · rw [if_pos e]
      rw [Bool.and_eq_true, Bool.and_eq_true] at e
      exact ⟨rfl, e.1, e.2.2⟩
    · rw [if_neg e] at hj; simp at hj
  obtain ⟨e1, e2, e3⟩ := he
  have hjf : j < fs.length := by rw [e1, runFrom_length] at hj; exact hj
  have hf : fs[j]? = some fs[j] := List.getElem?_eq_getElem hjf
  have hok : (tickF s hh d a k st en fs[j]).ok = true := by
    rw [tickF_ok, e2, hg, List.all_eq_true.1 e3 _ (List.getElem_mem hjf)]; rfl
  refine ⟨fs[j], hf, ?_, hok, tickF_guard hok⟩
  obtain ⟨n1, n2⟩ := RunAt.next hr hf
  rw [e1, ← n2]
  have hl : ys.length = j := hr.1
  rw [List.getElem?_append_left (by simp [hl]), List.getElem?_append_right (by omega), hl]
  simp

set_option maxRecDepth 100000 in
set_option maxHeartbeats 12800000 in
theorem runsLaw_any (a0 : Option Addr) (len0 cap0 : Nat) (w : World) (s0 : len0 ≤ 9223372036854775807) (k0 : Lie a0 len0 w) :
    Calls Try.prog 6 #[.slice a0 len0 cap0] w fun e w' => e = .returned (.bool true) ∧ Below w.heap.size w w' := by
  by_cases hbig : (1048576 : Int) < len0
  · go_enter Try.func6, Try.ntmps6
    go_wp2
    go_ret
    exact ⟨rfl, Below.refl _ _⟩
  · have hin : Came a0 len0 w := ⟨by omega, k0⟩
    go_enter Try.func6, Try.ntmps6
    go_wp2_with fail
    refine (drawRun_any hin).mono ?_; rintro e w1 ⟨s, hh, d, a, k, v, fs, rfl, hfl, ho1, hb1⟩
    obtain ⟨ad, cap, rfl⟩ := own_form ho1
    have hfs := (feltsAt_any ho1).keep (bone w1 (.cells #[.int .i64 s, .int .i64 hh, .int .i64 d, .int .i64 a, .int .i64 k] 24))
    have hB1 := Lay.new w1 #[.int .i64 s, .int .i64 hh, .int .i64 d, .int .i64 a, .int .i64 k] 24
    have hbel1 := bstep hb1 (bone w1 (.cells #[.int .i64 s, .int .i64 hh, .int .i64 d, .int .i64 a, .int .i64 k] 24))
    clear ho1 hb1
    obtain ⟨xs, hxs⟩ : ∃ xs, xs = runF s hh d a k fs := ⟨_, rfl⟩
    have hSpec := run_spec s hh d a k (fs := fs)
    have hImpl := run_impl s hh d a k (fs := fs)
    rw [← hxs] at hSpec hImpl
    have HXS : Hid (xs = runF s hh d a k fs) := hxs
    have HS : Hid _ := hSpec
    have HI : Hid _ := hImpl
    clear hSpec hImpl hxs
    obtain ⟨c0, c1, c2, c3, c4, _, _⟩ := hB1.five
    go_wp2_with fail
    refine (HI.out ad cap _ hfs (by omega)).mono ?_; rintro e w2 ⟨v1, rfl, ho2, hb2⟩
    obtain ⟨ad1, cap1, rfl⟩ := own_form ho2
    have hB2 := hB1.below hb2
    have hfs2 := hfs.keep hb2
    have hsa2 := saidsAt_own ho2
    have hbel2 := bstep hbel1 hb2
    clear c0 c1 c2 c3 c4 hB1 hfs hbel1 hb2 ho2
    obtain ⟨c0, c1, c2, c3, c4, _, _⟩ := hB2.five
    go_wp2_with fail
    refine (HS.out ad cap _ hfs2 (by omega)).mono ?_; rintro e w3 ⟨v2, rfl, ho3, hb3⟩
    obtain ⟨ad2, cap2, rfl⟩ := own_form ho3
    have hB3 := hB2.below hb3
    have hfs3 := hfs2.keep hb3
    have hsa3 := hsa2.keep hb3
    have hsb3 := saidsAt_own ho3
    have hbel3 := bstep hbel2 hb3
    clear c0 c1 c2 c3 c4 hB2 hfs2 hsa2 hbel2 hb3 ho3 HS HI
    obtain ⟨W0, hW0⟩ : ∃ W0, W0 = w3 := ⟨_, rfl⟩
    subst hW0
    have hltB := hB3.lt
    have hxl : (xs.length : Int) ≤ 1048576 := by
      have h1 : (runF s hh d a k fs).length ≤ fs.length := by
        unfold runF
        split
        · rw [runFrom_length]; exact Nat.le_refl _
        · simp
      rw [HXS.out]; omega
    go_wp2
    go_loopw [32] (fun si wr => ∃ (j : Nat) (st en : Int) (ys : List Said6), j ≤ xs.length ∧ si = .int .i64 j ∧ Hid (RunAt s hh d a k fs j st en ys) ∧ Hid (guardB st en = true) ∧ Below W0.heap.size W0 wr ∧ Lay W0.heap.size [.int .i64 st, .int .i64 en] wr) (fun si _ => xs.length - (intOf si).toNat)
    case atStart => exact ⟨0, 3, -1, [], Nat.zero_le _, rfl, RunAt.first _ _ _ _ _ _, rfl, bone _ _, Lay.new W0 #[.int .i64 3, .int .i64 (-1)] 26⟩
    case round =>
      obtain ⟨j, st, en, ys, hj, rfl, HR, HGd, hBw, hG⟩ := hrel
      by_cases hlt : j < xs.length
      · obtain ⟨f, hf, hx, hok, hgx⟩ := runs_tick (by rw [← HXS.out]; exact hlt) HR.out HGd.out
        rw [← HXS.out] at hx
        have hNX : Hid _ := RunAt.next HR.out hf
        have hTick := tick_impl s hh d a k st en f
        obtain ⟨x, hxe⟩ : ∃ x, x = tickF s hh d a k st en f := ⟨_, rfl⟩
        rw [← hxe] at hx hok hgx hNX hTick
        clear hxe
        have HOK : Hid (x.ok = true) := hok
        have HGX : Hid (guardB x.st x.en = true) := hgx
        clear hok hgx
        rcases hfs3 with hnil | ⟨bf, of, rfl, hbf, hcf⟩
        · rw [hnil] at hf; simp at hf
        rcases hsa3 with hnil | ⟨b1, o1, rfl, hb1, hca⟩
        · rw [hnil] at hx; simp at hx
        rcases hsb3 with hnil | ⟨b2, o2, rfl, hb2, hcb⟩
        · rw [hnil] at hx; simp at hx
        have hcf2 := hcf j f hf
        have hca2 := hca j x hx
        have hcb2 := hcb j x hx
        have hjf : (j : Int) < fs.length := by have := (List.getElem?_eq_some_iff.1 hf).1; omega
        have hj0 : (0 : Int) ≤ (j : Int) := by omega
        have hjx : (j : Int) < xs.length := by omega
        clear hcf hca hcb hf hx
        have cellsF : ∀ {V : World}, Below W0.heap.size W0 V → (V.cell? ⟨bf, of + j * 5, none⟩ = some (.int .i64 f.high) ∧ V.cell? ⟨bf, of + j * 5 + 1, none⟩ = some (.int .i64 f.speed) ∧ V.cell? ⟨bf, of + j * 5 + 2, none⟩ = some (.int .i64 f.en) ∧ V.cell? ⟨bf, of + j * 5 + 3, none⟩ = some (.int .i64 f.lim) ∧ V.cell? ⟨bf, of + j * 5 + 4, none⟩ = some (.bool f.ack)) := fun {V} hV => by
          obtain ⟨p0, p1, p2, p3, p4⟩ := hcf2
          exact ⟨(hV.cell (p := ⟨bf, _, none⟩) hbf).trans p0, (hV.cell (p := ⟨bf, _, none⟩) hbf).trans p1, (hV.cell (p := ⟨bf, _, none⟩) hbf).trans p2, (hV.cell (p := ⟨bf, _, none⟩) hbf).trans p3, (hV.cell (p := ⟨bf, _, none⟩) hbf).trans p4⟩
        have all12 : ∀ {V : World}, Below W0.heap.size W0 V → Lay W0.heap.size [.int .i64 st, .int .i64 en] V → (V.cell? ⟨w1.heap.size, 0, none⟩ = some (.int .i64 s) ∧ V.cell? ⟨w1.heap.size, 1, none⟩ = some (.int .i64 hh) ∧ V.cell? ⟨w1.heap.size, 2, none⟩ = some (.int .i64 d) ∧ V.cell? ⟨w1.heap.size, 3, none⟩ = some (.int .i64 a) ∧ V.cell? ⟨w1.heap.size, 4, none⟩ = some (.int .i64 k) ∧ V.cell? ⟨W0.heap.size, 0, none⟩ = some (.int .i64 st) ∧ V.cell? ⟨W0.heap.size, 1, none⟩ = some (.int .i64 en) ∧ V.cell? ⟨bf, of + j * 5, none⟩ = some (.int .i64 f.high) ∧ V.cell? ⟨bf, of + j * 5 + 1, none⟩ = some (.int .i64 f.speed) ∧ V.cell? ⟨bf, of + j * 5 + 2, none⟩ = some (.int .i64 f.en) ∧ V.cell? ⟨bf, of + j * 5 + 3, none⟩ = some (.int .i64 f.lim) ∧ V.cell? ⟨bf, of + j * 5 + 4, none⟩ = some (.bool f.ack)) := fun {V} hV hL => by
          obtain ⟨q0, q1, q2, q3, q4, _, _⟩ := (hB3.under hV hltB).five
          obtain ⟨g0, g1, _, _⟩ := hL.two
          obtain ⟨p0, p1, p2, p3, p4⟩ := cellsF hV
          exact ⟨q0, q1, q2, q3, q4, g0, g1, p0, p1, p2, p3, p4⟩
        have hltw : W0.heap.size < wr.heap.size := hG.lt
        go_wp2
        go_cut [9] from 33 to 67 (fun t9 wx => ∃ (wz : World) (Ns : Nat), wz = wx ∧ t9 = .pointer (some ⟨Ns, 0, none⟩) ∧ W0.heap.size < Ns ∧ Lay Ns [.bool x.ok, .int .i64 x.st, .int .i64 x.en, .int .i64 x.sp, .bool x.kept, .bool x.change] wx ∧ Below W0.heap.size W0 wx ∧ Lay W0.heap.size [.int .i64 st, .int .i64 en] wx)
        case first =>
          refine wp_region_held_drew (S := fun w' => w'.cell? ⟨w1.heap.size, 0, none⟩ = some (.int .i64 s) ∧ w'.cell? ⟨w1.heap.size, 1, none⟩ = some (.int .i64 hh) ∧ w'.cell? ⟨w1.heap.size, 2, none⟩ = some (.int .i64 d) ∧ w'.cell? ⟨w1.heap.size, 3, none⟩ = some (.int .i64 a) ∧ w'.cell? ⟨w1.heap.size, 4, none⟩ = some (.int .i64 k) ∧ w'.cell? ⟨W0.heap.size, 0, none⟩ = some (.int .i64 st) ∧ w'.cell? ⟨W0.heap.size, 1, none⟩ = some (.int .i64 en) ∧ w'.cell? ⟨bf, of + j * 5, none⟩ = some (.int .i64 f.high) ∧ w'.cell? ⟨bf, of + j * 5 + 1, none⟩ = some (.int .i64 f.speed) ∧ w'.cell? ⟨bf, of + j * 5 + 2, none⟩ = some (.int .i64 f.en) ∧ w'.cell? ⟨bf, of + j * 5 + 3, none⟩ = some (.int .i64 f.lim) ∧ w'.cell? ⟨bf, of + j * 5 + 4, none⟩ = some (.bool f.ack)) (by kernel_rfl) (all12 hBw.drew hG.drew) (fun hHeld => ?_)
          refine wpAnyH_take (i := 0) (v := ?v0) rfl (by kernel_rfl) (by decide +kernel) (by decide +kernel) (fun _ _ _ h => h) (Or.inl ⟨by rfl, ?hy0⟩) (by assumption) ?rest0
          case hy0 => (intro w hSw; (try dsimp only at hSw); go_simp; (try with_reducible rfl))
          try simp only [Act.put, List.getElem_toArray, List.getElem_cons_zero, List.setIfInBounds_toArray, List.set_cons_zero, List.set_cons_succ]
          refine wpAnyH_take (i := 1) (v := ?v1) rfl (by kernel_rfl) (by decide +kernel) (by decide +kernel) (fun _ _ _ h => h) (Or.inl ⟨by rfl, ?hy1⟩) (by assumption) ?rest1
          case hy1 => (intro w hSw; (try dsimp only at hSw); go_simp; (try with_reducible rfl))
          try simp only [Act.put, List.getElem_toArray, List.getElem_cons_succ, List.getElem_cons_zero, List.setIfInBounds_toArray, List.set_cons_zero, List.set_cons_succ]
          refine wpAnyH_take (i := 2) (v := ?v2) rfl (by kernel_rfl) (by decide +kernel) (by decide +kernel) (fun _ _ _ h => h) (Or.inl ⟨by rfl, ?hy2⟩) (by assumption) ?rest2
          case hy2 => (intro w hSw; (try dsimp only at hSw); go_simp; (try with_reducible rfl))
          try simp only [Act.put, List.getElem_toArray, List.getElem_cons_succ, List.getElem_cons_zero, List.setIfInBounds_toArray, List.set_cons_zero, List.set_cons_succ]
          refine wpAnyH_take (i := 3) (v := ?v3) rfl (by kernel_rfl) (by decide +kernel) (by decide +kernel) (fun _ _ _ h => h) (Or.inl ⟨by rfl, ?hy3⟩) (by assumption) ?rest3
          case hy3 => (intro w hSw; (try dsimp only at hSw); go_simp; (try with_reducible rfl))
          try simp only [Act.put, List.getElem_toArray, List.getElem_cons_succ, List.getElem_cons_zero, List.setIfInBounds_toArray, List.set_cons_zero, List.set_cons_succ]
          refine wpAnyH_take (i := 4) (v := ?v4) rfl (by kernel_rfl) (by decide +kernel) (by decide +kernel) (fun _ _ _ h => h) (Or.inl ⟨by rfl, ?hy4⟩) (by assumption) ?rest4
          case hy4 => (intro w hSw; (try dsimp only at hSw); go_simp; (try with_reducible rfl))
          try simp only [Act.put, List.getElem_toArray, List.getElem_cons_succ, List.getElem_cons_zero, List.setIfInBounds_toArray, List.set_cons_zero, List.set_cons_succ]
          refine wpAnyH_take (i := 5) (v := ?v5) rfl (by kernel_rfl) (by decide +kernel) (by decide +kernel) (fun _ _ _ h => h) (Or.inl ⟨by rfl, ?hy5⟩) (by assumption) ?rest5
          case hy5 => (intro w hSw; (try dsimp only at hSw); go_simp; (try with_reducible rfl))
          try simp only [Act.put, List.getElem_toArray, List.getElem_cons_succ, List.getElem_cons_zero, List.setIfInBounds_toArray, List.set_cons_zero, List.set_cons_succ]
          refine wpAnyH_ready (rs := [6, 7]) (by decide +kernel) (by simp) ?_
          refine AllReadyH.cons rfl (fun K hK => ?_) (AllReadyH.cons rfl (fun K hK => ?_) AllReadyH.nil)
          · go_simp
            go_wp2_with (go_at_call 13; refine (hTick _).mono ?_; rintro e w5 ⟨rfl, hb5⟩; have hB5 : Below W0.heap.size W0 w5 := bstep hBw.drew hb5; have hG5 := hG.drew.below hb5; have hlt5 : W0.heap.size < w5.heap.size := hG5.lt)
            refine hK.out _ _ (all12 hB5 hG5) (fun hHeld => ?_)
            clear hK K
            try simp only [Act.put, List.getElem_toArray, List.getElem_cons_succ, List.getElem_cons_zero, List.setIfInBounds_toArray, List.set_cons_zero, List.set_cons_succ]
            refine wpAnyH_ready (rs := [7]) (by decide +kernel) (by simp) ?_
            refine AllReadyH.cons rfl (fun K hK => ?_) AllReadyH.nil
            go_simp
            refine hK.out _ _ (all12 (bstep hB5 (bone _ _)) (hG5.alloc _)) (fun hHeld => ?_)
            clear hK K
            try simp only [Act.put, List.getElem_toArray, List.getElem_cons_succ, List.getElem_cons_zero, List.setIfInBounds_toArray, List.set_cons_zero, List.set_cons_succ]
            refine wpAnyH_ready (rs := [8]) (by decide +kernel) (by simp) ?_
            refine AllReadyH.cons rfl (fun K hK => ?_) AllReadyH.nil
            go_simp
            refine hK.out _ _ (all12 (bstep hB5 (bone _ _)) (hG5.alloc _)) (fun hHeld => ?_)
            clear hK K
            try simp only [Act.put, List.getElem_toArray, List.getElem_cons_succ, List.getElem_cons_zero, List.setIfInBounds_toArray, List.set_cons_zero, List.set_cons_succ]
            refine wpAnyH_done (by kernel_rfl) ?_ _
            go_wp2_with fail
            go_meet
            exact ⟨_, w5.heap.size, rfl, rfl, hlt5, Lay.new w5 #[.bool x.ok, .int .i64 x.st, .int .i64 x.en, .int .i64 x.sp, .bool x.kept, .bool x.change] 32, bstep hB5 (bone _ _), hG5.alloc _⟩
          · go_simp
            refine hK.out _ _ (all12 (bstep hBw.drew (bone _ _)) (hG.drew.alloc _)) (fun hHeld => ?_)
            clear hK K
            try simp only [Act.put, List.getElem_toArray, List.getElem_cons_succ, List.getElem_cons_zero, List.setIfInBounds_toArray, List.set_cons_zero, List.set_cons_succ]
            refine wpAnyH_ready (rs := [6]) (by decide +kernel) (by simp) ?_
            refine AllReadyH.cons rfl (fun K hK => ?_) AllReadyH.nil
            go_simp
            go_wp2_with (go_at_call 13; refine (hTick _).mono ?_; rintro e w5 ⟨rfl, hb5⟩; have hB5 : Below W0.heap.size W0 w5 := bstep (bstep hBw.drew (bone _ _)) hb5; have hG5 := (hG.drew.alloc _).below hb5; have hZ5 : Lay wr.heap.size [.bool false, .int .i64 0, .int .i64 0, .int .i64 0, .bool false, .bool false] w5 := (Lay.new wr.drew #[.bool false, .int .i64 0, .int .i64 0, .int .i64 0, .bool false, .bool false] 32).below hb5; obtain ⟨z0, z1, z2, z3, z4, z5, zf, _⟩ := hZ5.six)
            refine hK.out _ _ (all12 hB5 hG5) (fun hHeld => ?_)
            clear hK K
            try simp only [Act.put, List.getElem_toArray, List.getElem_cons_succ, List.getElem_cons_zero, List.setIfInBounds_toArray, List.set_cons_zero, List.set_cons_succ]
            refine wpAnyH_ready (rs := [8]) (by decide +kernel) (by simp) ?_
            refine AllReadyH.cons rfl (fun K hK => ?_) AllReadyH.nil
            go_simp
            refine hK.out _ _ (all12 ((((((hB5.setCell (p := ⟨wr.heap.size, 0, none⟩) (by show W0.heap.size ≤ wr.heap.size; omega) _).setCell (p := ⟨wr.heap.size, 1, none⟩) (by show W0.heap.size ≤ wr.heap.size; omega) _).setCell (p := ⟨wr.heap.size, 2, none⟩) (by show W0.heap.size ≤ wr.heap.size; omega) _).setCell (p := ⟨wr.heap.size, 3, none⟩) (by show W0.heap.size ≤ wr.heap.size; omega) _).setCell (p := ⟨wr.heap.size, 4, none⟩) (by show W0.heap.size ≤ wr.heap.size; omega) _).setCell (p := ⟨wr.heap.size, 5, none⟩) (by show W0.heap.size ≤ wr.heap.size; omega) _) ((((((hG5.far (M := wr.heap.size) (by omega) 0 _).far (M := wr.heap.size) (by omega) 1 _).far (M := wr.heap.size) (by omega) 2 _).far (M := wr.heap.size) (by omega) 3 _).far (M := wr.heap.size) (by omega) 4 _).far (M := wr.heap.size) (by omega) 5 _)) (fun hHeld => ?_)
            clear hK K
            try simp only [Act.put, List.getElem_toArray, List.getElem_cons_succ, List.getElem_cons_zero, List.setIfInBounds_toArray, List.set_cons_zero, List.set_cons_succ]
            refine wpAnyH_done (by kernel_rfl) ?_ _
            go_wp2_with fail
            go_meet
            exact ⟨_, wr.heap.size, rfl, rfl, hltw, ((((((hZ5.set 0 (.bool x.ok) (by simp)).set 1 (.int .i64 x.st) (by simp)).set 2 (.int .i64 x.en) (by simp)).set 3 (.int .i64 x.sp) (by simp)).set 4 (.bool x.kept) (by simp)).set 5 (.bool x.change) (by simp)), ((((((hB5.setCell (p := ⟨wr.heap.size, 0, none⟩) (by show W0.heap.size ≤ wr.heap.size; omega) _).setCell (p := ⟨wr.heap.size, 1, none⟩) (by show W0.heap.size ≤ wr.heap.size; omega) _).setCell (p := ⟨wr.heap.size, 2, none⟩) (by show W0.heap.size ≤ wr.heap.size; omega) _).setCell (p := ⟨wr.heap.size, 3, none⟩) (by show W0.heap.size ≤ wr.heap.size; omega) _).setCell (p := ⟨wr.heap.size, 4, none⟩) (by show W0.heap.size ≤ wr.heap.size; omega) _).setCell (p := ⟨wr.heap.size, 5, none⟩) (by show W0.heap.size ≤ wr.heap.size; omega) _), ((((((hG5.far (M := wr.heap.size) (by omega) 0 _).far (M := wr.heap.size) (by omega) 1 _).far (M := wr.heap.size) (by omega) 2 _).far (M := wr.heap.size) (by omega) 3 _).far (M := wr.heap.size) (by omega) 4 _).far (M := wr.heap.size) (by omega) 5 _)⟩
        case rest =>
          obtain ⟨w6, Ns, rfl, rfl, hNs, hX6, hB6, hG6⟩ := hcut
          have all13 : ∀ {V : World}, Below W0.heap.size W0 V → Lay Ns [.bool x.ok, .int .i64 x.st, .int .i64 x.en, .int .i64 x.sp, .bool x.kept, .bool x.change] V → (V.cell? ⟨b1, o1 + j * 6, none⟩ = some (.bool x.ok) ∧ V.cell? ⟨b1, o1 + j * 6 + 1, none⟩ = some (.int .i64 x.st) ∧ V.cell? ⟨b1, o1 + j * 6 + 2, none⟩ = some (.int .i64 x.en) ∧ V.cell? ⟨b1, o1 + j * 6 + 3, none⟩ = some (.int .i64 x.sp) ∧ V.cell? ⟨b1, o1 + j * 6 + 4, none⟩ = some (.bool x.kept) ∧ V.cell? ⟨b1, o1 + j * 6 + 5, none⟩ = some (.bool x.change) ∧ V.cell? ⟨b2, o2 + j * 6, none⟩ = some (.bool x.ok) ∧ V.cell? ⟨b2, o2 + j * 6 + 1, none⟩ = some (.int .i64 x.st) ∧ V.cell? ⟨b2, o2 + j * 6 + 2, none⟩ = some (.int .i64 x.en) ∧ V.cell? ⟨b2, o2 + j * 6 + 3, none⟩ = some (.int .i64 x.sp) ∧ V.cell? ⟨b2, o2 + j * 6 + 4, none⟩ = some (.bool x.kept) ∧ V.cell? ⟨b2, o2 + j * 6 + 5, none⟩ = some (.bool x.change) ∧ V.cell? ⟨Ns, 0, none⟩ = some (.bool x.ok) ∧ V.cell? ⟨Ns, 1, none⟩ = some (.int .i64 x.st) ∧ V.cell? ⟨Ns, 2, none⟩ = some (.int .i64 x.en) ∧ V.cell? ⟨Ns, 3, none⟩ = some (.int .i64 x.sp) ∧ V.cell? ⟨Ns, 4, none⟩ = some (.bool x.kept) ∧ V.cell? ⟨Ns, 5, none⟩ = some (.bool x.change)) := fun {V} hV hL => by
            obtain ⟨p0, p1, p2, p3, p4, p5⟩ := hca2
            obtain ⟨q0, q1, q2, q3, q4, q5⟩ := hcb2
            obtain ⟨t0, t1, t2, t3, t4, t5, _, _⟩ := hL.six
            exact ⟨(hV.cell (p := ⟨b1, _, none⟩) hb1).trans p0, (hV.cell (p := ⟨b1, _, none⟩) hb1).trans p1, (hV.cell (p := ⟨b1, _, none⟩) hb1).trans p2, (hV.cell (p := ⟨b1, _, none⟩) hb1).trans p3, (hV.cell (p := ⟨b1, _, none⟩) hb1).trans p4, (hV.cell (p := ⟨b1, _, none⟩) hb1).trans p5, (hV.cell (p := ⟨b2, _, none⟩) hb2).trans q0, (hV.cell (p := ⟨b2, _, none⟩) hb2).trans q1, (hV.cell (p := ⟨b2, _, none⟩) hb2).trans q2, (hV.cell (p := ⟨b2, _, none⟩) hb2).trans q3, (hV.cell (p := ⟨b2, _, none⟩) hb2).trans q4, (hV.cell (p := ⟨b2, _, none⟩) hb2).trans q5, t0, t1, t2, t3, t4, t5⟩
          have hGuard := guardOk_impl x.st x.en
          rw [HGX.out] at hGuard
          go_wp2
          refine wp_region_held_drew (S := fun w' => w'.cell? ⟨b1, o1 + j * 6, none⟩ = some (.bool x.ok) ∧ w'.cell? ⟨b1, o1 + j * 6 + 1, none⟩ = some (.int .i64 x.st) ∧ w'.cell? ⟨b1, o1 + j * 6 + 2, none⟩ = some (.int .i64 x.en) ∧ w'.cell? ⟨b1, o1 + j * 6 + 3, none⟩ = some (.int .i64 x.sp) ∧ w'.cell? ⟨b1, o1 + j * 6 + 4, none⟩ = some (.bool x.kept) ∧ w'.cell? ⟨b1, o1 + j * 6 + 5, none⟩ = some (.bool x.change) ∧ w'.cell? ⟨b2, o2 + j * 6, none⟩ = some (.bool x.ok) ∧ w'.cell? ⟨b2, o2 + j * 6 + 1, none⟩ = some (.int .i64 x.st) ∧ w'.cell? ⟨b2, o2 + j * 6 + 2, none⟩ = some (.int .i64 x.en) ∧ w'.cell? ⟨b2, o2 + j * 6 + 3, none⟩ = some (.int .i64 x.sp) ∧ w'.cell? ⟨b2, o2 + j * 6 + 4, none⟩ = some (.bool x.kept) ∧ w'.cell? ⟨b2, o2 + j * 6 + 5, none⟩ = some (.bool x.change) ∧ w'.cell? ⟨Ns, 0, none⟩ = some (.bool x.ok) ∧ w'.cell? ⟨Ns, 1, none⟩ = some (.int .i64 x.st) ∧ w'.cell? ⟨Ns, 2, none⟩ = some (.int .i64 x.en) ∧ w'.cell? ⟨Ns, 3, none⟩ = some (.int .i64 x.sp) ∧ w'.cell? ⟨Ns, 4, none⟩ = some (.bool x.kept) ∧ w'.cell? ⟨Ns, 5, none⟩ = some (.bool x.change)) (by kernel_rfl) (all13 hB6.drew hX6.drew) (fun hHeld => ?_)
          refine wpAnyH_take (i := 0) (v := ?v6) rfl (by kernel_rfl) (by decide +kernel) (by decide +kernel) (fun _ _ _ h => h) (Or.inl ⟨by rfl, ?hy6⟩) (by assumption) ?rest6
          case hy6 => (intro w hSw; (try dsimp only at hSw); go_simp; (try with_reducible rfl))
          try simp only [Act.put, List.getElem_toArray, List.getElem_cons_zero, List.setIfInBounds_toArray, List.set_cons_zero, List.set_cons_succ]
          refine wpAnyH_take (i := 1) (v := ?v7) rfl (by kernel_rfl) (by decide +kernel) (by decide +kernel) (fun _ _ _ h => h) (Or.inl ⟨by rfl, ?hy7⟩) (by assumption) ?rest7
          case hy7 => (intro w hSw; (try dsimp only at hSw); go_simp; (try with_reducible rfl))
          try simp only [Act.put, List.getElem_toArray, List.getElem_cons_succ, List.getElem_cons_zero, List.setIfInBounds_toArray, List.set_cons_zero, List.set_cons_succ]
          refine wpAnyH_take (i := 4) (v := ?v8) rfl (by kernel_rfl) (by decide +kernel) (by decide +kernel) (fun _ _ _ h => h) (Or.inl ⟨by rfl, ?hy8⟩) (by assumption) ?rest8
          case hy8 => (intro w hSw; (try dsimp only at hSw); go_simp; (try with_reducible rfl))
          try simp only [Act.put, List.getElem_toArray, List.getElem_cons_succ, List.getElem_cons_zero, List.setIfInBounds_toArray, List.set_cons_zero, List.set_cons_succ]
          refine wpAnyH_take (i := 5) (v := ?v9) rfl (by kernel_rfl) (by decide +kernel) (by decide +kernel) (fun _ _ _ h => h) (Or.inl ⟨by rfl, ?hy9⟩) (by assumption) ?rest9
          case hy9 => (intro w hSw; (try dsimp only at hSw); go_simp; (try with_reducible rfl))
          try simp only [Act.put, List.getElem_toArray, List.getElem_cons_succ, List.getElem_cons_zero, List.setIfInBounds_toArray, List.set_cons_zero, List.set_cons_succ]
          refine wpAnyH_take (i := 2) (v := ?v10) rfl (by kernel_rfl) (by decide +kernel) (by decide +kernel) (fun _ _ _ h => h) (Or.inl ⟨by rfl, ?hy10⟩) (by assumption) ?rest10
          case hy10 => (intro w hSw; (try dsimp only at hSw); go_simp; (try with_reducible rfl))
          try simp only [Act.put, List.getElem_toArray, List.getElem_cons_succ, List.getElem_cons_zero, List.setIfInBounds_toArray, List.set_cons_zero, List.set_cons_succ]
          refine wpAnyH_take (i := 6) (v := ?v11) rfl (by kernel_rfl) (by decide +kernel) (by decide +kernel) (fun _ _ _ h => h) (Or.inl ⟨by rfl, ?hy11⟩) (by assumption) ?rest11
          case hy11 => (intro w hSw; (try dsimp only at hSw); go_simp; (try with_reducible rfl))
          try simp only [Act.put, List.getElem_toArray, List.getElem_cons_succ, List.getElem_cons_zero, List.setIfInBounds_toArray, List.set_cons_zero, List.set_cons_succ]
          refine wpAnyH_take (i := 3) (v := ?v12) rfl (by kernel_rfl) (by decide +kernel) (by decide +kernel) (fun _ _ _ h => h) (Or.inl ⟨by rfl, ?hy12⟩) (by assumption) ?rest12
          case hy12 => (intro w hSw; (try dsimp only at hSw); go_simp; (try with_reducible rfl))
          try simp only [Act.put, List.getElem_toArray, List.getElem_cons_succ, List.getElem_cons_zero, List.setIfInBounds_toArray, List.set_cons_zero, List.set_cons_succ]
          refine wpAnyH_take (i := 7) (v := ?v13) rfl (by kernel_rfl) (by decide +kernel) (by decide +kernel) (fun _ _ _ h => h) (Or.inl ⟨by rfl, ?hy13⟩) (by assumption) ?rest13
          case hy13 => (intro w hSw; (try dsimp only at hSw); go_simp; (try with_reducible rfl))
          try simp only [Act.put, List.getElem_toArray, List.getElem_cons_succ, List.getElem_cons_zero, List.setIfInBounds_toArray, List.set_cons_zero, List.set_cons_succ]
          refine wpAnyH_take (i := 8) (v := ?v14) rfl (by kernel_rfl) (by decide +kernel) (by decide +kernel) (fun _ _ _ h => h) (Or.inl ⟨by rfl, ?hy14⟩) (by assumption) ?rest14
          case hy14 => (intro w hSw; (try dsimp only at hSw); go_simp; (try with_reducible rfl))
          try simp only [Act.put, List.getElem_toArray, List.getElem_cons_succ, List.getElem_cons_zero, List.setIfInBounds_toArray, List.set_cons_zero, List.set_cons_succ]
          refine wpAnyH_take (i := 9) (v := ?v15) rfl (by kernel_rfl) (by decide +kernel) (by decide +kernel) (fun _ _ _ h => h) (Or.inl ⟨by rfl, ?hy15⟩) (by assumption) ?rest15
          case hy15 => (intro w hSw; (try dsimp only at hSw); go_simp; (try with_reducible rfl))
          try simp only [Act.put, List.getElem_toArray, List.getElem_cons_succ, List.getElem_cons_zero, List.setIfInBounds_toArray, List.set_cons_zero, List.set_cons_succ]
          refine wpAnyH_take (i := 10) (v := ?v16) rfl (by kernel_rfl) (by decide +kernel) (by decide +kernel) (fun _ _ _ h => h) (Or.inl ⟨by rfl, ?hy16⟩) (by assumption) ?rest16
          case hy16 => (intro w hSw; (try dsimp only at hSw); go_simp; (try with_reducible rfl))
          try simp only [Act.put, List.getElem_toArray, List.getElem_cons_succ, List.getElem_cons_zero, List.setIfInBounds_toArray, List.set_cons_zero, List.set_cons_succ]
          refine wpAnyH_take (i := 11) (v := ?v17) rfl (by kernel_rfl) (by decide +kernel) (by decide +kernel) (fun _ _ _ h => h) (Or.inl ⟨by rfl, ?hy17⟩) (by assumption) ?rest17
          case hy17 => (intro w hSw; (try dsimp only at hSw); go_simp; (try with_reducible rfl))
          try simp only [Act.put, List.getElem_toArray, List.getElem_cons_succ, List.getElem_cons_zero, List.setIfInBounds_toArray, List.set_cons_zero, List.set_cons_succ]
          refine wpAnyH_take (i := 12) (v := ?v18) rfl (by kernel_rfl) (by decide +kernel) (by decide +kernel) (fun _ _ _ h => h) (Or.inl ⟨by rfl, ?hy18⟩) (by assumption) ?rest18
          case hy18 => (intro w hSw; (try dsimp only at hSw); go_simp; (try with_reducible rfl))
          try simp only [Act.put, List.getElem_toArray, List.getElem_cons_succ, List.getElem_cons_zero, List.setIfInBounds_toArray, List.set_cons_zero, List.set_cons_succ]
          refine wpAnyH_take (i := 13) (v := ?v19) rfl (by kernel_rfl) (by decide +kernel) (by decide +kernel) (fun _ _ _ h => h) (Or.inl ⟨by rfl, ?hy19⟩) (by assumption) ?rest19
          case hy19 => (intro w hSw; (try dsimp only at hSw); go_simp; (try with_reducible rfl))
          try simp only [Act.put, List.getElem_toArray, List.getElem_cons_succ, List.getElem_cons_zero, List.setIfInBounds_toArray, List.set_cons_zero, List.set_cons_succ]
          refine wpAnyH_take (i := 14) (v := ?v20) rfl (by kernel_rfl) (by decide +kernel) (by decide +kernel) (fun _ _ _ h => h) (Or.inl ⟨by rfl, ?hy20⟩) (by assumption) ?rest20
          case hy20 => (intro w hSw; (try dsimp only at hSw); go_simp; (try with_reducible rfl))
          try simp only [Act.put, List.getElem_toArray, List.getElem_cons_succ, List.getElem_cons_zero, List.setIfInBounds_toArray, List.set_cons_zero, List.set_cons_succ]
          refine wpAnyH_take (i := 15) (v := ?v21) rfl (by kernel_rfl) (by decide +kernel) (by decide +kernel) (fun _ _ _ h => h) (Or.inl ⟨by rfl, ?hy21⟩) (by assumption) ?rest21
          case hy21 => (intro w hSw; (try dsimp only at hSw); go_simp; (try with_reducible rfl))
          try simp only [Act.put, List.getElem_toArray, List.getElem_cons_succ, List.getElem_cons_zero, List.setIfInBounds_toArray, List.set_cons_zero, List.set_cons_succ]
          refine wpAnyH_take (i := 16) (v := ?v22) rfl (by kernel_rfl) (by decide +kernel) (by decide +kernel) (fun _ _ _ h => h) (Or.inl ⟨by rfl, ?hy22⟩) (by assumption) ?rest22
          case hy22 => (intro w hSw; (try dsimp only at hSw); go_simp; (try with_reducible rfl))
          try simp only [Act.put, List.getElem_toArray, List.getElem_cons_succ, List.getElem_cons_zero, List.setIfInBounds_toArray, List.set_cons_zero, List.set_cons_succ]
          refine wpAnyH_take (i := 17) (v := ?v23) rfl (by kernel_rfl) (by decide +kernel) (by decide +kernel) (fun _ _ _ h => h) (Or.inl ⟨by rfl, ?hy23⟩) (by assumption) ?rest23
          case hy23 => (intro w hSw; (try dsimp only at hSw); go_simp; (try with_reducible rfl))
          try simp only [Act.put, List.getElem_toArray, List.getElem_cons_succ, List.getElem_cons_zero, List.setIfInBounds_toArray, List.set_cons_zero, List.set_cons_succ]
          refine wpAnyH_take (i := 18) (v := ?v24) rfl (by kernel_rfl) (by decide +kernel) (by decide +kernel) (fun _ _ _ h => h) (Or.inl ⟨by rfl, ?hy24⟩) (by assumption) ?rest24
          case hy24 => (intro w hSw; (try dsimp only at hSw); go_simp; (try with_reducible rfl))
          try simp only [Act.put, List.getElem_toArray, List.getElem_cons_succ, List.getElem_cons_zero, List.setIfInBounds_toArray, List.set_cons_zero, List.set_cons_succ]
          refine wpAnyH_take (i := 19) (v := ?v25) rfl (by kernel_rfl) (by decide +kernel) (by decide +kernel) (fun _ _ _ h => h) (Or.inl ⟨by rfl, ?hy25⟩) (by assumption) ?rest25
          case hy25 => (intro w hSw; (try dsimp only at hSw); go_simp; (try with_reducible rfl))
          try simp only [Act.put, List.getElem_toArray, List.getElem_cons_succ, List.getElem_cons_zero, List.setIfInBounds_toArray, List.set_cons_zero, List.set_cons_succ]
          refine wpAnyH_ready (rs := [20]) (by decide +kernel) (by simp) ?_
          refine AllReadyH.cons rfl (fun K hK => ?_) AllReadyH.nil
          go_simp
          go_wp2_with (go_at_call 28; refine (hGuard _).mono ?_; rintro e w7 ⟨rfl, hb7⟩; have hB7 : Below W0.heap.size W0 w7 := bstep hB6.drew hb7; have hX7 := hX6.drew.below hb7; have hG7 := hG6.drew.below hb7)
          refine hK.out _ _ (all13 hB7 hX7) (fun hHeld => ?_)
          clear hK K
          try simp only [Act.put, List.getElem_toArray, List.getElem_cons_succ, List.getElem_cons_zero, List.setIfInBounds_toArray, List.set_cons_zero, List.set_cons_succ]
          refine wpAnyH_take (i := 21) (v := ?v26) rfl (by kernel_rfl) (by decide +kernel) (by decide +kernel) (fun _ _ _ h => h) (Or.inl ⟨by rfl, ?hy26⟩) (by assumption) ?rest26
          case hy26 => (intro w hSw; (try dsimp only at hSw); go_simp; (try with_reducible rfl))
          try simp only [Act.put, List.getElem_toArray, List.getElem_cons_succ, List.getElem_cons_zero, List.setIfInBounds_toArray, List.set_cons_zero, List.set_cons_succ]
          refine wpAnyH_take (i := 22) (v := ?v27) rfl (by kernel_rfl) (by decide +kernel) (by decide +kernel) (fun _ _ _ h => h) (Or.inl ⟨by rfl, ?hy27⟩) (by assumption) ?rest27
          case hy27 => (intro w hSw; (try dsimp only at hSw); go_simp; (try with_reducible rfl))
          try simp only [Act.put, List.getElem_toArray, List.getElem_cons_succ, List.getElem_cons_zero, List.setIfInBounds_toArray, List.set_cons_zero, List.set_cons_succ]
          refine wpAnyH_done (by kernel_rfl) ?_ _
          obtain ⟨t0, t1, t2, t3, t4, t5, _, _⟩ := hX7.six
          obtain ⟨g0, g1, gf, _⟩ := hG7.two
          go_wp2
          go_roundw
          case rel => exact ⟨j + 1, x.st, x.en, ys ++ [x], by omega, by go_num, hNX.out, HGX.out, (hB7.setCell (p := ⟨W0.heap.size, 0, none⟩) (Nat.le_refl _) _).setCell (p := ⟨W0.heap.size, 1, none⟩) (Nat.le_refl _) _, (hG7.set 0 (.int .i64 x.st) (by simp)).set 1 (.int .i64 x.en) (by simp)⟩
          case measure => simp [intOf]; omega
      · go_wp2
        go_ret
        exact ⟨rfl, hbel3.trans (hBw.mono hbel3.size)⟩

end Go.Proofs.Ytgpphkjdmonkaaa
