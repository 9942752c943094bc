/-
  What the model draws for a tick.
-/
import Derived.Test.YtgpphkjdmonkaaaDrawEdge
import Derived.Test.YtgpphkjdmonkaaaDrawGuard
import Derived.Test.YtgpphkjdmonkaaaDrives
namespace Go.Proofs.Ytgpphkjdmonkaaa
open Go.RowKit
attribute [local go_sem ↓] Go.wp_at_zero Go.wp_at_succ

/-- A new cursor over bytes that came in. -/
theorem cur_box {a : Option Addr} {len cap : Nat} {W : World} (h : Came a len W) (t : TypeId) : Cur W.heap.size a len cap 0 (W.alloc (.cells #[.slice a len cap, .int .i64 0, .int .u64 0] t)) := by
  refine ⟨by simp, h.1, by simp, ⟨0, by omega, by omega, by simp⟩, ⟨0, by simp⟩, by simp, by simp, ?_⟩
  rcases h.2 with h | ⟨b, off, e, hl, hz⟩
  · exact .inl h
  · refine .inr ⟨b, off, e, by omega, by rw [World.size_alloc]; omega, fun i hi => ?_⟩
    obtain ⟨z, z0, z1, hc⟩ := hz i hi
    exact ⟨z, z0, z1, cellStay _ hc⟩

set_option maxRecDepth 100000 in
set_option maxHeartbeats 6400000 in
theorem drawTick_any {a : Option Addr} {len cap : Nat} {W : World} (hin : Came a len W) :
    Calls Try.prog 12 #[.slice a len cap] W fun e W' => ∃ (s h d ac k st en : Int) (f : Felt5), e = .returned (.tuple #[.agg #[.int .i64 s, .int .i64 h, .int .i64 d, .int .i64 ac, .int .i64 k], .agg #[.int .i64 st, .int .i64 en], .agg #[.int .i64 f.high, .int .i64 f.speed, .int .i64 f.en, .int .i64 f.lim, .bool f.ack]]) ∧ Below W.heap.size W W' := by
  have hC0 : Cur (W.heap.size + 1 + 1 + 1) a len cap 0 ((((W.alloc (.cells #[.int .i64 0, .int .i64 0, .int .i64 0, .int .i64 0, .int .i64 0] 24)).alloc (.cells #[.int .i64 0, .int .i64 0] 26)).alloc (.cells #[.int .i64 0, .int .i64 0, .int .i64 0, .int .i64 0, .bool false] 28)).alloc (.cells #[.slice a len cap, .int .i64 0, .int .u64 0] 57)) := by
    have := cur_box (cap := cap) (((hin.keep (bone W (.cells #[.int .i64 0, .int .i64 0, .int .i64 0, .int .i64 0, .int .i64 0] 24))).keep (bone _ (.cells #[.int .i64 0, .int .i64 0] 26))).keep (bone _ (.cells #[.int .i64 0, .int .i64 0, .int .i64 0, .int .i64 0, .bool false] 28))) 57
    rw [World.size_alloc, World.size_alloc, World.size_alloc] at this
    exact this
  have hL0 := (((Lay.new W #[.int .i64 0, .int .i64 0, .int .i64 0, .int .i64 0, .int .i64 0] 24).alloc (.cells #[.int .i64 0, .int .i64 0] 26)).alloc (.cells #[.int .i64 0, .int .i64 0, .int .i64 0, .int .i64 0, .bool false] 28)).alloc (.cells #[.slice a len cap, .int .i64 0, .int .u64 0] 57)
  have hL1 := ((Lay.new (W.alloc (.cells #[.int .i64 0, .int .i64 0, .int .i64 0, .int .i64 0, .int .i64 0] 24)) #[.int .i64 0, .int .i64 0] 26).alloc (.cells #[.int .i64 0, .int .i64 0, .int .i64 0, .int .i64 0, .bool false] 28)).alloc (.cells #[.slice a len cap, .int .i64 0, .int .u64 0] 57)
  have hL2 := (Lay.new ((W.alloc (.cells #[.int .i64 0, .int .i64 0, .int .i64 0, .int .i64 0, .int .i64 0] 24)).alloc (.cells #[.int .i64 0, .int .i64 0] 26)) #[.int .i64 0, .int .i64 0, .int .i64 0, .int .i64 0, .bool false] 28).alloc (.cells #[.slice a len cap, .int .i64 0, .int .u64 0] 57)
  rw [World.size_alloc] at hL1
  rw [World.size_alloc, World.size_alloc] at hL2
  have hBW : Below W.heap.size W ((((W.alloc (.cells #[.int .i64 0, .int .i64 0, .int .i64 0, .int .i64 0, .int .i64 0] 24)).alloc (.cells #[.int .i64 0, .int .i64 0] 26)).alloc (.cells #[.int .i64 0, .int .i64 0, .int .i64 0, .int .i64 0, .bool false] 28)).alloc (.cells #[.slice a len cap, .int .i64 0, .int .u64 0] 57)) := bstep (bstep (bstep (bone _ _) (bone _ _)) (bone _ _)) (bone _ _)
  have hF0 := Fin.first hC0
  have hsz : ((((W.alloc (.cells #[.int .i64 0, .int .i64 0, .int .i64 0, .int .i64 0, .int .i64 0] 24)).alloc (.cells #[.int .i64 0, .int .i64 0] 26)).alloc (.cells #[.int .i64 0, .int .i64 0, .int .i64 0, .int .i64 0, .bool false] 28)).alloc (.cells #[.slice a len cap, .int .i64 0, .int .u64 0] 57)).heap.size = W.heap.size + 1 + 1 + 1 + 1 := by rw [World.size_alloc, World.size_alloc, World.size_alloc, World.size_alloc]
  have hn0 : W.heap.size ≠ (W.heap.size + 1 + 1 + 1) := by omega
  have hn1 : W.heap.size + 1 ≠ (W.heap.size + 1 + 1 + 1) := by omega
  have hn2 : W.heap.size + 1 + 1 ≠ (W.heap.size + 1 + 1 + 1) := by omega
  go_enter Try.func12, Try.ntmps12
  go_wp2_with fail
  refine (l4brakes_any hC0 (by omega)).mono ?_; rintro e w1 ⟨s, hh, d, ac, k, rfl, hP1⟩
  obtain ⟨W4, hW4⟩ : ∃ W4, W4 = ((((W.alloc (.cells #[.int .i64 0, .int .i64 0, .int .i64 0, .int .i64 0, .int .i64 0] 24)).alloc (.cells #[.int .i64 0, .int .i64 0] 26)).alloc (.cells #[.int .i64 0, .int .i64 0, .int .i64 0, .int .i64 0, .bool false] 28)).alloc (.cells #[.slice a len cap, .int .i64 0, .int .u64 0] 57)) := ⟨_, rfl⟩
  rw [← hW4] at hC0 hL0 hL1 hL2 hBW hF0 hsz hP1
  clear hW4
  have hs1 := hP1.but.size
  have hB1 := Lay.new w1 #[.int .i64 s, .int .i64 hh, .int .i64 d, .int .i64 ac, .int .i64 k] 24
  have hM0 := (hL0.fin hP1 hn0).alloc (.cells #[.int .i64 s, .int .i64 hh, .int .i64 d, .int .i64 ac, .int .i64 k] 24)
  have hM1 := (hL1.fin hP1 hn1).alloc (.cells #[.int .i64 s, .int .i64 hh, .int .i64 d, .int .i64 ac, .int .i64 k] 24)
  have hM2 := (hL2.fin hP1 hn2).alloc (.cells #[.int .i64 s, .int .i64 hh, .int .i64 d, .int .i64 ac, .int .i64 k] 24)
  have hG1 := (hF0.then hP1).alloc (.cells #[.int .i64 s, .int .i64 hh, .int .i64 d, .int .i64 ac, .int .i64 k] 24)
  clear hL0 hL1 hL2 hF0 hP1 hC0
  go_wp2_with fail
  refine (drawFelt_any hG1.cur (by omega)).mono ?_; rintro e w2 ⟨f, rfl, hP2⟩
  have hs2 := hP2.but.size
  rw [World.size_alloc] at hs2
  have hb4 : w1.heap.size ≠ (W.heap.size + 1 + 1 + 1) := by omega
  have hb5 : w2.heap.size ≠ (W.heap.size + 1 + 1 + 1) := by omega
  have hB2 := (hB1.fin hP2 hb4).alloc (.cells #[.int .i64 f.high, .int .i64 f.speed, .int .i64 f.en, .int .i64 f.lim, .bool f.ack] 28)
  have hM0b := (hM0.fin hP2 hn0).alloc (.cells #[.int .i64 f.high, .int .i64 f.speed, .int .i64 f.en, .int .i64 f.lim, .bool f.ack] 28)
  have hM1b := (hM1.fin hP2 hn1).alloc (.cells #[.int .i64 f.high, .int .i64 f.speed, .int .i64 f.en, .int .i64 f.lim, .bool f.ack] 28)
  have hM2b := (hM2.fin hP2 hn2).alloc (.cells #[.int .i64 f.high, .int .i64 f.speed, .int .i64 f.en, .int .i64 f.lim, .bool f.ack] 28)
  have hF2 := Lay.new w2 #[.int .i64 f.high, .int .i64 f.speed, .int .i64 f.en, .int .i64 f.lim, .bool f.ack] 28
  have hG2 := (hG1.then hP2).alloc (.cells #[.int .i64 f.high, .int .i64 f.speed, .int .i64 f.en, .int .i64 f.lim, .bool f.ack] 28)
  clear hB1 hM0 hM1 hM2 hG1 hP2
  go_wp2_with fail
  refine (pick_fin 3 hG2.cur (by omega) (by omega) (by omega)).mono ?_; rintro e w3 ⟨x, rfl, l3, u3, hP3⟩
  have hB3 := hB2.fin hP3 hb4
  have hF3 := hF2.fin hP3 hb5
  have hQ0 := hM0b.fin hP3 hn0
  have hQ1 := hM1b.fin hP3 hn1
  have hQ2 := hM2b.fin hP3 hn2
  have hG3 := hG2.then hP3
  clear hB2 hF2 hM0b hM1b hM2b hG2 hP3
  have hne1 : w2.heap.size ≠ w1.heap.size := by omega
  have hne2 : w2.heap.size ≠ W.heap.size := by omega
  have hne3 : w2.heap.size ≠ W.heap.size + 1 := by omega
  have hne4 : w2.heap.size ≠ W.heap.size + 1 + 1 := by omega
  go_upto_if 17 with fail
  go_cut [] from 8 (fun wx => ∃ f2 : Felt5, Lay w1.heap.size [.int .i64 s, .int .i64 hh, .int .i64 d, .int .i64 ac, .int .i64 k] wx ∧ Lay w2.heap.size [.int .i64 f2.high, .int .i64 f2.speed, .int .i64 f2.en, .int .i64 f2.lim, .bool f2.ack] wx ∧ Lay W.heap.size [.int .i64 0, .int .i64 0, .int .i64 0, .int .i64 0, .int .i64 0] wx ∧ Lay (W.heap.size + 1) [.int .i64 0, .int .i64 0] wx ∧ Lay (W.heap.size + 1 + 1) [.int .i64 0, .int .i64 0, .int .i64 0, .int .i64 0, .bool false] wx ∧ Fin (W.heap.size + 1 + 1 + 1) a len cap 40 W4 wx)
  case first =>
    by_cases hx : x = 0
    · subst hx
      obtain ⟨b0, b1, b2, b3, b4, bf, _⟩ := hB3.five
      obtain ⟨c0, c1, c2, c3, c4, cf, _⟩ := hF3.five
      go_wp2_with fail
      refine (edge_any s hh d ac k f hG3.cur (by omega)).mono ?_; rintro e w4 ⟨f2, rfl, hP4⟩
      have hB4 := hB3.fin hP4 hb4
      have hF4 := hF3.fin hP4 hb5
      have hU0 := hQ0.fin hP4 hn0
      have hU1 := hQ1.fin hP4 hn1
      have hU2 := hQ2.fin hP4 hn2
      have hG4 := (hG3.then hP4).mono (m' := 40) (by omega)
      clear b0 b1 b2 b3 b4 bf c0 c1 c2 c3 c4 cf hB3 hF3 hQ0 hQ1 hQ2 hG3 hP4
      obtain ⟨c0, c1, c2, c3, c4, cf, _⟩ := hF4.five
      go_wp2_with fail
      go_meet
      refine ⟨f2, ?_, ?_, ?_, ?_, ?_, ?_⟩
      · repeat (first | with_reducible exact hB4 | refine Lay.far ?_ hne1 _ _)
      · exact ((((hF4.set 0 (.int .i64 f2.high) (by simp)).set 1 (.int .i64 f2.speed) (by simp)).set 2 (.int .i64 f2.en) (by simp)).set 3 (.int .i64 f2.lim) (by simp)).set 4 (.bool f2.ack) (by simp)
      · repeat (first | with_reducible exact hU0 | refine Lay.far ?_ hne2 _ _)
      · repeat (first | with_reducible exact hU1 | refine Lay.far ?_ hne3 _ _)
      · repeat (first | with_reducible exact hU2 | refine Lay.far ?_ hne4 _ _)
      · repeat (first | with_reducible exact hG4 | refine Fin.set ?_ (by omega) _ _)
    · have hx' : (x == 0) = false := by simp [hx]
      go_wp2_with fail
      go_meet
      exact ⟨f, hB3, hF3, hQ0, hQ1, hQ2, hG3.mono (by omega)⟩
  case rest =>
    obtain ⟨f2, hB, hF, hU0, hU1, hU2, hG⟩ := hcut
    clear hB3 hF3 hQ0 hQ1 hQ2 hG3
    go_wp2
    have hx0 : W.heap.size ≠ w1.heap.size := by omega
    have hx1 : W.heap.size ≠ w2.heap.size := by omega
    have hx2 : W.heap.size + 1 ≠ w1.heap.size := by omega
    have hx3 : W.heap.size + 1 ≠ w2.heap.size := by omega
    have hx4 : W.heap.size + 1 + 1 ≠ w1.heap.size := by omega
    have hx5 : W.heap.size + 1 + 1 ≠ w2.heap.size := by omega
    refine wp_region_held_drew (S := fun w' => w'.cell? ⟨w1.heap.size, 0, none⟩ = some (.int .i64 s) ∧ w'.cell? ⟨w1.heap.size, 1, none⟩ = some (.int .i64 hh) ∧ w'.cell? ⟨w1.heap.size, 2, none⟩ = some (.int .i64 d) ∧ w'.cell? ⟨w1.heap.size, 3, none⟩ = some (.int .i64 ac) ∧ w'.cell? ⟨w1.heap.size, 4, none⟩ = some (.int .i64 k) ∧ w'.cell? ⟨w2.heap.size, 0, none⟩ = some (.int .i64 f2.high) ∧ w'.cell? ⟨w2.heap.size, 1, none⟩ = some (.int .i64 f2.speed) ∧ w'.cell? ⟨w2.heap.size, 2, none⟩ = some (.int .i64 f2.en) ∧ w'.cell? ⟨w2.heap.size, 3, none⟩ = some (.int .i64 f2.lim) ∧ w'.cell? ⟨w2.heap.size, 4, none⟩ = some (.bool f2.ack)) (by kernel_rfl) (by obtain ⟨p0, p1, p2, p3, p4, _, _⟩ := (hB.drew).five; obtain ⟨q0, q1, q2, q3, q4, _, _⟩ := (hF.drew).five; exact ⟨p0, p1, p2, p3, p4, q0, q1, q2, q3, q4⟩) (fun hHeld => ?_)
    refine wpAnyH_take (i := 0) (v := ?v0) rfl (by kernel_rfl) (by decide +kernel) (by decide +kernel) (fun _ _ _ h => h) (Or.inl ⟨by rfl, ?hy0⟩) (by assumption) ?rest0
    case hy0 => (intro w hSw; (try dsimp only at hSw); go_simp; (try with_reducible rfl))
    try simp only [Act.put, List.getElem_toArray, List.getElem_cons_zero, List.setIfInBounds_toArray, List.set_cons_zero, List.set_cons_succ]
    refine wpAnyH_take (i := 1) (v := ?v1) rfl (by kernel_rfl) (by decide +kernel) (by decide +kernel) (fun _ _ _ h => h) (Or.inl ⟨by rfl, ?hy1⟩) (by assumption) ?rest1
    case hy1 => (intro w hSw; (try dsimp only at hSw); go_simp; (try with_reducible rfl))
    try simp only [Act.put, List.getElem_toArray, List.getElem_cons_succ, List.getElem_cons_zero, List.setIfInBounds_toArray, List.set_cons_zero, List.set_cons_succ]
    refine wpAnyH_take (i := 2) (v := ?v2) rfl (by kernel_rfl) (by decide +kernel) (by decide +kernel) (fun _ _ _ h => h) (Or.inl ⟨by rfl, ?hy2⟩) (by assumption) ?rest2
    case hy2 => (intro w hSw; (try dsimp only at hSw); go_simp; (try with_reducible rfl))
    try simp only [Act.put, List.getElem_toArray, List.getElem_cons_succ, List.getElem_cons_zero, List.setIfInBounds_toArray, List.set_cons_zero, List.set_cons_succ]
    refine wpAnyH_take (i := 4) (v := ?v3) rfl (by kernel_rfl) (by decide +kernel) (by decide +kernel) (fun _ _ _ h => h) (Or.inl ⟨by rfl, ?hy3⟩) (by assumption) ?rest3
    case hy3 => (intro w hSw; (try dsimp only at hSw); go_simp; (try with_reducible rfl))
    try simp only [Act.put, List.getElem_toArray, List.getElem_cons_succ, List.getElem_cons_zero, List.setIfInBounds_toArray, List.set_cons_zero, List.set_cons_succ]
    refine wpAnyH_ready (rs := [3]) (by decide +kernel) (by simp) ?_
    refine AllReadyH.cons rfl (fun K hK => ?_) AllReadyH.nil
    go_simp
    go_wp2_with (go_at_call 36; refine (drawGuard_any f2 hG.cur.drew (by omega)).mono ?_; rintro e w5 ⟨st, en, rfl, hP⟩; have hB5 := hB.drew.fin hP hb4; have hF5 := hF.drew.fin hP hb5; have hV0 := hU0.drew.fin hP hn0; have hV1 := hU1.drew.fin hP hn1; have hV2 := hU2.drew.fin hP hn2; have hG5 := hG.drew.then hP; obtain ⟨r0, r1, r2, r3, r4, rf, _⟩ := hV0.five; obtain ⟨g0, g1, gf, _⟩ := hV1.two; obtain ⟨t0, t1, t2, t3, t4, tf, _⟩ := hV2.five)
    refine hK.out _ _ (by obtain ⟨p0, p1, p2, p3, p4, _, _⟩ := (hB5).five; obtain ⟨q0, q1, q2, q3, q4, _, _⟩ := (hF5).five; exact ⟨p0, p1, p2, p3, p4, q0, q1, q2, q3, q4⟩) (fun hHeld => ?_)
    clear hK K
    try simp only [Act.put, List.getElem_toArray, List.getElem_cons_succ, List.getElem_cons_zero, List.setIfInBounds_toArray, List.set_cons_zero, List.set_cons_succ]
    refine wpAnyH_ready (rs := [5]) (by decide +kernel) (by simp) ?_
    refine AllReadyH.cons rfl (fun K hK => ?_) AllReadyH.nil
    go_simp
    refine hK.out _ _ (by obtain ⟨p0, p1, p2, p3, p4, _, _⟩ := ((Lay.far (Lay.far (Lay.far (Lay.far (Lay.far hB5 hx0 0 _) hx0 1 _) hx0 2 _) hx0 3 _) hx0 4 _)).five; obtain ⟨q0, q1, q2, q3, q4, _, _⟩ := ((Lay.far (Lay.far (Lay.far (Lay.far (Lay.far hF5 hx1 0 _) hx1 1 _) hx1 2 _) hx1 3 _) hx1 4 _)).five; exact ⟨p0, p1, p2, p3, p4, q0, q1, q2, q3, q4⟩) (fun hHeld => ?_)
    clear hK K
    try simp only [Act.put, List.getElem_toArray, List.getElem_cons_succ, List.getElem_cons_zero, List.setIfInBounds_toArray, List.set_cons_zero, List.set_cons_succ]
    refine wpAnyH_ready (rs := [6]) (by decide +kernel) (by simp) ?_
    refine AllReadyH.cons rfl (fun K hK => ?_) AllReadyH.nil
    go_simp
    refine hK.out _ _ (by obtain ⟨p0, p1, p2, p3, p4, _, _⟩ := ((Lay.far (Lay.far (Lay.far (Lay.far (Lay.far (Lay.far (Lay.far hB5 hx0 0 _) hx0 1 _) hx0 2 _) hx0 3 _) hx0 4 _) hx2 0 _) hx2 1 _)).five; obtain ⟨q0, q1, q2, q3, q4, _, _⟩ := ((Lay.far (Lay.far (Lay.far (Lay.far (Lay.far (Lay.far (Lay.far hF5 hx1 0 _) hx1 1 _) hx1 2 _) hx1 3 _) hx1 4 _) hx3 0 _) hx3 1 _)).five; exact ⟨p0, p1, p2, p3, p4, q0, q1, q2, q3, q4⟩) (fun hHeld => ?_)
    clear hK K
    try simp only [Act.put, List.getElem_toArray, List.getElem_cons_succ, List.getElem_cons_zero, List.setIfInBounds_toArray, List.set_cons_zero, List.set_cons_succ]
    refine wpAnyH_ready (rs := [7]) (by decide +kernel) (by simp) ?_
    refine AllReadyH.cons rfl (fun K hK => ?_) AllReadyH.nil
    go_simp
    refine hK.out _ _ (by obtain ⟨p0, p1, p2, p3, p4, _, _⟩ := ((Lay.far (Lay.far (Lay.far (Lay.far (Lay.far (Lay.far (Lay.far (Lay.far (Lay.far (Lay.far (Lay.far (Lay.far hB5 hx0 0 _) hx0 1 _) hx0 2 _) hx0 3 _) hx0 4 _) hx2 0 _) hx2 1 _) hx4 0 _) hx4 1 _) hx4 2 _) hx4 3 _) hx4 4 _)).five; obtain ⟨q0, q1, q2, q3, q4, _, _⟩ := ((Lay.far (Lay.far (Lay.far (Lay.far (Lay.far (Lay.far (Lay.far (Lay.far (Lay.far (Lay.far (Lay.far (Lay.far hF5 hx1 0 _) hx1 1 _) hx1 2 _) hx1 3 _) hx1 4 _) hx3 0 _) hx3 1 _) hx5 0 _) hx5 1 _) hx5 2 _) hx5 3 _) hx5 4 _)).five; exact ⟨p0, p1, p2, p3, p4, q0, q1, q2, q3, q4⟩) (fun hHeld => ?_)
    clear hK K
    try simp only [Act.put, List.getElem_toArray, List.getElem_cons_succ, List.getElem_cons_zero, List.setIfInBounds_toArray, List.set_cons_zero, List.set_cons_succ]
    refine wpAnyH_done (by kernel_rfl) ?_ _
    have hBel : Below W.heap.size W w5 := hBW.trans (hG5.but.below (by omega) (by omega))
    go_wp2
    refine bodyPost_ret (v := .tuple #[.agg #[.int .i64 s, .int .i64 hh, .int .i64 d, .int .i64 ac, .int .i64 k], .agg #[.int .i64 st, .int .i64 en], .agg #[.int .i64 f2.high, .int .i64 f2.speed, .int .i64 f2.en, .int .i64 f2.lim, .bool f2.ack]]) (by simp [results, Try.results12, go_sem, r0, r1, r2, r3, r4, g0, g1, t0, t1, t2, t3, t4]) rfl ⟨s, hh, d, ac, k, st, en, f2, rfl, ?_⟩
    repeat (first | with_reducible exact hBel | refine Below.setCell ?_ (by first | (show W.heap.size ≤ W.heap.size; omega) | (show W.heap.size ≤ W.heap.size + 1; omega) | (show W.heap.size ≤ W.heap.size + 1 + 1; omega)) _)

end Go.Proofs.Ytgpphkjdmonkaaa
