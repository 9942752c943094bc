/-
  What the model draws: a speed or an end at which a train can just stop.
-/
import Derived.Test.YtgpphkjdmonkaaaDrawFelt
import Derived.Test.YtgpphkjdmonkaaaGuardSpec
namespace Go.Proofs.Ytgpphkjdmonkaaa
open Go.RowKit
attribute [local go_sem ↓] Go.wp_at_zero Go.wp_at_succ

set_option maxRecDepth 100000 in
set_option maxHeartbeats 6400000 in
theorem edge_any {C : Nat} {p : Option Addr} {len cap : Nat} {m : Int} {W : World} (s hh d a k : Int) (f : Felt5) (hC : Cur C p len cap m W) (hm : m ≤ 700000) :
    Calls Try.prog 35 #[.pointer (some ⟨C, 0, none⟩), .agg #[.int .i64 s, .int .i64 hh, .int .i64 d, .int .i64 a, .int .i64 k], .agg #[.int .i64 f.high, .int .i64 f.speed, .int .i64 f.en, .int .i64 f.lim, .bool f.ack]] W fun e W' => ∃ f : Felt5, e = .returned (.agg #[.int .i64 f.high, .int .i64 f.speed, .int .i64 f.en, .int .i64 f.lim, .bool f.ack]) ∧ Fin C p len cap (m + 2) W W' := by
  have hlt := hC.lt
  have hB0 := ((Lay.new W #[.int .i64 s, .int .i64 hh, .int .i64 d, .int .i64 a, .int .i64 k] 24).alloc (.cells #[.int .i64 f.high, .int .i64 f.speed, .int .i64 f.en, .int .i64 f.lim, .bool f.ack] 28)).alloc (.cells #[.int .i64 0, .int .i64 0, .int .i64 0, .int .i64 0, .bool false] 28)
  have hF0 := (Lay.new (W.alloc (.cells #[.int .i64 s, .int .i64 hh, .int .i64 d, .int .i64 a, .int .i64 k] 24)) #[.int .i64 f.high, .int .i64 f.speed, .int .i64 f.en, .int .i64 f.lim, .bool f.ack] 28).alloc (.cells #[.int .i64 0, .int .i64 0, .int .i64 0, .int .i64 0, .bool false] 28)
  have hR0 := Lay.new ((W.alloc (.cells #[.int .i64 s, .int .i64 hh, .int .i64 d, .int .i64 a, .int .i64 k] 24)).alloc (.cells #[.int .i64 f.high, .int .i64 f.speed, .int .i64 f.en, .int .i64 f.lim, .bool f.ack] 28)) #[.int .i64 0, .int .i64 0, .int .i64 0, .int .i64 0, .bool false] 28
  have hG0 : Fin C p len cap m W (((W.alloc (.cells #[.int .i64 s, .int .i64 hh, .int .i64 d, .int .i64 a, .int .i64 k] 24)).alloc (.cells #[.int .i64 f.high, .int .i64 f.speed, .int .i64 f.en, .int .i64 f.lim, .bool f.ack] 28)).alloc (.cells #[.int .i64 0, .int .i64 0, .int .i64 0, .int .i64 0, .bool false] 28)) := (((Fin.first hC).alloc _).alloc _).alloc _
  rw [World.size_alloc] at hF0
  rw [World.size_alloc, World.size_alloc] at hR0
  have hn0 : W.heap.size ≠ C := by omega
  have hn1 : W.heap.size + 1 ≠ C := by omega
  have hn2 : W.heap.size + 1 + 1 ≠ C := by omega
  rcases Bool.eq_false_or_eq_true (okB s hh d a k) with h1 | h1
  · rcases Bool.eq_false_or_eq_true f.okB with h3 | h3
    · have hF := h3
      simp only [Felt5.okB, Bool.and_eq_true, inB_iff] at hF
      obtain ⟨⟨_, _⟩, ⟨f3, f4⟩, _⟩ := hF
      go_enter Try.func35, Try.ntmps35
      go_wp2_with fail
      refine (brakesOk_spec _ _ _ _ _ _).mono ?_; rintro e w1 ⟨rfl, hb1⟩
      have hB1 := hB0.below hb1
      have hF1 := hF0.below hb1
      have hR1 := hR0.below hb1
      have hG1 := hG0.below hb1
      clear hB0 hF0 hR0 hG0 hb1
      obtain ⟨g0, g1, g2, g3, g4, ff, _⟩ := hF1.five
      go_wp2_with fail
      refine (feltOk_spec f _).mono ?_; rintro e w2 ⟨rfl, hb2⟩
      have hB2 := hB1.below hb2
      have hF2 := hF1.below hb2
      have hR2 := hR1.below hb2
      have hG2 := hG1.below hb2
      clear g0 g1 g2 g3 g4 ff hB1 hF1 hR1 hG1 hb2
      go_wp2_with fail
      refine (pick_fin 2 hG2.cur (by omega) (by omega) (by omega)).mono ?_; rintro e w3 ⟨x, rfl, l3, u3, hP3⟩
      have hB3 := hB2.fin hP3 hn0
      have hF3 := hF2.fin hP3 hn1
      have hR3 := hR2.fin hP3 hn2
      have hG3 := hG2.then hP3
      clear hB2 hF2 hR2 hG2 hP3
      have hx : x = 0 ∨ x = 1 := by omega
      rcases hx with rfl | rfl
      · go_wp2
        go_cut [] from 7 (fun wx => ∃ en : Int, Lay (W.heap.size + 1) [.int .i64 f.high, .int .i64 f.speed, .int .i64 en, .int .i64 f.lim, .bool f.ack] wx ∧ Lay (W.heap.size + 1 + 1) [.int .i64 0, .int .i64 0, .int .i64 0, .int .i64 0, .bool false] wx ∧ Fin C p len cap (m + 2) W wx)
        case first =>
          refine wp_region_held_drew (S := fun w' => w'.cell? ⟨W.heap.size, 0, none⟩ = some (.int .i64 s) ∧ w'.cell? ⟨W.heap.size, 1, none⟩ = some (.int .i64 hh) ∧ w'.cell? ⟨W.heap.size, 2, none⟩ = some (.int .i64 d) ∧ w'.cell? ⟨W.heap.size, 3, none⟩ = some (.int .i64 a) ∧ w'.cell? ⟨W.heap.size, 4, none⟩ = some (.int .i64 k) ∧ w'.cell? ⟨W.heap.size + 1, 0, none⟩ = some (.int .i64 f.high) ∧ w'.cell? ⟨W.heap.size + 1, 1, none⟩ = some (.int .i64 f.speed)) (by kernel_rfl) (by obtain ⟨b0, b1, b2, b3, b4, _, _⟩ := hB3.drew.five; obtain ⟨c0, c1, _⟩ := hF3.drew.five; exact ⟨b0, b1, b2, b3, b4, c0, c1⟩) (fun hHeld => ?_)
          refine wpAnyH_take (i := 0) (v := ?v0) rfl (by kernel_rfl) (by decide +kernel) (by decide +kernel) (fun _ _ _ h => h) (Or.inl ⟨by rfl, ?hy0⟩) (by assumption) ?rest0
          case hy0 => (intro w hSw; (try dsimp only at hSw); go_simp; (try with_reducible rfl))
          try simp only [Act.put, List.getElem_toArray, List.getElem_cons_zero, List.setIfInBounds_toArray, List.set_cons_zero, List.set_cons_succ]
          refine wpAnyH_take (i := 1) (v := ?v1) rfl (by kernel_rfl) (by decide +kernel) (by decide +kernel) (fun _ _ _ h => h) (Or.inl ⟨by rfl, ?hy1⟩) (by assumption) ?rest1
          case hy1 => (intro w hSw; (try dsimp only at hSw); go_simp; (try with_reducible rfl))
          try simp only [Act.put, List.getElem_toArray, List.getElem_cons_succ, List.getElem_cons_zero, List.setIfInBounds_toArray, List.set_cons_zero, List.set_cons_succ]
          refine wpAnyH_take (i := 2) (v := ?v2) rfl (by kernel_rfl) (by decide +kernel) (by decide +kernel) (fun _ _ _ h => h) (Or.inl ⟨by rfl, ?hy2⟩) (by assumption) ?rest2
          case hy2 => (intro w hSw; (try dsimp only at hSw); go_simp; (try with_reducible rfl))
          try simp only [Act.put, List.getElem_toArray, List.getElem_cons_succ, List.getElem_cons_zero, List.setIfInBounds_toArray, List.set_cons_zero, List.set_cons_succ]
          refine wpAnyH_take (i := 3) (v := ?v3) rfl (by kernel_rfl) (by decide +kernel) (by decide +kernel) (fun _ _ _ h => h) (Or.inl ⟨by rfl, ?hy3⟩) (by assumption) ?rest3
          case hy3 => (intro w hSw; (try dsimp only at hSw); go_simp; (try with_reducible rfl))
          try simp only [Act.put, List.getElem_toArray, List.getElem_cons_succ, List.getElem_cons_zero, List.setIfInBounds_toArray, List.set_cons_zero, List.set_cons_succ]
          refine wpAnyH_take (i := 4) (v := ?v4) rfl (by kernel_rfl) (by decide +kernel) (by decide +kernel) (fun _ _ _ h => h) (Or.inl ⟨by rfl, ?hy4⟩) (by assumption) ?rest4
          case hy4 => (intro w hSw; (try dsimp only at hSw); go_simp; (try with_reducible rfl))
          try simp only [Act.put, List.getElem_toArray, List.getElem_cons_succ, List.getElem_cons_zero, List.setIfInBounds_toArray, List.set_cons_zero, List.set_cons_succ]
          refine wpAnyH_take (i := 7) (v := ?v5) rfl (by kernel_rfl) (by decide +kernel) (by decide +kernel) (fun _ _ _ h => h) (Or.inl ⟨by rfl, ?hy5⟩) (by assumption) ?rest5
          case hy5 => (intro w hSw; (try dsimp only at hSw); go_simp; (try with_reducible rfl))
          try simp only [Act.put, List.getElem_toArray, List.getElem_cons_succ, List.getElem_cons_zero, List.setIfInBounds_toArray, List.set_cons_zero, List.set_cons_succ]
          refine wpAnyH_ready (rs := [5]) (by decide +kernel) (by simp) ?_
          refine AllReadyH.cons rfl (fun K hK => ?_) AllReadyH.nil
          go_simp
          go_wp2_with (go_at_call 55; refine (l1worst_any _ _ _ _ _ _ _ h1 f3 f4).mono ?_; rintro e w4 ⟨rfl, hb4⟩; have hB4 := hB3.drew.below hb4; have hF4 := hF3.drew.below hb4; have hR4 := hR3.drew.below hb4; have hG4 := hG3.drew.below hb4; obtain ⟨b0, b1, b2, b3, b4, bf, _⟩ := hB4.five; obtain ⟨c0, c1, c2, c3, c4, cf, _⟩ := hF4.five)
          refine hK.out _ _ (⟨b0, b1, b2, b3, b4, c0, c1⟩) (fun hHeld => ?_)
          clear hK K
          try simp only [Act.put, List.getElem_toArray, List.getElem_cons_succ, List.getElem_cons_zero, List.setIfInBounds_toArray, List.set_cons_zero, List.set_cons_succ]
          refine wpAnyH_take (i := 6) (v := ?v6) rfl (by kernel_rfl) (by decide +kernel) (by decide +kernel) (fun _ _ _ h => h) (Or.inl ⟨by rfl, ?hy6⟩) (by assumption) ?rest6
          case hy6 => (intro w hSw; (try dsimp only at hSw); go_simp; (try with_reducible rfl))
          try simp only [Act.put, List.getElem_toArray, List.getElem_cons_succ, List.getElem_cons_zero, List.setIfInBounds_toArray, List.set_cons_zero, List.set_cons_succ]
          refine wpAnyH_ready (rs := [8]) (by decide +kernel) (by simp) ?_
          refine AllReadyH.cons rfl (fun K hK => ?_) AllReadyH.nil
          go_simp
          go_wp2_with (go_at_call 34; refine (pick_fin 3 hG4.cur (by omega) (by omega) (by omega)).mono ?_; rintro e w5 ⟨y, rfl, l5, u5, hP5⟩; have hB5 := hB4.fin hP5 hn0; have hF5 := hF4.fin hP5 hn1; have hR5 := hR4.fin hP5 hn2; have hG5 := hG4.then hP5; obtain ⟨d0, d1, d2, d3, d4, df, _⟩ := hB5.five; obtain ⟨c0, c1, c2, c3, c4, cf, _⟩ := hF5.five)
          refine hK.out _ _ (⟨d0, d1, d2, d3, d4, c0, c1⟩) (fun hHeld => ?_)
          clear hK K
          try simp only [Act.put, List.getElem_toArray, List.getElem_cons_succ, List.getElem_cons_zero, List.setIfInBounds_toArray, List.set_cons_zero, List.set_cons_succ]
          refine wpAnyH_ready (rs := [9]) (by decide +kernel) (by simp) ?_
          refine AllReadyH.cons rfl (fun K hK => ?_) AllReadyH.nil
          go_simp
          refine hK.out _ _ (hHeld) (fun hHeld => ?_)
          clear hK K
          try simp only [Act.put, List.getElem_toArray, List.getElem_cons_succ, List.getElem_cons_zero, List.setIfInBounds_toArray, List.set_cons_zero, List.set_cons_succ]
          refine wpAnyH_ready (rs := [10]) (by decide +kernel) (by simp) ?_
          refine AllReadyH.cons rfl (fun K hK => ?_) AllReadyH.nil
          go_simp
          refine hK.out _ _ (hHeld) (fun hHeld => ?_)
          clear hK K
          try simp only [Act.put, List.getElem_toArray, List.getElem_cons_succ, List.getElem_cons_zero, List.setIfInBounds_toArray, List.set_cons_zero, List.set_cons_succ]
          refine wpAnyH_ready (rs := [11]) (by decide +kernel) (by simp) ?_
          refine AllReadyH.cons rfl (fun K hK => ?_) AllReadyH.nil
          go_simp
          refine hK.out _ _ (hHeld) (fun hHeld => ?_)
          clear hK K
          try simp only [Act.put, List.getElem_toArray, List.getElem_cons_succ, List.getElem_cons_zero, List.setIfInBounds_toArray, List.set_cons_zero, List.set_cons_succ]
          refine wpAnyH_ready (rs := [12]) (by decide +kernel) (by simp) ?_
          refine AllReadyH.cons rfl (fun K hK => ?_) AllReadyH.nil
          go_simp
          refine hK.out _ _ (by obtain ⟨d0, d1, d2, d3, d4, _, _⟩ := (hB5.far (M := W.heap.size + 1) (by omega) 2 _).five; obtain ⟨c0, c1, _⟩ := (hF5.set 2 _ (by simp)).five; exact ⟨d0, d1, d2, d3, d4, c0, c1⟩) (fun hHeld => ?_)
          clear hK K
          try simp only [Act.put, List.getElem_toArray, List.getElem_cons_succ, List.getElem_cons_zero, List.setIfInBounds_toArray, List.set_cons_zero, List.set_cons_succ]
          refine wpAnyH_done (by kernel_rfl) ?_ _
          go_wp2_with fail
          go_meet
          exact ⟨_, hF5.set 2 _ (by simp), hR5.far (by omega) _ _, (hG5.set (by omega) _ _).mono (by omega)⟩
        case rest =>
          obtain ⟨en, hF, hR, hG⟩ := hcut
          clear hB3 hF3 hR3 hG3
          obtain ⟨f0, f1, f2, f3, f4, ff, _⟩ := hF.five
          obtain ⟨r0, r1, r2, r3, r4, rf, _⟩ := hR.five
          go_wp2
          refine bodyPost_ret (v := .agg #[.int .i64 f.high, .int .i64 f.speed, .int .i64 en, .int .i64 f.lim, .bool f.ack]) (by simp [results, Try.results35, go_sem, *]) rfl ?_
          refine ⟨⟨f.high, f.speed, en, f.lim, f.ack⟩, rfl, ?_⟩
          repeat (first | with_reducible exact hG | refine Fin.set ?_ (by omega) _ _)
      · go_wp2
        go_cut [] from 7 (fun wx => ∃ en : Int, Lay (W.heap.size + 1) [.int .i64 f.high, .int .i64 f.speed, .int .i64 en, .int .i64 f.lim, .bool f.ack] wx ∧ Lay (W.heap.size + 1 + 1) [.int .i64 0, .int .i64 0, .int .i64 0, .int .i64 0, .bool false] wx ∧ Fin C p len cap (m + 2) W wx)
        case first =>
          refine wp_region_held_drew (S := fun w' => w'.cell? ⟨W.heap.size, 0, none⟩ = some (.int .i64 s) ∧ w'.cell? ⟨W.heap.size, 1, none⟩ = some (.int .i64 hh) ∧ w'.cell? ⟨W.heap.size, 2, none⟩ = some (.int .i64 d) ∧ w'.cell? ⟨W.heap.size, 3, none⟩ = some (.int .i64 a) ∧ w'.cell? ⟨W.heap.size, 4, none⟩ = some (.int .i64 k) ∧ w'.cell? ⟨W.heap.size + 1, 0, none⟩ = some (.int .i64 f.high) ∧ w'.cell? ⟨W.heap.size + 1, 1, none⟩ = some (.int .i64 f.speed)) (by kernel_rfl) (by obtain ⟨b0, b1, b2, b3, b4, _, _⟩ := hB3.drew.five; obtain ⟨c0, c1, _⟩ := hF3.drew.five; exact ⟨b0, b1, b2, b3, b4, c0, c1⟩) (fun hHeld => ?_)
          refine wpAnyH_take (i := 0) (v := ?v7) rfl (by kernel_rfl) (by decide +kernel) (by decide +kernel) (fun _ _ _ h => h) (Or.inl ⟨by rfl, ?hy7⟩) (by assumption) ?rest7
          case hy7 => (intro w hSw; (try dsimp only at hSw); go_simp; (try with_reducible rfl))
          try simp only [Act.put, List.getElem_toArray, List.getElem_cons_zero, List.setIfInBounds_toArray, List.set_cons_zero, List.set_cons_succ]
          refine wpAnyH_take (i := 1) (v := ?v8) rfl (by kernel_rfl) (by decide +kernel) (by decide +kernel) (fun _ _ _ h => h) (Or.inl ⟨by rfl, ?hy8⟩) (by assumption) ?rest8
          case hy8 => (intro w hSw; (try dsimp only at hSw); go_simp; (try with_reducible rfl))
          try simp only [Act.put, List.getElem_toArray, List.getElem_cons_succ, List.getElem_cons_zero, List.setIfInBounds_toArray, List.set_cons_zero, List.set_cons_succ]
          refine wpAnyH_take (i := 2) (v := ?v9) rfl (by kernel_rfl) (by decide +kernel) (by decide +kernel) (fun _ _ _ h => h) (Or.inl ⟨by rfl, ?hy9⟩) (by assumption) ?rest9
          case hy9 => (intro w hSw; (try dsimp only at hSw); go_simp; (try with_reducible rfl))
          try simp only [Act.put, List.getElem_toArray, List.getElem_cons_succ, List.getElem_cons_zero, List.setIfInBounds_toArray, List.set_cons_zero, List.set_cons_succ]
          refine wpAnyH_take (i := 3) (v := ?v10) rfl (by kernel_rfl) (by decide +kernel) (by decide +kernel) (fun _ _ _ h => h) (Or.inl ⟨by rfl, ?hy10⟩) (by assumption) ?rest10
          case hy10 => (intro w hSw; (try dsimp only at hSw); go_simp; (try with_reducible rfl))
          try simp only [Act.put, List.getElem_toArray, List.getElem_cons_succ, List.getElem_cons_zero, List.setIfInBounds_toArray, List.set_cons_zero, List.set_cons_succ]
          refine wpAnyH_take (i := 4) (v := ?v11) rfl (by kernel_rfl) (by decide +kernel) (by decide +kernel) (fun _ _ _ h => h) (Or.inl ⟨by rfl, ?hy11⟩) (by assumption) ?rest11
          case hy11 => (intro w hSw; (try dsimp only at hSw); go_simp; (try with_reducible rfl))
          try simp only [Act.put, List.getElem_toArray, List.getElem_cons_succ, List.getElem_cons_zero, List.setIfInBounds_toArray, List.set_cons_zero, List.set_cons_succ]
          refine wpAnyH_take (i := 7) (v := ?v12) rfl (by kernel_rfl) (by decide +kernel) (by decide +kernel) (fun _ _ _ h => h) (Or.inl ⟨by rfl, ?hy12⟩) (by assumption) ?rest12
          case hy12 => (intro w hSw; (try dsimp only at hSw); go_simp; (try with_reducible rfl))
          try simp only [Act.put, List.getElem_toArray, List.getElem_cons_succ, List.getElem_cons_zero, List.setIfInBounds_toArray, List.set_cons_zero, List.set_cons_succ]
          refine wpAnyH_ready (rs := [5]) (by decide +kernel) (by simp) ?_
          refine AllReadyH.cons rfl (fun K hK => ?_) AllReadyH.nil
          go_simp
          go_wp2_with (go_at_call 57; refine (l1gentle_any _ _ _ _ _ _ _ h1 f3 f4).mono ?_; rintro e w4 ⟨rfl, hb4⟩; have hB4 := hB3.drew.below hb4; have hF4 := hF3.drew.below hb4; have hR4 := hR3.drew.below hb4; have hG4 := hG3.drew.below hb4; obtain ⟨b0, b1, b2, b3, b4, bf, _⟩ := hB4.five; obtain ⟨c0, c1, c2, c3, c4, cf, _⟩ := hF4.five)
          refine hK.out _ _ (⟨b0, b1, b2, b3, b4, c0, c1⟩) (fun hHeld => ?_)
          clear hK K
          try simp only [Act.put, List.getElem_toArray, List.getElem_cons_succ, List.getElem_cons_zero, List.setIfInBounds_toArray, List.set_cons_zero, List.set_cons_succ]
          refine wpAnyH_take (i := 6) (v := ?v13) rfl (by kernel_rfl) (by decide +kernel) (by decide +kernel) (fun _ _ _ h => h) (Or.inl ⟨by rfl, ?hy13⟩) (by assumption) ?rest13
          case hy13 => (intro w hSw; (try dsimp only at hSw); go_simp; (try with_reducible rfl))
          try simp only [Act.put, List.getElem_toArray, List.getElem_cons_succ, List.getElem_cons_zero, List.setIfInBounds_toArray, List.set_cons_zero, List.set_cons_succ]
          refine wpAnyH_ready (rs := [8]) (by decide +kernel) (by simp) ?_
          refine AllReadyH.cons rfl (fun K hK => ?_) AllReadyH.nil
          go_simp
          go_wp2_with (go_at_call 34; refine (pick_fin 3 hG4.cur (by omega) (by omega) (by omega)).mono ?_; rintro e w5 ⟨y, rfl, l5, u5, hP5⟩; have hB5 := hB4.fin hP5 hn0; have hF5 := hF4.fin hP5 hn1; have hR5 := hR4.fin hP5 hn2; have hG5 := hG4.then hP5; obtain ⟨d0, d1, d2, d3, d4, df, _⟩ := hB5.five; obtain ⟨c0, c1, c2, c3, c4, cf, _⟩ := hF5.five)
          refine hK.out _ _ (⟨d0, d1, d2, d3, d4, c0, c1⟩) (fun hHeld => ?_)
          clear hK K
          try simp only [Act.put, List.getElem_toArray, List.getElem_cons_succ, List.getElem_cons_zero, List.setIfInBounds_toArray, List.set_cons_zero, List.set_cons_succ]
          refine wpAnyH_ready (rs := [9]) (by decide +kernel) (by simp) ?_
          refine AllReadyH.cons rfl (fun K hK => ?_) AllReadyH.nil
          go_simp
          refine hK.out _ _ (hHeld) (fun hHeld => ?_)
          clear hK K
          try simp only [Act.put, List.getElem_toArray, List.getElem_cons_succ, List.getElem_cons_zero, List.setIfInBounds_toArray, List.set_cons_zero, List.set_cons_succ]
          refine wpAnyH_ready (rs := [10]) (by decide +kernel) (by simp) ?_
          refine AllReadyH.cons rfl (fun K hK => ?_) AllReadyH.nil
          go_simp
          refine hK.out _ _ (hHeld) (fun hHeld => ?_)
          clear hK K
          try simp only [Act.put, List.getElem_toArray, List.getElem_cons_succ, List.getElem_cons_zero, List.setIfInBounds_toArray, List.set_cons_zero, List.set_cons_succ]
          refine wpAnyH_ready (rs := [11]) (by decide +kernel) (by simp) ?_
          refine AllReadyH.cons rfl (fun K hK => ?_) AllReadyH.nil
          go_simp
          refine hK.out _ _ (hHeld) (fun hHeld => ?_)
          clear hK K
          try simp only [Act.put, List.getElem_toArray, List.getElem_cons_succ, List.getElem_cons_zero, List.setIfInBounds_toArray, List.set_cons_zero, List.set_cons_succ]
          refine wpAnyH_ready (rs := [12]) (by decide +kernel) (by simp) ?_
          refine AllReadyH.cons rfl (fun K hK => ?_) AllReadyH.nil
          go_simp
          refine hK.out _ _ (by obtain ⟨d0, d1, d2, d3, d4, _, _⟩ := (hB5.far (M := W.heap.size + 1) (by omega) 2 _).five; obtain ⟨c0, c1, _⟩ := (hF5.set 2 _ (by simp)).five; exact ⟨d0, d1, d2, d3, d4, c0, c1⟩) (fun hHeld => ?_)
          clear hK K
          try simp only [Act.put, List.getElem_toArray, List.getElem_cons_succ, List.getElem_cons_zero, List.setIfInBounds_toArray, List.set_cons_zero, List.set_cons_succ]
          refine wpAnyH_done (by kernel_rfl) ?_ _
          go_wp2_with fail
          go_meet
          exact ⟨_, hF5.set 2 _ (by simp), hR5.far (by omega) _ _, (hG5.set (by omega) _ _).mono (by omega)⟩
        case rest =>
          obtain ⟨en, hF, hR, hG⟩ := hcut
          clear hB3 hF3 hR3 hG3
          obtain ⟨f0, f1, f2, f3, f4, ff, _⟩ := hF.five
          obtain ⟨r0, r1, r2, r3, r4, rf, _⟩ := hR.five
          go_wp2
          refine bodyPost_ret (v := .agg #[.int .i64 f.high, .int .i64 f.speed, .int .i64 en, .int .i64 f.lim, .bool f.ack]) (by simp [results, Try.results35, go_sem, *]) rfl ?_
          refine ⟨⟨f.high, f.speed, en, f.lim, f.ack⟩, rfl, ?_⟩
          repeat (first | with_reducible exact hG | refine Fin.set ?_ (by omega) _ _)
    · go_enter Try.func35, Try.ntmps35
      go_wp2_with fail
      refine (brakesOk_spec _ _ _ _ _ _).mono ?_; rintro e w1 ⟨rfl, hb1⟩
      have hB1 := hB0.below hb1
      have hF1 := hF0.below hb1
      have hR1 := hR0.below hb1
      have hG1 := hG0.below hb1
      clear hB0 hF0 hR0 hG0 hb1
      obtain ⟨f0, f1, f2, f3, f4, ff, _⟩ := hF1.five
      go_wp2_with fail
      refine (feltOk_spec f _).mono ?_; rintro e w2 ⟨rfl, hb2⟩
      have hB2 := hB1.below hb2
      have hF2 := hF1.below hb2
      have hR2 := hR1.below hb2
      have hG2 := hG1.below hb2
      clear f0 f1 f2 f3 f4 ff hB1 hF1 hR1 hG1 hb2
      obtain ⟨f0, f1, f2, f3, f4, ff, _⟩ := hF2.five
      obtain ⟨r0, r1, r2, r3, r4, rf, _⟩ := hR2.five
      have hG := hG2.mono (m' := m + 2) (by omega)
      go_wp2
      refine bodyPost_ret (v := .agg #[.int .i64 f.high, .int .i64 f.speed, .int .i64 f.en, .int .i64 f.lim, .bool f.ack]) (by simp [results, Try.results35, go_sem, *]) rfl ?_
      refine ⟨⟨f.high, f.speed, f.en, f.lim, f.ack⟩, rfl, ?_⟩
      repeat (first | with_reducible exact hG | refine Fin.set ?_ (by omega) _ _)
  · go_enter Try.func35, Try.ntmps35
    go_wp2_with fail
    refine (brakesOk_spec _ _ _ _ _ _).mono ?_; rintro e w1 ⟨rfl, hb1⟩
    have hB1 := hB0.below hb1
    have hF1 := hF0.below hb1
    have hR1 := hR0.below hb1
    have hG1 := hG0.below hb1
    clear hB0 hF0 hR0 hG0 hb1
    obtain ⟨f0, f1, f2, f3, f4, ff, _⟩ := hF1.five
    obtain ⟨r0, r1, r2, r3, r4, rf, _⟩ := hR1.five
    have hG := hG1.mono (m' := m + 2) (by omega)
    go_wp2
    refine bodyPost_ret (v := .agg #[.int .i64 f.high, .int .i64 f.speed, .int .i64 f.en, .int .i64 f.lim, .bool f.ack]) (by simp [results, Try.results35, go_sem, *]) rfl ?_
    refine ⟨⟨f.high, f.speed, f.en, f.lim, f.ack⟩, rfl, ?_⟩
    repeat (first | with_reducible exact hG | refine Fin.set ?_ (by omega) _ _)

end Go.Proofs.Ytgpphkjdmonkaaa
