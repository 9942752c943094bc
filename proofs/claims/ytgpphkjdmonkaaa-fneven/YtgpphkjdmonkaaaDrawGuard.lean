/-
  What the model draws: a guard.
-/
import Derived.Test.YtgpphkjdmonkaaaDrawFelt
namespace Go.Proofs.Ytgpphkjdmonkaaa
open Go.RowKit
attribute [local go_sem ↓] Go.wp_at_zero Go.wp_at_succ

set_option maxRecDepth 100000 in
set_option maxHeartbeats 6400000 in
theorem drawGuard_any {C : Nat} {p : Option Addr} {len cap : Nat} {m : Int} {W : World} (f : Felt5) (hC : Cur C p len cap m W) (hm : m ≤ 700000) :
    Calls Try.prog 36 #[.pointer (some ⟨C, 0, none⟩), .agg #[.int .i64 f.high, .int .i64 f.speed, .int .i64 f.en, .int .i64 f.lim, .bool f.ack]] W fun e W' => ∃ st en : Int, e = .returned (.agg #[.int .i64 st, .int .i64 en]) ∧ Fin C p len cap (m + 4) W W' := by
  have hlt := hC.lt
  have hF0 := (Lay.new W #[.int .i64 f.high, .int .i64 f.speed, .int .i64 f.en, .int .i64 f.lim, .bool f.ack] 28).alloc (.cells #[.int .i64 0, .int .i64 0] 26)
  have hR0 := Lay.new (W.alloc (.cells #[.int .i64 f.high, .int .i64 f.speed, .int .i64 f.en, .int .i64 f.lim, .bool f.ack] 28)) #[.int .i64 0, .int .i64 0] 26
  have hG0 : Fin C p len cap m W ((W.alloc (.cells #[.int .i64 f.high, .int .i64 f.speed, .int .i64 f.en, .int .i64 f.lim, .bool f.ack] 28)).alloc (.cells #[.int .i64 0, .int .i64 0] 26)) := ((Fin.first hC).alloc _).alloc _
  rw [World.size_alloc] at hR0
  have hn0 : W.heap.size ≠ C := by omega
  have hn1 : W.heap.size + 1 ≠ C := by omega
  have hn2 : W.heap.size + 1 + 1 ≠ C := by omega
  have hSd := hF0.drew.cell 2 _ rfl
  go_enter Try.func36, Try.ntmps36
  go_wp2
  go_cut [5] from 6 (fun t5 wx => ∃ (N : Nat) (st en : Int), t5 = .pointer (some ⟨N, 0, none⟩) ∧ W.heap.size ≤ N ∧ N ≠ W.heap.size + 1 ∧ Lay N [.int .i64 st, .int .i64 en] wx ∧ Lay (W.heap.size + 1) [.int .i64 0, .int .i64 0] wx ∧ Fin C p len cap (m + 1) W wx)
  case first =>
    refine wp_region_held_drew (S := fun w' => w'.cell? ⟨W.heap.size, 2, none⟩ = some (.int .i64 f.en)) (by kernel_rfl) hSd (fun hHeld => ?_)
    refine wpAnyH_take (i := 0) (v := ?v0) rfl (by kernel_rfl) (by decide +kernel) (by decide +kernel) (fun _ _ _ h => h) (Or.inl ⟨by rfl, ?hy0⟩) (by assumption) ?rest0
    case hy0 => (intro w hSw; (try dsimp only at hSw); go_simp; (try with_reducible rfl))
    try simp only [Act.put, List.getElem_toArray, List.getElem_cons_zero, List.setIfInBounds_toArray, List.set_cons_zero, List.set_cons_succ]
    refine wpAnyH_take (i := 2) (v := ?v1) rfl (by kernel_rfl) (by decide +kernel) (by decide +kernel) (fun _ _ _ h => h) (Or.inl ⟨by rfl, ?hy1⟩) (by assumption) ?rest1
    case hy1 => (intro w hSw; (try dsimp only at hSw); go_simp; (try with_reducible rfl))
    try simp only [Act.put, List.getElem_toArray, List.getElem_cons_succ, List.getElem_cons_zero, List.setIfInBounds_toArray, List.set_cons_zero, List.set_cons_succ]
    refine wpAnyH_take (i := 3) (v := ?v2) rfl (by kernel_rfl) (by decide +kernel) (by decide +kernel) (fun _ _ _ h => h) (Or.inl ⟨by rfl, ?hy2⟩) (by assumption) ?rest2
    case hy2 => (intro w hSw; (try dsimp only at hSw); go_simp; (try with_reducible rfl))
    try simp only [Act.put, List.getElem_toArray, List.getElem_cons_succ, List.getElem_cons_zero, List.setIfInBounds_toArray, List.set_cons_zero, List.set_cons_succ]
    refine wpAnyH_ready (rs := [1, 5]) (by decide +kernel) (by simp) ?_
    refine AllReadyH.cons rfl (fun K hK => ?_) (AllReadyH.cons rfl (fun K hK => ?_) AllReadyH.nil)
    · go_simp
      go_wp2_with (go_at_call 34; refine (pick_fin 4 hG0.cur.drew (by omega) (by omega) (by omega)).mono ?_; rintro e w3 ⟨y, rfl, l2, u2, hP⟩; have hF3 := hF0.drew.fin hP hn0; have hR3 := hR0.drew.fin hP hn1; have hG3 := hG0.drew.then hP; have hS3 := hF3.cell 2 _ rfl; have hlt3 := hF3.lt; have hlt4 := hR3.lt; obtain ⟨n0, n1, nf, _⟩ := (Lay.new w3 #[.int .i64 0, .int .i64 0] 26).two)
      refine hK.out _ _ (hS3) (fun hHeld => ?_)
      clear hK K
      try simp only [Act.put, List.getElem_toArray, List.getElem_cons_succ, List.getElem_cons_zero, List.setIfInBounds_toArray, List.set_cons_zero, List.set_cons_succ]
      refine wpAnyH_take (i := 4) (v := ?v3) rfl (by kernel_rfl) (by decide +kernel) (by decide +kernel) (fun _ _ _ h => h) (Or.inl ⟨by rfl, ?hy3⟩) (by assumption) ?rest3
      case hy3 => (intro w hSw; (try dsimp only at hSw); go_simp; (try with_reducible rfl))
      try simp only [Act.put, List.getElem_toArray, List.getElem_cons_succ, List.getElem_cons_zero, List.setIfInBounds_toArray, List.set_cons_zero, List.set_cons_succ]
      refine wpAnyH_ready (rs := [5]) (by decide +kernel) (by simp) ?_
      refine AllReadyH.cons rfl (fun K hK => ?_) AllReadyH.nil
      go_simp
      refine hK.out _ _ (cellStay _ hS3) (fun hHeld => ?_)
      clear hK K
      try simp only [Act.put, List.getElem_toArray, List.getElem_cons_succ, List.getElem_cons_zero, List.setIfInBounds_toArray, List.set_cons_zero, List.set_cons_succ]
      refine wpAnyH_ready (rs := [6]) (by decide +kernel) (by simp) ?_
      refine AllReadyH.cons rfl (fun K hK => ?_) AllReadyH.nil
      go_simp
      refine hK.out _ _ (cellStay _ hS3) (fun hHeld => ?_)
      clear hK K
      try simp only [Act.put, List.getElem_toArray, List.getElem_cons_succ, List.getElem_cons_zero, List.setIfInBounds_toArray, List.set_cons_zero, List.set_cons_succ]
      refine wpAnyH_done (by kernel_rfl) ?_ _
      go_wp2_with fail
      go_meet
      exact ⟨w3.heap.size, y, f.en, rfl, by omega, by omega, Lay.new w3 #[.int .i64 y, .int .i64 f.en] 26, hR3.alloc _, hG3.alloc _⟩
    · go_simp
      refine hK.out _ _ (cellStay _ hSd) (fun hHeld => ?_)
      clear hK K
      try simp only [Act.put, List.getElem_toArray, List.getElem_cons_succ, List.getElem_cons_zero, List.setIfInBounds_toArray, List.set_cons_zero, List.set_cons_succ]
      refine wpAnyH_ready (rs := [1]) (by decide +kernel) (by simp) ?_
      refine AllReadyH.cons rfl (fun K hK => ?_) AllReadyH.nil
      go_simp
      go_wp2_with (go_at_call 34; refine (pick_fin 4 (hG0.drew.alloc _).cur (by omega) (by omega) (by omega)).mono ?_; rintro e w3 ⟨y, rfl, l2, u2, hP⟩; have hF3 := (hF0.drew.alloc _).fin hP hn0; have hR3 := (hR0.drew.alloc _).fin hP hn1; have hN3 := (Lay.new ((W.alloc (.cells #[.int .i64 f.high, .int .i64 f.speed, .int .i64 f.en, .int .i64 f.lim, .bool f.ack] 28)).alloc (.cells #[.int .i64 0, .int .i64 0] 26)).drew #[.int .i64 0, .int .i64 0] 26).fin hP (by rw [World.size_drew, World.size_alloc, World.size_alloc]; omega); rw [World.size_drew, World.size_alloc, World.size_alloc] at hN3; have hG3 := (hG0.drew.alloc _).then hP; have hS3 := hF3.cell 2 _ rfl; have hlt3 := hF3.lt; have hlt4 := hR3.lt; obtain ⟨n0, n1, nf, _⟩ := hN3.two)
      refine hK.out _ _ (hS3) (fun hHeld => ?_)
      clear hK K
      try simp only [Act.put, List.getElem_toArray, List.getElem_cons_succ, List.getElem_cons_zero, List.setIfInBounds_toArray, List.set_cons_zero, List.set_cons_succ]
      refine wpAnyH_take (i := 4) (v := ?v4) rfl (by kernel_rfl) (by decide +kernel) (by decide +kernel) (fun _ _ _ h => h) (Or.inl ⟨by rfl, ?hy4⟩) (by assumption) ?rest4
      case hy4 => (intro w hSw; (try dsimp only at hSw); go_simp; (try with_reducible rfl))
      try simp only [Act.put, List.getElem_toArray, List.getElem_cons_succ, List.getElem_cons_zero, List.setIfInBounds_toArray, List.set_cons_zero, List.set_cons_succ]
      refine wpAnyH_ready (rs := [6]) (by decide +kernel) (by simp) ?_
      refine AllReadyH.cons rfl (fun K hK => ?_) AllReadyH.nil
      go_simp
      refine hK.out _ _ (by rw [World.cell?_setCell_far _ _ _ _ (by first | (show W.heap.size + 1 + 1 ≠ W.heap.size; omega) | (show w3.heap.size ≠ W.heap.size; omega)), World.cell?_setCell_far _ _ _ _ (by first | (show W.heap.size + 1 + 1 ≠ W.heap.size; omega) | (show w3.heap.size ≠ W.heap.size; omega))]; exact hHeld) (fun hHeld => ?_)
      clear hK K
      try simp only [Act.put, List.getElem_toArray, List.getElem_cons_succ, List.getElem_cons_zero, List.setIfInBounds_toArray, List.set_cons_zero, List.set_cons_succ]
      refine wpAnyH_done (by kernel_rfl) ?_ _
      go_wp2_with fail
      go_meet
      exact ⟨W.heap.size + 1 + 1, y, f.en, rfl, by omega, by omega, (hN3.set 0 (.int .i64 y) (by simp)).set 1 (.int .i64 f.en) (by simp), (hR3.far (by omega) _ _).far (by omega) _ _, (hG3.set (by omega) _ _).set (by omega) _ _⟩
  case rest =>
    obtain ⟨N, st, en, rfl, hN1, hN2, hN, hR, hG⟩ := hcut
    clear hF0 hR0 hG0 hSd
    have hNC : N ≠ C := by omega
    go_wp2_with fail
    refine (pick_fin 8 hG.cur (by omega) (by omega) (by omega)).mono ?_; rintro e w7 ⟨x, rfl, l7, u7, hP7⟩
    have hN7 := hN.fin hP7 hNC
    have hR7 := hR.fin hP7 hn1
    have hG7 := hG.then hP7
    have hltN := hN7.lt
    clear hN hR hG hP7
    have hx : x = 0 ∨ x = 1 ∨ x = 2 ∨ 3 ≤ x := by omega
    rcases hx with rfl | rfl | rfl | hx
    · go_wp2_with fail
      refine (wide_fin 4000 hG7.cur (by omega) (by omega) (by omega)).mono ?_; rintro e w8 ⟨y, rfl, l8, u8, hP8⟩
      obtain ⟨c0, c1, cf, _⟩ := (hN7.fin hP8 hNC).two
      obtain ⟨r0, r1, rf, _⟩ := (hR7.fin hP8 hn1).two
      have hG8 := (hG7.then hP8).mono (m' := m + 4) (by omega)
      clear hN7 hR7 hG7 hP8
      go_wp2
      refine bodyPost_ret (v := .agg #[.int .i64 st, .int .i64 y]) (by simp [results, Try.results36, go_sem, *]) rfl ?_
      refine ⟨_, _, rfl, ?_⟩
      repeat (first | with_reducible exact hG8 | refine Fin.set ?_ (by omega) _ _)
    · obtain ⟨c0, c1, cf, _⟩ := hN7.two
      obtain ⟨r0, r1, rf, _⟩ := hR7.two
      have hG8 := hG7.mono (m' := m + 4) (by omega)
      clear hN7 hR7 hG7
      go_wp2
      refine bodyPost_ret (v := .agg #[.int .i64 st, .int .i64 (-1)]) (by simp [results, Try.results36, go_sem, *]) rfl ?_
      refine ⟨_, _, rfl, ?_⟩
      repeat (first | with_reducible exact hG8 | refine Fin.set ?_ (by omega) _ _)
    · go_wp2_with fail
      refine (pick_fin 4 hG7.cur (by omega) (by omega) (by omega)).mono ?_; rintro e w8 ⟨y, rfl, l8, u8, hP8⟩
      have hN8 := hN7.fin hP8 hNC
      have hR8 := hR7.fin hP8 hn1
      have hG8 := hG7.then hP8
      clear hN7 hR7 hG7 hP8
      by_cases hy : y = 0
      · subst hy
        go_wp2_with fail
        refine (pick_fin 2 (hG8.cur.below (bone _ _)) (by omega) (by omega) (by omega)).mono ?_; rintro e w9 ⟨z, rfl, l9, u9, hP9⟩
        obtain ⟨q0, q1, _, _⟩ := ((Lay.new w8 #[.int .i64 (-1), .int .i64 4] 3).fin hP9 (by have := hG8.cur.lt; omega)).two
        obtain ⟨c0, c1, cf, _⟩ := ((hN8.alloc _).fin hP9 hNC).two
        obtain ⟨r0, r1, rf, _⟩ := ((hR8.alloc _).fin hP9 hn1).two
        have hG9 := ((hG8.alloc _).then hP9).mono (m' := m + 4) (by omega)
        clear hG8 hN8 hR8 hP9
        have hz : z = 0 ∨ z = 1 := by omega
        rcases hz with rfl | rfl
        · go_wp2
          refine bodyPost_ret (v := .agg #[.int .i64 (-1), .int .i64 en]) (by simp [results, Try.results36, go_sem, *]) rfl ?_
          refine ⟨_, _, rfl, ?_⟩
          repeat (first | with_reducible exact hG9 | refine Fin.set ?_ (by omega) _ _)
        · go_wp2
          refine bodyPost_ret (v := .agg #[.int .i64 4, .int .i64 en]) (by simp [results, Try.results36, go_sem, *]) rfl ?_
          refine ⟨_, _, rfl, ?_⟩
          repeat (first | with_reducible exact hG9 | refine Fin.set ?_ (by omega) _ _)
      · obtain ⟨c0, c1, cf, _⟩ := hN8.two
        obtain ⟨r0, r1, rf, _⟩ := hR8.two
        have hG9 := hG8
        clear hG8
        have hG8 := hG9.mono (m' := m + 4) (by omega)
        clear hG9 hN8 hR8
        have e0 : (y == 0) = false := by simp [hy]
        go_wp2
        refine bodyPost_ret (v := .agg #[.int .i64 st, .int .i64 en]) (by simp [results, Try.results36, go_sem, *]) rfl ?_
        refine ⟨_, _, rfl, ?_⟩
        repeat (first | with_reducible exact hG8 | refine Fin.set ?_ (by omega) _ _)
    · have e0 : (x == 0) = false := by simp; omega
      have e1 : (x == 1) = false := by simp; omega
      have e2 : (x == 2) = false := by simp; omega
      obtain ⟨c0, c1, cf, _⟩ := hN7.two
      obtain ⟨r0, r1, rf, _⟩ := hR7.two
      have hG8 := hG7.mono (m' := m + 4) (by omega)
      clear hN7 hR7 hG7
      go_wp2
      refine bodyPost_ret (v := .agg #[.int .i64 st, .int .i64 en]) (by simp [results, Try.results36, go_sem, *]) rfl ?_
      refine ⟨_, _, rfl, ?_⟩
      repeat (first | with_reducible exact hG8 | refine Fin.set ?_ (by omega) _ _)

end Go.Proofs.Ytgpphkjdmonkaaa
