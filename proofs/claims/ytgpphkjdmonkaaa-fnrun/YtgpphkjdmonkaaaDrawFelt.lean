/-
  What the model draws: what is felt.
-/
import Derived.Test.YtgpphkjdmonkaaaL4Brakes
import Derived.Test.YtgpphkjdmonkaaaGuardPlain
namespace Go.Proofs.Ytgpphkjdmonkaaa
open Go.RowKit
attribute [local go_sem ↓] Go.wp_at_zero Go.wp_at_succ

set_option maxRecDepth 100000 in
set_option maxHeartbeats 6400000 in
theorem drawFelt_any {C : Nat} {p : Option Addr} {len cap : Nat} {m : Int} {W : World} (hC : Cur C p len cap m W) (hm : m ≤ 700000) :
    Calls Try.prog 33 #[.pointer (some ⟨C, 0, none⟩)] W fun e W' => ∃ f : Felt5, e = .returned (.agg #[.int .i64 f.high, .int .i64 f.speed, .int .i64 f.en, .int .i64 f.lim, .bool f.ack]) ∧ Fin C p len cap (m + 14) W W' := by
  have hlt := hC.lt
  have hR0 := Lay.new W #[.int .i64 0, .int .i64 0, .int .i64 0, .int .i64 0, .bool false] 28
  have hF0 : Fin C p len cap m W (W.alloc (.cells #[.int .i64 0, .int .i64 0, .int .i64 0, .int .i64 0, .bool false] 28)) := (Fin.first hC).alloc _
  go_enter Try.func33, Try.ntmps33
  go_wp2_with fail
  refine (wide_fin 3000 hF0.cur (by omega) (by omega) (by omega)).mono ?_; rintro e w1 ⟨x1, rfl, l1, u1, hF1⟩
  go_wp2_with fail
  refine (wide_fin 200 hF1.cur (by omega) (by omega) (by omega)).mono ?_; rintro e w2 ⟨x2, rfl, l2, u2, hF2⟩
  go_wp2_with fail
  refine (pick_fin 3 hF2.cur (by omega) (by omega) (by omega)).mono ?_; rintro e w3 ⟨x3, rfl, l3, u3, hF3⟩
  have p1 : 0 ≤ x2 * x3 := Int.mul_nonneg l2 l3
  have p2 : x2 * x3 ≤ 199 * 2 := Int.mul_le_mul (by omega) (by omega) l3 (by omega)
  go_wp2_with fail
  refine (wide_fin 300 hF3.cur (by omega) (by omega) (by omega)).mono ?_; rintro e w4 ⟨x4, rfl, l4, u4, hF4⟩
  go_wp2_with fail
  refine (pick_fin 3 hF4.cur (by omega) (by omega) (by omega)).mono ?_; rintro e w5 ⟨x5, rfl, l5, u5, hF5⟩
  have hG5 := (((hF0.then hF1).then (hF2.then hF3)).then (hF4.then hF5))
  have hR5 := hR0.fin ((hF1.then (hF2.then hF3)).then (hF4.then hF5)) (by omega)
  clear hF0 hF1 hF2 hF3 hF4 hF5 hR0
  have hl5 := hG5.cur.lt
  have hr5 := hR5.lt
  obtain ⟨sp, hsp⟩ : ∃ sp, x2 * x3 / 2 = sp := ⟨_, rfl⟩
  obtain ⟨li, hli⟩ : ∃ li, 20 + x4 = li := ⟨_, rfl⟩
  obtain ⟨ack, hack⟩ : ∃ ack, decide (0 < x5) = ack := ⟨_, rfl⟩
  have hB6 := Lay.new w5 #[.int .i64 x1, .int .i64 sp, .int .i64 0, .int .i64 li, .bool ack] 28
  have hR6 := hR5.alloc (.cells #[.int .i64 x1, .int .i64 sp, .int .i64 0, .int .i64 li, .bool ack] 28)
  have hG6 := hG5.alloc (.cells #[.int .i64 x1, .int .i64 sp, .int .i64 0, .int .i64 li, .bool ack] 28)
  clear hR5 hG5
  have hne : W.heap.size ≠ w5.heap.size := by omega
  have hne2 : w5.heap.size ≠ W.heap.size := by omega
  have hne3 : w5.heap.size ≠ C := by omega
  have hne4 : W.heap.size ≠ C := by omega
  have hle5 : W.heap.size ≤ w5.heap.size := by omega
  have hSd := hB6.drew.cell 0 _ rfl
  go_wp2
  clear hsp hli hack
  go_cut [] from 4 (fun wx => ∃ en : Int, Lay w5.heap.size [.int .i64 x1, .int .i64 sp, .int .i64 en, .int .i64 li, .bool ack] wx ∧ Lay W.heap.size [.int .i64 0, .int .i64 0, .int .i64 0, .int .i64 0, .bool false] wx ∧ Fin C p len cap (m + 10) W wx)
  case first =>
    refine wp_region_held_drew (S := fun w' => w'.cell? ⟨w5.heap.size, 0, none⟩ = some (.int .i64 x1)) (by kernel_rfl) hSd (fun hHeld => ?_)
    refine wpAnyH_take (i := 0) (v := ?v0) rfl (by kernel_rfl) (by decide +kernel) (by decide +kernel) (fun _ _ _ h => h) (Or.inl ⟨by rfl, ?hy0⟩) (by assumption) ?rest0
    case hy0 => (intro w hSw; (try dsimp only at hSw); go_simp; (try with_reducible rfl))
    try simp only [Act.put, List.getElem_toArray, List.getElem_cons_zero, List.setIfInBounds_toArray, List.set_cons_zero, List.set_cons_succ]
    refine wpAnyH_take (i := 1) (v := ?v1) rfl (by kernel_rfl) (by decide +kernel) (by decide +kernel) (fun _ _ _ h => h) (Or.inl ⟨by rfl, ?hy1⟩) (by assumption) ?rest1
    case hy1 => (intro w hSw; (try dsimp only at hSw); go_simp; (try with_reducible rfl))
    try simp only [Act.put, List.getElem_toArray, List.getElem_cons_succ, List.getElem_cons_zero, List.setIfInBounds_toArray, List.set_cons_zero, List.set_cons_succ]
    refine wpAnyH_take (i := 2) (v := ?v2) rfl (by kernel_rfl) (by decide +kernel) (by decide +kernel) (fun _ _ _ h => h) (Or.inl ⟨by rfl, ?hy2⟩) (by assumption) ?rest2
    case hy2 => (intro w hSw; (try dsimp only at hSw); go_simp; (try with_reducible rfl))
    try simp only [Act.put, List.getElem_toArray, List.getElem_cons_succ, List.getElem_cons_zero, List.setIfInBounds_toArray, List.set_cons_zero, List.set_cons_succ]
    refine wpAnyH_ready (rs := [3]) (by decide +kernel) (by simp) ?_
    refine AllReadyH.cons rfl (fun K hK => ?_) AllReadyH.nil
    go_simp
    go_wp2_with (go_at_call 63; refine (wide_fin 4000 hG6.cur.drew (by omega) (by omega) (by omega)).mono ?_; rintro e w6 ⟨x6, rfl, l6, u6, hF6⟩; have hB7 := hB6.drew.fin hF6 hne3; have hR7 := hR6.drew.fin hF6 hne4; have hG7 := (hG6.drew.then hF6).mono (m' := m + 10) (by omega); obtain ⟨b0, b1, b2, b3, b4, bf, blt⟩ := hB7.five)
    refine hK.out _ _ (b0) (fun hHeld => ?_)
    clear hK K
    try simp only [Act.put, List.getElem_toArray, List.getElem_cons_succ, List.getElem_cons_zero, List.setIfInBounds_toArray, List.set_cons_zero, List.set_cons_succ]
    refine wpAnyH_ready (rs := [4]) (by decide +kernel) (by simp) ?_
    refine AllReadyH.cons rfl (fun K hK => ?_) AllReadyH.nil
    go_simp
    refine hK.out _ _ (hHeld) (fun hHeld => ?_)
    clear hK K
    try simp only [Act.put, List.getElem_toArray, List.getElem_cons_succ, List.getElem_cons_zero, List.setIfInBounds_toArray, List.set_cons_zero, List.set_cons_succ]
    refine wpAnyH_ready (rs := [5]) (by decide +kernel) (by simp) ?_
    refine AllReadyH.cons rfl (fun K hK => ?_) AllReadyH.nil
    go_simp
    refine hK.out _ _ (hHeld) (fun hHeld => ?_)
    clear hK K
    try simp only [Act.put, List.getElem_toArray, List.getElem_cons_succ, List.getElem_cons_zero, List.setIfInBounds_toArray, List.set_cons_zero, List.set_cons_succ]
    refine wpAnyH_ready (rs := [6]) (by decide +kernel) (by simp) ?_
    refine AllReadyH.cons rfl (fun K hK => ?_) AllReadyH.nil
    go_simp
    refine hK.out _ _ (by rw [World.cell?_setCell_other _ _ _ _ (by simp)]; exact hHeld) (fun hHeld => ?_)
    clear hK K
    try simp only [Act.put, List.getElem_toArray, List.getElem_cons_succ, List.getElem_cons_zero, List.setIfInBounds_toArray, List.set_cons_zero, List.set_cons_succ]
    refine wpAnyH_done (by kernel_rfl) ?_ _
    go_wp2_with fail
    go_meet
    exact ⟨_, hB7.set 2 _ (by simp), hR7.far hne2 _ _, hG7.set hle5 _ _⟩
  case rest =>
    obtain ⟨en, hB, hR, hG⟩ := hcut
    clear hB6 hR6 hG6 hSd
    rename_i wx
    go_wp2_with fail
    refine (pick_fin 20 hG.cur (by omega) (by omega) (by omega)).mono ?_; rintro e w7 ⟨x, rfl, l7, u7, hF7⟩
    have hB7 := hB.fin hF7 hne3
    have hR7 := hR.fin hF7 hne4
    have hG7 := hG.then hF7
    have hltB := hB7.lt
    clear hB hR hG hF7
    have hx : x = 0 ∨ x = 1 ∨ x = 2 ∨ x = 3 ∨ x = 4 ∨ 5 ≤ x := by omega
    rcases hx with rfl | rfl | rfl | rfl | rfl | hx
    · go_wp2_with fail
      refine (pick_fin 4 (hG7.cur.below (bone _ _)) (by omega) (by omega) (by omega)).mono ?_; rintro e w8 ⟨y, rfl, l8, u8, hF8⟩
      obtain ⟨q0, q1, q2, q3⟩ := ((Lay.new w7 #[.int .i64 (-1), .int .i64 (-2), .int .i64 100000000, .int .i64 100000001] 3).fin hF8 (by have := hG7.cur.lt; omega)).four
      obtain ⟨b0, b1, b2, b3, b4, bf, _⟩ := ((hB7.alloc _).fin hF8 hne3).five
      obtain ⟨r0, r1, r2, r3, r4, rf, _⟩ := ((hR7.alloc _).fin hF8 hne4).five
      have hG8 := ((hG7.alloc _).then hF8).mono (m' := m + 14) (by omega)
      clear hB7 hR7 hG7 hF8
      have hy : y = 0 ∨ y = 1 ∨ y = 2 ∨ y = 3 := by omega
      rcases hy with rfl | rfl | rfl | rfl
      · go_wp2
        refine bodyPost_ret (v := .agg #[.int .i64 x1, .int .i64 sp, .int .i64 (-1), .int .i64 li, .bool ack]) (by simp [results, Try.results33, go_sem, *]) rfl ?_
        refine ⟨⟨x1, sp, -1, li, ack⟩, rfl, ?_⟩
        repeat (first | with_reducible exact hG8 | refine Fin.set ?_ (by omega) _ _)
      · go_wp2
        refine bodyPost_ret (v := .agg #[.int .i64 x1, .int .i64 sp, .int .i64 (-2), .int .i64 li, .bool ack]) (by simp [results, Try.results33, go_sem, *]) rfl ?_
        refine ⟨⟨x1, sp, -2, li, ack⟩, rfl, ?_⟩
        repeat (first | with_reducible exact hG8 | refine Fin.set ?_ (by omega) _ _)
      · go_wp2
        refine bodyPost_ret (v := .agg #[.int .i64 x1, .int .i64 sp, .int .i64 100000000, .int .i64 li, .bool ack]) (by simp [results, Try.results33, go_sem, *]) rfl ?_
        refine ⟨⟨x1, sp, 100000000, li, ack⟩, rfl, ?_⟩
        repeat (first | with_reducible exact hG8 | refine Fin.set ?_ (by omega) _ _)
      · go_wp2
        refine bodyPost_ret (v := .agg #[.int .i64 x1, .int .i64 sp, .int .i64 100000001, .int .i64 li, .bool ack]) (by simp [results, Try.results33, go_sem, *]) rfl ?_
        refine ⟨⟨x1, sp, 100000001, li, ack⟩, rfl, ?_⟩
        repeat (first | with_reducible exact hG8 | refine Fin.set ?_ (by omega) _ _)
    · go_wp2_with fail
      refine (pick_fin 2 (hG7.cur.below (bone _ _)) (by omega) (by omega) (by omega)).mono ?_; rintro e w8 ⟨y, rfl, l8, u8, hF8⟩
      obtain ⟨q0, q1, _, _⟩ := ((Lay.new w7 #[.int .i64 (-1), .int .i64 100000001] 3).fin hF8 (by have := hG7.cur.lt; omega)).two
      obtain ⟨b0, b1, b2, b3, b4, bf, _⟩ := ((hB7.alloc _).fin hF8 hne3).five
      obtain ⟨r0, r1, r2, r3, r4, rf, _⟩ := ((hR7.alloc _).fin hF8 hne4).five
      have hG8 := ((hG7.alloc _).then hF8).mono (m' := m + 14) (by omega)
      clear hB7 hR7 hG7 hF8
      have hy : y = 0 ∨ y = 1 := by omega
      rcases hy with rfl | rfl
      · go_wp2
        refine bodyPost_ret (v := .agg #[.int .i64 (-1), .int .i64 sp, .int .i64 en, .int .i64 li, .bool ack]) (by simp [results, Try.results33, go_sem, *]) rfl ?_
        refine ⟨⟨-1, sp, en, li, ack⟩, rfl, ?_⟩
        repeat (first | with_reducible exact hG8 | refine Fin.set ?_ (by omega) _ _)
      · go_wp2
        refine bodyPost_ret (v := .agg #[.int .i64 100000001, .int .i64 sp, .int .i64 en, .int .i64 li, .bool ack]) (by simp [results, Try.results33, go_sem, *]) rfl ?_
        refine ⟨⟨100000001, sp, en, li, ack⟩, rfl, ?_⟩
        repeat (first | with_reducible exact hG8 | refine Fin.set ?_ (by omega) _ _)
    · go_wp2_with fail
      refine (drawSpeed_any hG7.cur (by omega)).mono ?_; rintro e w8 ⟨y, rfl, hF8⟩
      obtain ⟨b0, b1, b2, b3, b4, bf, _⟩ := (hB7.fin hF8 hne3).five
      obtain ⟨r0, r1, r2, r3, r4, rf, _⟩ := (hR7.fin hF8 hne4).five
      have hG8 := (hG7.then hF8).mono (m' := m + 14) (by omega)
      clear hB7 hR7 hG7 hF8
      go_wp2
      refine bodyPost_ret (v := .agg #[.int .i64 x1, .int .i64 y, .int .i64 en, .int .i64 li, .bool ack]) (by simp [results, Try.results33, go_sem, *]) rfl ?_
      refine ⟨⟨x1, y, en, li, ack⟩, rfl, ?_⟩
      repeat (first | with_reducible exact hG8 | refine Fin.set ?_ (by omega) _ _)
    · go_wp2_with fail
      refine (drawSpeed_any hG7.cur (by omega)).mono ?_; rintro e w8 ⟨y, rfl, hF8⟩
      obtain ⟨b0, b1, b2, b3, b4, bf, _⟩ := (hB7.fin hF8 hne3).five
      obtain ⟨r0, r1, r2, r3, r4, rf, _⟩ := (hR7.fin hF8 hne4).five
      have hG8 := (hG7.then hF8).mono (m' := m + 14) (by omega)
      clear hB7 hR7 hG7 hF8
      go_wp2
      refine bodyPost_ret (v := .agg #[.int .i64 x1, .int .i64 sp, .int .i64 en, .int .i64 y, .bool ack]) (by simp [results, Try.results33, go_sem, *]) rfl ?_
      refine ⟨⟨x1, sp, en, y, ack⟩, rfl, ?_⟩
      repeat (first | with_reducible exact hG8 | refine Fin.set ?_ (by omega) _ _)
    · go_wp2_with fail
      refine (wide_fin 3000 hG7.cur (by omega) (by omega) (by omega)).mono ?_; rintro e w8 ⟨y, rfl, l8, u8, hF8⟩
      obtain ⟨b0, b1, b2, b3, b4, bf, _⟩ := (hB7.fin hF8 hne3).five
      obtain ⟨r0, r1, r2, r3, r4, rf, _⟩ := (hR7.fin hF8 hne4).five
      have hG8 := (hG7.then hF8).mono (m' := m + 14) (by omega)
      clear hB7 hR7 hG7 hF8
      go_wp2
      refine bodyPost_ret (v := .agg #[.int .i64 x1, .int .i64 sp, .int .i64 y, .int .i64 li, .bool ack]) (by simp [results, Try.results33, go_sem, *]) rfl ?_
      refine ⟨⟨x1, sp, y, li, ack⟩, rfl, ?_⟩
      repeat (first | with_reducible exact hG8 | refine Fin.set ?_ (by omega) _ _)
    · have e0 : (x == 0) = false := by simp; omega
      have e1 : (x == 1) = false := by simp; omega
      have e2 : (x == 2) = false := by simp; omega
      have e3 : (x == 3) = false := by simp; omega
      have e4 : (x == 4) = false := by simp; omega
      obtain ⟨b0, b1, b2, b3, b4, bf, _⟩ := hB7.five
      obtain ⟨r0, r1, r2, r3, r4, rf, _⟩ := hR7.five
      have hG8 := hG7.mono (m' := m + 14) (by omega)
      clear hB7 hR7 hG7
      go_wp2
      refine bodyPost_ret (v := .agg #[.int .i64 x1, .int .i64 sp, .int .i64 en, .int .i64 li, .bool ack]) (by simp [results, Try.results33, go_sem, *]) rfl ?_
      refine ⟨⟨x1, sp, en, li, ack⟩, rfl, ?_⟩
      repeat (first | with_reducible exact hG8 | refine Fin.set ?_ (by omega) _ _)

end Go.Proofs.Ytgpphkjdmonkaaa
