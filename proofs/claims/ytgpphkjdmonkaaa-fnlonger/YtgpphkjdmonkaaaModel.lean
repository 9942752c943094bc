/-
  The model's curves: its loops come to the same closed sums.
-/
import Derived.Test.YtgpphkjdmonkaaaCurve
namespace Go.Proofs.Ytgpphkjdmonkaaa
open Go.RowKit
attribute [local go_sem ↓] Go.wp_at_zero Go.wp_at_succ

/-- What is still to come under the brake. -/
def slw (b u : Int) : Int := if 0 < u then brk b u else 0
theorem slw_pos {b u : Int} (h : 0 < u) : slw b u = brk b u := by simp [slw, h]
theorem slw_neg {b u : Int} (h : ¬ 0 < u) : slw b u = 0 := by simp [slw, h]
theorem slw_bd {b u : Int} (hb : 1 ≤ b) (hu : u ≤ 20000) : 0 ≤ slw b u := by
  by_cases h : 0 < u
  · rw [slw_pos h]; exact (brk_bd hb (by omega) hu).1
  · rw [slw_neg h]; omega
theorem slw_zero {b v : Int} (hb : 1 ≤ b) (hv : 0 ≤ v) : slw b v = brk b v := by
  by_cases h : 0 < v
  · exact slw_pos h
  · have : v = 0 := by omega
    subst this; rw [slw_neg h, brk_small (by omega) (by omega) (by omega)]

set_option maxHeartbeats 800000 in
theorem l1slow_any (v b : Int) (w : World) (hb : 1 ≤ b) (hb' : b ≤ 1000) (hv : 0 ≤ v) (hv' : v ≤ 20000) :
    Calls Try.prog 72 #[.int .i64 v, .int .i64 b] w fun e w' => e = .returned (.int .i64 (brk b v)) ∧ w = w' := by
  have tot := brk_bd hb hv hv'
  have H0 := slw_zero hb hv
  go_enter Try.func72, Try.ntmps72
  go_wp2
  go_loop [0, 5] (fun sv sf => ∃ u f : Int, -1000 ≤ u ∧ u ≤ 20000 ∧ 0 ≤ f ∧ sv = .int .i64 u ∧ sf = .int .i64 f ∧ Hid (f + slw b u = brk b v)) (fun sv _ => (intOf sv + 1000).toNat)
  case atStart => exact ⟨v, 0, by omega, by omega, by omega, rfl, rfl, by show _ = _; omega⟩
  case round =>
    obtain ⟨u, f, hu, hu', hf, rfl, rfl, HE⟩ := hrel
    have hs := slw_bd hb hu'
    have hfl : f ≤ 400000000 := by have := HE.out; omega
    by_cases hp : 0 < u
    · have hstep := brk_step (b := b) (v := u) (by omega)
      by_cases hq : 0 < u - b
      · have HN : Hid (f + (u - b) + slw b (u - b) = brk b v) := by
          have := HE.out; show _ = _; rw [slw_pos hq]; rw [slw_pos hp] at this; omega
        clear hstep hs H0
        go_wp2
        go_round
        case rel => exact ⟨u - b, f + (u - b), by omega, by omega, by omega, rfl, rfl, HN⟩
        case measure => simp [intOf]; omega
      · have HN : Hid (f + slw b (u - b) = brk b v) := by
          have := HE.out; show _ = _; rw [slw_neg hq]; rw [slw_pos hp, brk_small (by omega) (by omega) (by omega)] at this; omega
        clear hstep hs H0
        go_wp2
        go_round
        case rel => exact ⟨u - b, f, by omega, by omega, by omega, rfl, rfl, HN⟩
        case measure => simp [intOf]; omega
    · have HN : Hid (f = brk b v) := by have := HE.out; rw [slw_neg hp] at this; show _ = _; omega
      clear hs H0
      go_wp2
      go_ret
      exact ⟨ret_int HN.out, rfl⟩

set_option maxHeartbeats 800000 in
theorem l1worst_any (s h d a k v : Int) (w : World) (hok : okB s h d a k = true) (hv : 0 ≤ v) (hv' : v ≤ 10000) :
    Calls Try.prog 55 #[.agg #[.int .i64 s, .int .i64 h, .int .i64 d, .int .i64 a, .int .i64 k], .int .i64 v] w fun e w' => e = .returned (.int .i64 (worstP h d a v)) ∧ Below w.heap.size w w' := by
  obtain ⟨a1, a2, a3, a4, a5, a6, a7, a8, a9, a10⟩ := okB_iff.1 hok
  clear hok
  go_enter Try.func55, Try.ntmps55
  go_wp2
  go_loop [1, 5, 6] (fun sv sf sk => ∃ j : Int, 0 ≤ j ∧ j ≤ d + 1 ∧ sk = .int .i64 j ∧ sv = .int .i64 (v + j * a) ∧ sf = .int .i64 (unb j a v)) (fun _ _ sk => (d + 1 - intOf sk).toNat)
  case atStart => exact ⟨0, by omega, by omega, rfl, by simp, by rw [unb_zero]⟩
  case round =>
    obtain ⟨j, hj, hj', rfl, rfl, rfl⟩ := hrel
    obtain ⟨p1, p2⟩ := mulb hj (A := 21) (by omega) a7 a8
    obtain ⟨u1, u2⟩ := unb_bd hj (by omega) a7 a8 hv (by omega)
    by_cases hlt : j ≤ d
    · have E1 : Hid (v + (j + 1) * a = v + j * a + a) := by show _ = _; rw [Int.add_mul]; omega
      have E2 : Hid (unb (j + 1) a v = unb j a v + (v + j * a + a)) := by show _ = _; rw [unb_succ, Int.add_mul]; omega
      go_wp2
      go_round
      case rel => exact ⟨j + 1, by omega, by omega, rfl, by rw [E1.out], by rw [E2.out]⟩
      case measure => simp [intOf]; omega
    · have e : j = d + 1 := by omega
      subst e
      have k := brk_bd (b := h) (v := v + (d + 1) * a) (by omega) (by omega) (by omega)
      go_wp2_with (go_at_call 72; refine (l1slow_any _ _ _ ?_ ?_ ?_ ?_).mono ?_; omega; omega; omega; omega; rintro e w' ⟨rfl, rfl⟩)
      go_ret
      exact ⟨ret_int rfl, bone _ _⟩

theorem gentle_eq (s d k v : Int) : gentleP s d k v = v * (d + k + 1) + brk s v := by
  unfold gentleP unb; rw [Int.mul_comm v]; simp
set_option maxHeartbeats 800000 in
theorem l1gentle_any (s h d a k v : Int) (w : World) (hok : okB s h d a k = true) (hv : 0 ≤ v) (hv' : v ≤ 10000) :
    Calls Try.prog 57 #[.agg #[.int .i64 s, .int .i64 h, .int .i64 d, .int .i64 a, .int .i64 k], .int .i64 v] w fun e w' => e = .returned (.int .i64 (gentleP s d k v)) ∧ Below w.heap.size w w' := by
  obtain ⟨a1, a2, a3, a4, a5, a6, a7, a8, a9, a10⟩ := okB_iff.1 hok
  clear hok
  obtain ⟨p1, p2⟩ := mulb hv hv' (b := d + k + 1) (B := 81) (by omega) (by omega)
  have kb := brk_bd (b := s) (v := v) (by omega) (by omega) (by omega)
  have e0 : IntKind.i64.wrap (d + k) = d + k := wrap_in (by omega) (by omega)
  have e1 : IntKind.i64.wrap (d + k + 1) = d + k + 1 := wrap_in (by omega) (by omega)
  have e2 : IntKind.i64.wrap (v * (d + k + 1)) = v * (d + k + 1) := wrap_in (by omega) (by omega)
  have e3 : IntKind.i64.wrap (v * (d + k + 1) + brk s v) = v * (d + k + 1) + brk s v := wrap_in (by omega) (by omega)
  go_enter Try.func57, Try.ntmps57
  go_wp2
  go_region_held3 (fun w' => w'.cell? ⟨w.heap.size, 2, none⟩ = some (.int .i64 d) ∧ w'.cell? ⟨w.heap.size, 4, none⟩ = some (.int .i64 k) ∧ w'.cell? ⟨w.heap.size, 0, none⟩ = some (.int .i64 s) ∧ Below w.heap.size w w')
    (first | assumption | (refine ⟨by simp, by simp, by simp, (bone _ _).drew⟩) | go_keep)
    (first | (go_at_call 72; refine (l1slow_any _ _ _ ?_ ?_ hv ?_).mono ?_; omega; omega; omega; rintro e w' ⟨rfl, rfl⟩))
  rename_i hH
  go_wp2
  go_ret
  exact ⟨ret_int (gentle_eq _ _ _ _).symm, hH.2.2.2⟩

set_option maxHeartbeats 800000 in
theorem worst_spec (s h d a k v : Int) (w : World) :
    Calls Try.prog 23 #[.agg #[.int .i64 s, .int .i64 h, .int .i64 d, .int .i64 a, .int .i64 k], .int .i64 v] w fun e w' => e = .returned (.int .i64 (worstF s h d a k v)) ∧ Below w.heap.size w w' := by
  rcases Bool.eq_false_or_eq_true (okB s h d a k) with h1 | h1
  · rcases Bool.eq_false_or_eq_true (inB v 0 10000) with h2 | h2
    · obtain ⟨b1, b2⟩ := inB_iff.1 h2
      go_enter Try.func23, Try.ntmps23
      go_wp2_with fail
      refine (brakesOk_spec _ _ _ _ _ _).mono ?_; rintro e w1 ⟨rfl, hb1⟩
      obtain ⟨hc1, hf1⟩ := bcell hb1
      go_wp2_with (go_at_call 56; refine (l1speed_any _ _).mono ?_; rintro e w' ⟨rfl, rfl⟩)
      refine (l1worst_any _ _ _ _ _ _ _ h1 b1 b2).mono ?_; rintro e w2 ⟨rfl, hb2⟩
      go_wp2
      go_ret
      exact ⟨ret_int (by simp [worstF, h1, h2]), bstep (bstep (bone w _) hb1) hb2⟩
    · go_enter Try.func23, Try.ntmps23
      go_wp2_with fail
      refine (brakesOk_spec _ _ _ _ _ _).mono ?_; rintro e w1 ⟨rfl, hb1⟩
      obtain ⟨hc1, hf1⟩ := bcell hb1
      go_wp2_with (go_at_call 56; refine (l1speed_any _ _).mono ?_; rintro e w' ⟨rfl, rfl⟩)
      go_ret
      exact ⟨ret_int (by simp [worstF, h2]), bstep (bone w _) hb1⟩
  · go_enter Try.func23, Try.ntmps23
    go_wp2_with fail
    refine (brakesOk_spec _ _ _ _ _ _).mono ?_; rintro e w1 ⟨rfl, hb1⟩
    go_wp2_with fail
    go_ret
    exact ⟨ret_int (by simp [worstF, h1]), bstep (bone w _) hb1⟩

set_option maxHeartbeats 800000 in
theorem gentle_spec (s h d a k v : Int) (w : World) :
    Calls Try.prog 24 #[.agg #[.int .i64 s, .int .i64 h, .int .i64 d, .int .i64 a, .int .i64 k], .int .i64 v] w fun e w' => e = .returned (.int .i64 (gentleF s h d a k v)) ∧ Below w.heap.size w w' := by
  rcases Bool.eq_false_or_eq_true (okB s h d a k) with h1 | h1
  · rcases Bool.eq_false_or_eq_true (inB v 0 10000) with h2 | h2
    · obtain ⟨b1, b2⟩ := inB_iff.1 h2
      go_enter Try.func24, Try.ntmps24
      go_wp2_with fail
      refine (brakesOk_spec _ _ _ _ _ _).mono ?_; rintro e w1 ⟨rfl, hb1⟩
      obtain ⟨hc1, hf1⟩ := bcell hb1
      go_wp2_with (go_at_call 56; refine (l1speed_any _ _).mono ?_; rintro e w' ⟨rfl, rfl⟩)
      refine (l1gentle_any _ _ _ _ _ _ _ h1 b1 b2).mono ?_; rintro e w2 ⟨rfl, hb2⟩
      go_wp2
      go_ret
      exact ⟨ret_int (by simp [gentleF, h1, h2]), bstep (bstep (bone w _) hb1) hb2⟩
    · go_enter Try.func24, Try.ntmps24
      go_wp2_with fail
      refine (brakesOk_spec _ _ _ _ _ _).mono ?_; rintro e w1 ⟨rfl, hb1⟩
      obtain ⟨hc1, hf1⟩ := bcell hb1
      go_wp2_with (go_at_call 56; refine (l1speed_any _ _).mono ?_; rintro e w' ⟨rfl, rfl⟩)
      go_ret
      exact ⟨ret_int (by simp [gentleF, h2]), bstep (bone w _) hb1⟩
  · go_enter Try.func24, Try.ntmps24
    go_wp2_with fail
    refine (brakesOk_spec _ _ _ _ _ _).mono ?_; rintro e w1 ⟨rfl, hb1⟩
    go_wp2_with fail
    go_ret
    exact ⟨ret_int (by simp [gentleF, h1]), bstep (bone w _) hb1⟩

end Go.Proofs.Ytgpphkjdmonkaaa
