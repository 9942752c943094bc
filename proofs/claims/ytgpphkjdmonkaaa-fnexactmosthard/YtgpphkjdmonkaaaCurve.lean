/-
  The program's curves: the way ahead of the brake, under it, and both.
-/
import Derived.Test.YtgpphkjdmonkaaaBase
import Derived.Deep.RegionHeld3
import Derived.Deep.DrawnRows
namespace Go.Proofs.Ytgpphkjdmonkaaa
open Go.RowKit
attribute [local go_sem ↓] Go.wp_at_zero Go.wp_at_succ

theorem mulb {a b A B : Int} (ha : 0 ≤ a) (hA : a ≤ A) (hb : 0 ≤ b) (hB : b ≤ B) : 0 ≤ a * b ∧ a * b ≤ A * B :=
  ⟨Int.mul_nonneg ha hb, Int.mul_le_mul hA hB hb (by omega)⟩

set_option maxHeartbeats 400000 in
theorem unbraked_any (t g b v : Int) (w : World) (ht : 0 ≤ t) (ht' : t ≤ 100) (hg : 0 ≤ g) (hg' : g ≤ 100) (hv : 0 ≤ v) (hv' : v ≤ 20000) :
    Calls Try.prog 69 #[.agg #[.int .i64 t, .int .i64 g, .int .i64 b], .int .i64 v] w fun e w' => e = .returned (.int .i64 (unb t g v)) ∧ Below w.heap.size w w' := by
  obtain ⟨p1, p2⟩ := mulb ht ht' hv hv'
  obtain ⟨q1, q2⟩ := mulb hg hg' ht ht'
  obtain ⟨r1, r2⟩ := mulb q1 q2 (b := t + 1) (B := 101) (by omega) (by omega)
  go_enter Try.func69, Try.ntmps69
  go_wp2
  go_ret
  exact ⟨rfl, bone _ _⟩

set_option maxHeartbeats 400000 in
theorem braked_any (t g b v : Int) (w : World) (hb : 1 ≤ b) (hb' : b ≤ 1000) (hv : 0 ≤ v) (hv' : v ≤ 20000) :
    Calls Try.prog 70 #[.agg #[.int .i64 t, .int .i64 g, .int .i64 b], .int .i64 v] w fun e w' => e = .returned (.int .i64 (brk b v)) ∧ Below w.heap.size w w' := by
  have n1 : 0 ≤ v / b := Int.ediv_nonneg hv (by omega)
  have n2 : v / b ≤ 20000 := Int.le_trans (Int.ediv_le_self _ hv) hv'
  obtain ⟨p1, p2⟩ := mulb n1 n2 hv hv'
  obtain ⟨q1, q2⟩ := mulb (a := b) (A := 1000) (by omega) hb' n1 n2
  obtain ⟨r1, r2⟩ := mulb q1 q2 (b := v / b + 1) (B := 20001) (by omega) (by omega)
  have hne : ¬ b = 0 := by omega
  go_enter Try.func70, Try.ntmps70
  go_wp2
  go_ret
  exact ⟨rfl, bone _ _⟩

/-- What a region of such a method is told of its world: the receiver's cells, and that nothing elder has turned. -/
theorem keep3 {w W W' : World} {t g b : Value} (h : W.cell? ⟨w.heap.size, 0, none⟩ = some t ∧ W.cell? ⟨w.heap.size, 1, none⟩ = some g ∧ W.cell? ⟨w.heap.size, 2, none⟩ = some b ∧ w.heap.size < W.heap.size ∧ Below w.heap.size w W) (hb : Below W.heap.size W W') :
    W'.cell? ⟨w.heap.size, 0, none⟩ = some t ∧ W'.cell? ⟨w.heap.size, 1, none⟩ = some g ∧ W'.cell? ⟨w.heap.size, 2, none⟩ = some b ∧ w.heap.size < W'.heap.size ∧ Below w.heap.size w W' := by
  obtain ⟨h0, h1, h2, hz, hB⟩ := h
  have hs := hb.size
  exact ⟨(hb.cell (p := ⟨w.heap.size, 0, none⟩) hz).trans h0, (hb.cell (p := ⟨w.heap.size, 1, none⟩) hz).trans h1, (hb.cell (p := ⟨w.heap.size, 2, none⟩) hz).trans h2, by omega, bstep hB hb⟩

theorem brk_bd {b v : Int} (hb : 1 ≤ b) (hv : 0 ≤ v) (hv' : v ≤ 20000) : 0 ≤ brk b v ∧ brk b v ≤ 400000000 := by
  have n1 : 0 ≤ v / b := Int.ediv_nonneg hv (by omega)
  have n2 : v / b ≤ 20000 := Int.le_trans (Int.ediv_le_self _ hv) hv'
  obtain ⟨p1, p2⟩ := mulb n1 n2 hv hv'
  obtain ⟨T, hT, e⟩ := half_exact b (v / b)
  have hn : b * (v / b) ≤ v := Int.mul_ediv_self_le (by omega)
  have hT0 : 0 ≤ (v / b) * (v / b + 1) := Int.mul_nonneg n1 (by omega)
  have hbT : 0 ≤ b * T := Int.mul_nonneg (by omega) (by omega)
  have hTn : 2 * (b * T) = (b * (v / b)) * (v / b) + b * (v / b) := by
    have : b * (2 * T) = b * ((v / b) * (v / b + 1)) := by rw [hT]
    grind
  have h1 : (b * (v / b)) * (v / b) ≤ v * (v / b) := Int.mul_le_mul_of_nonneg_right hn n1
  have h2 : v * (v / b) = v / b * v := Int.mul_comm _ _
  have h3 : b * (v / b) ≤ v / b * v := by
    by_cases hz : v / b = 0
    · rw [hz]; simp
    · have : 1 * v ≤ v / b * v := Int.mul_le_mul_of_nonneg_right (by omega) hv
      omega
  unfold brk
  rw [e]
  omega
theorem unb_bd {t g v : Int} (ht : 0 ≤ t) (ht' : t ≤ 100) (hg : 0 ≤ g) (hg' : g ≤ 100) (hv : 0 ≤ v) (hv' : v ≤ 20000) : 0 ≤ unb t g v ∧ unb t g v ≤ 3000000 := by
  obtain ⟨p1, p2⟩ := mulb ht ht' hv hv'
  obtain ⟨q1, q2⟩ := mulb hg hg' ht ht'
  obtain ⟨r1, r2⟩ := mulb q1 q2 (b := t + 1) (B := 101) (by omega) (by omega)
  unfold unb
  omega

set_option maxHeartbeats 800000 in
theorem length_any (t g b v : Int) (w : World) (ht : 0 ≤ t) (ht' : t ≤ 81) (hg : 0 ≤ g) (hg' : g ≤ 100) (hb : 1 ≤ b) (hb' : b ≤ 1000) (hv : 0 ≤ v) (hv' : v ≤ 10000) :
    Calls Try.prog 46 #[.agg #[.int .i64 t, .int .i64 g, .int .i64 b], .int .i64 v] w fun e w' => e = .returned (.int .i64 (unb t g v + brk b (v + t * g))) ∧ Below w.heap.size w w' := by
  obtain ⟨p1, p2⟩ := mulb ht ht' hg hg'
  have u := unb_bd ht (by omega) hg hg' hv (by omega)
  have k := brk_bd hb (v := v + t * g) (by omega) (by omega)
  have e1 : IntKind.i64.wrap (t * g) = t * g := wrap_in (by omega) (by omega)
  have e2 : IntKind.i64.wrap (v + t * g) = v + t * g := wrap_in (by omega) (by omega)
  have e3 : IntKind.i64.wrap (unb t g v + brk b (v + t * g)) = unb t g v + brk b (v + t * g) := wrap_in (by omega) (by omega)
  go_enter Try.func46, Try.ntmps46
  go_wp2
  go_region_held3 (fun w' => w'.cell? ⟨w.heap.size, 0, none⟩ = some (.int .i64 t) ∧ w'.cell? ⟨w.heap.size, 1, none⟩ = some (.int .i64 g) ∧ w'.cell? ⟨w.heap.size, 2, none⟩ = some (.int .i64 b) ∧ w.heap.size < w'.heap.size ∧ Below w.heap.size w w')
    (first | (refine keep3 ?_ ‹_›; assumption) | (refine ⟨by simp, by simp, by simp, by simp, (bone _ _).drew⟩) | go_keep)
    (first
      | (go_at_call 69; refine (unbraked_any _ _ _ _ _ ht (by omega) hg hg' hv (by omega)).mono ?_; rintro e w' ⟨rfl, hb1⟩)
      | (go_at_call 70; refine (braked_any _ _ _ (v + t * g) _ hb hb' ?_ ?_).mono ?_; omega; omega; rintro e w' ⟨rfl, hb1⟩))
  rename_i hH
  go_wp2
  go_ret
  exact ⟨rfl, hH.2.2.2.2⟩

set_option maxHeartbeats 400000 in
theorem worstCurve_any (s h d a k : Int) (w : World) (hd : 0 ≤ d) (hd' : d ≤ 20) :
    Calls Try.prog 45 #[.agg #[.int .i64 s, .int .i64 h, .int .i64 d, .int .i64 a, .int .i64 k]] w fun e w' => e = .returned (.agg #[.int .i64 (d + 1), .int .i64 a, .int .i64 h]) ∧ Below w.heap.size w w' := by
  go_enter Try.func45, Try.ntmps45
  go_wp2
  refine bodyPost_ret (v := .agg #[.int .i64 (d + 1), .int .i64 a, .int .i64 h]) (by simp [results, Try.results45, go_sem]) rfl ⟨rfl, ?_⟩
  repeat (first | exact Below.refl _ _ | refine Below.setCell ?_ (by first | (simp; done) | (simp; omega)) _ | refine Below.alloc ?_ (by first | (simp; done) | (simp; omega)) _ | refine Below.drew ?_)
set_option maxHeartbeats 400000 in
theorem gentleCurve_any (s h d a k : Int) (w : World) (hd : 0 ≤ d) (hd' : d ≤ 20) (hk : 0 ≤ k) (hk' : k ≤ 60) :
    Calls Try.prog 58 #[.agg #[.int .i64 s, .int .i64 h, .int .i64 d, .int .i64 a, .int .i64 k]] w fun e w' => e = .returned (.agg #[.int .i64 (d + k + 1), .int .i64 0, .int .i64 s]) ∧ Below w.heap.size w w' := by
  go_enter Try.func58, Try.ntmps58
  go_wp2
  refine bodyPost_ret (v := .agg #[.int .i64 (d + k + 1), .int .i64 0, .int .i64 s]) (by simp [results, Try.results58, go_sem]) rfl ⟨rfl, ?_⟩
  repeat (first | exact Below.refl _ _ | refine Below.setCell ?_ (by first | (simp; done) | (simp; omega)) _ | refine Below.alloc ?_ (by first | (simp; done) | (simp; omega)) _ | refine Below.drew ?_)

set_option maxHeartbeats 400000 in
theorem isSpeed_any (v : Int) (w : World) : Calls Try.prog 44 #[.int .i64 v] w fun e w' => e = .returned (.bool (inB v 0 10000)) ∧ w = w' := by
  go_enter Try.func44, Try.ntmps44
  go_wp2_with (go_at_call 60; refine (within_any _ _ _ _).mono ?_; rintro e w' ⟨rfl, rfl⟩)
  go_ret
  exact ⟨rfl, rfl⟩
set_option maxHeartbeats 400000 in
theorem isPlace_any (v : Int) (w : World) : Calls Try.prog 47 #[.int .i64 v] w fun e w' => e = .returned (.bool (inB v 0 100000000)) ∧ w = w' := by
  go_enter Try.func47, Try.ntmps47
  go_wp2_with (go_at_call 60; refine (within_any _ _ _ _).mono ?_; rintro e w' ⟨rfl, rfl⟩)
  go_ret
  exact ⟨rfl, rfl⟩
set_option maxHeartbeats 400000 in
theorem l1speed_any (v : Int) (w : World) : Calls Try.prog 56 #[.int .i64 v] w fun e w' => e = .returned (.bool (inB v 0 10000)) ∧ w = w' := by
  go_enter Try.func56, Try.ntmps56
  go_wp2_with (go_at_call 54; refine (l1in_any _ _ _ _).mono ?_; rintro e w' ⟨rfl, rfl⟩)
  go_ret
  exact ⟨rfl, rfl⟩

/-- What Worst answers at every argument. -/
def worstF (s h d a k v : Int) : Int := if okB s h d a k && inB v 0 10000 then worstP h d a v else -1
def gentleF (s h d a k v : Int) : Int := if okB s h d a k && inB v 0 10000 then gentleP s d k v else -1

set_option maxHeartbeats 800000 in
theorem worst_impl (s h d a k v : Int) (w : World) :
    Calls Try.prog 15 #[.agg #[.int .i64 s, .int .i64 h, .int .i64 d, .int .i64 a, .int .i64 k], .int .i64 v] w fun e w' => e = .returned (.int .i64 (worstF s h d a k v)) ∧ Below w.heap.size w w' := by
  rcases Bool.eq_false_or_eq_true (okB s h d a k) with h1 | h1
  · rcases Bool.eq_false_or_eq_true (inB v 0 10000) with h2 | h2
    · obtain ⟨a1, a2, a3, a4, a5, a6, a7, a8, a9, a10⟩ := okB_iff.1 h1
      obtain ⟨b1, b2⟩ := inB_iff.1 h2
      go_enter Try.func15, Try.ntmps15
      go_wp2_with fail
      refine (brakesOk_impl _ _ _ _ _ _).mono ?_; rintro e w1 ⟨rfl, hb1⟩
      obtain ⟨hc1, hf1⟩ := bcell hb1
      go_wp2_with (go_at_call 44; refine (isSpeed_any _ _).mono ?_; rintro e w' ⟨rfl, rfl⟩)
      refine (worstCurve_any _ _ _ _ _ _ a5 a6).mono ?_; rintro e w2 ⟨rfl, hb2⟩
      go_wp2_with fail
      refine (length_any _ _ _ _ _ (by omega) (by omega) a7 a8 (by omega) (by omega) b1 b2).mono ?_; rintro e w3 ⟨rfl, hb3⟩
      go_wp2
      go_ret
      exact ⟨ret_int (by simp [worstF, h1, h2, worstP]), bstep (bstep (bstep (bone w _) hb1) hb2) hb3⟩
    · go_enter Try.func15, Try.ntmps15
      go_wp2_with fail
      refine (brakesOk_impl _ _ _ _ _ _).mono ?_; rintro e w1 ⟨rfl, hb1⟩
      obtain ⟨hc1, hf1⟩ := bcell hb1
      go_wp2_with (go_at_call 44; refine (isSpeed_any _ _).mono ?_; rintro e w' ⟨rfl, rfl⟩)
      go_ret
      exact ⟨ret_int (by simp [worstF, h2]), bstep (bone w _) hb1⟩
  · go_enter Try.func15, Try.ntmps15
    go_wp2_with fail
    refine (brakesOk_impl _ _ _ _ _ _).mono ?_; rintro e w1 ⟨rfl, hb1⟩
    go_wp2_with fail
    go_ret
    exact ⟨ret_int (by simp [worstF, h1]), bstep (bone w _) hb1⟩

set_option maxHeartbeats 800000 in
theorem gentle_impl (s h d a k v : Int) (w : World) :
    Calls Try.prog 22 #[.agg #[.int .i64 s, .int .i64 h, .int .i64 d, .int .i64 a, .int .i64 k], .int .i64 v] w fun e w' => e = .returned (.int .i64 (gentleF s h d a k v)) ∧ Below w.heap.size w w' := by
  rcases Bool.eq_false_or_eq_true (okB s h d a k) with h1 | h1
  · rcases Bool.eq_false_or_eq_true (inB v 0 10000) with h2 | h2
    · obtain ⟨a1, a2, a3, a4, a5, a6, a7, a8, a9, a10⟩ := okB_iff.1 h1
      obtain ⟨b1, b2⟩ := inB_iff.1 h2
      go_enter Try.func22, Try.ntmps22
      go_wp2_with fail
      refine (brakesOk_impl _ _ _ _ _ _).mono ?_; rintro e w1 ⟨rfl, hb1⟩
      obtain ⟨hc1, hf1⟩ := bcell hb1
      go_wp2_with (go_at_call 44; refine (isSpeed_any _ _).mono ?_; rintro e w' ⟨rfl, rfl⟩)
      refine (gentleCurve_any _ _ _ _ _ _ a5 a6 a9 a10).mono ?_; rintro e w2 ⟨rfl, hb2⟩
      go_wp2_with fail
      refine (length_any _ _ _ _ _ (by omega) (by omega) (by omega) (by omega) (by omega) (by omega) b1 b2).mono ?_; rintro e w3 ⟨rfl, hb3⟩
      go_wp2
      go_ret
      exact ⟨ret_int (by simp [gentleF, h1, h2, gentleP]), bstep (bstep (bstep (bone w _) hb1) hb2) hb3⟩
    · go_enter Try.func22, Try.ntmps22
      go_wp2_with fail
      refine (brakesOk_impl _ _ _ _ _ _).mono ?_; rintro e w1 ⟨rfl, hb1⟩
      obtain ⟨hc1, hf1⟩ := bcell hb1
      go_wp2_with (go_at_call 44; refine (isSpeed_any _ _).mono ?_; rintro e w' ⟨rfl, rfl⟩)
      go_ret
      exact ⟨ret_int (by simp [gentleF, h2]), bstep (bone w _) hb1⟩
  · go_enter Try.func22, Try.ntmps22
    go_wp2_with fail
    refine (brakesOk_impl _ _ _ _ _ _).mono ?_; rintro e w1 ⟨rfl, hb1⟩
    go_wp2_with fail
    go_ret
    exact ⟨ret_int (by simp [gentleF, h1]), bstep (bone w _) hb1⟩

end Go.Proofs.Ytgpphkjdmonkaaa
