/-
  The model's guard: what is felt is right, the guard is right, a train can be kept.
-/
import Derived.Test.YtgpphkjdmonkaaaGuardPlain
namespace Go.Proofs.Ytgpphkjdmonkaaa
open Go.RowKit
attribute [local go_sem ↓] Go.wp_at_zero Go.wp_at_succ

theorem permitted_spec_at (s h d a k room limit : Int) (w : World) :
    Calls Try.prog 21 #[.agg #[.int .i64 s, .int .i64 h, .int .i64 d, .int .i64 a, .int .i64 k], .int .i64 room, .int .i64 limit] w fun e w' => e = .returned (.int .i64 (permF s h d a k room limit)) ∧ Below w.heap.size w w' :=
  (permitted_spec s h d a k room limit w).mono fun e w' ⟨r, he, hr, hb⟩ => ⟨by rw [he, permF_of hr], hb⟩
theorem permitted_impl_at (s h d a k room limit : Int) (w : World) :
    Calls Try.prog 16 #[.agg #[.int .i64 s, .int .i64 h, .int .i64 d, .int .i64 a, .int .i64 k], .int .i64 room, .int .i64 limit] w fun e w' => e = .returned (.int .i64 (permF s h d a k room limit)) ∧ Below w.heap.size w w' :=
  (permitted_impl s h d a k room limit w).mono fun e w' ⟨r, he, hr, hb⟩ => ⟨by rw [he, permF_of hr], hb⟩

set_option maxHeartbeats 800000 in
theorem feltOk_spec (f : Felt5) (w : World) :
    Calls Try.prog 42 #[.agg #[.int .i64 f.high, .int .i64 f.speed, .int .i64 f.en, .int .i64 f.lim, .bool f.ack]] w fun e w' => e = .returned (.bool f.okB) ∧ Below w.heap.size w w' := by
  rcases Bool.eq_false_or_eq_true (inB f.high 0 100000000) with h1 | h1
  · rcases Bool.eq_false_or_eq_true (inB f.speed 0 10000) with h2 | h2
    · rcases Bool.eq_false_or_eq_true (inB f.en (-1) 100000000) with h3 | h3
      · go_enter Try.func42, Try.ntmps42
        go_wp2_with (first | (go_at_call 54; refine (l1in_any _ _ _ _).mono ?_; rintro e w' ⟨rfl, rfl⟩) | (go_at_call 56; refine (l1speed_any _ _).mono ?_; rintro e w' ⟨rfl, rfl⟩))
        go_ret
        exact ⟨ret_bool (by simp [Felt5.okB, *]), bone _ _⟩
      · go_enter Try.func42, Try.ntmps42
        go_wp2_with (first | (go_at_call 54; refine (l1in_any _ _ _ _).mono ?_; rintro e w' ⟨rfl, rfl⟩) | (go_at_call 56; refine (l1speed_any _ _).mono ?_; rintro e w' ⟨rfl, rfl⟩))
        go_ret
        exact ⟨ret_bool (by simp [Felt5.okB, *]), bone _ _⟩
    · go_enter Try.func42, Try.ntmps42
      go_wp2_with (first | (go_at_call 54; refine (l1in_any _ _ _ _).mono ?_; rintro e w' ⟨rfl, rfl⟩) | (go_at_call 56; refine (l1speed_any _ _).mono ?_; rintro e w' ⟨rfl, rfl⟩))
      go_ret
      exact ⟨ret_bool (by simp [Felt5.okB, *]), bone _ _⟩
  · go_enter Try.func42, Try.ntmps42
    go_wp2_with (go_at_call 54; refine (l1in_any _ _ _ _).mono ?_; rintro e w' ⟨rfl, rfl⟩)
    go_ret
    exact ⟨ret_bool (by simp [Felt5.okB, *]), bone _ _⟩
set_option maxHeartbeats 400000 in
theorem guardOk_spec (st en : Int) (w : World) :
    Calls Try.prog 41 #[.agg #[.int .i64 st, .int .i64 en]] w fun e w' => e = .returned (.bool (guardB st en)) ∧ Below w.heap.size w w' := by
  rcases Bool.eq_false_or_eq_true (inB st 0 3) with h1 | h1
  · go_enter Try.func41, Try.ntmps41
    go_wp2_with (go_at_call 54; refine (l1in_any _ _ _ _).mono ?_; rintro e w' ⟨rfl, rfl⟩)
    go_ret
    exact ⟨ret_bool (by simp [guardB, *]), bone _ _⟩
  · go_enter Try.func41, Try.ntmps41
    go_wp2_with (go_at_call 54; refine (l1in_any _ _ _ _).mono ?_; rintro e w' ⟨rfl, rfl⟩)
    go_ret
    exact ⟨ret_bool (by simp [guardB, *]), bone _ _⟩
theorem keepK {w W W' : World} {c0 c1 c2 c3 c4 f0 f1 : Value} (h : W.cell? ⟨w.heap.size, 0, none⟩ = some c0 ∧ W.cell? ⟨w.heap.size, 1, none⟩ = some c1 ∧ W.cell? ⟨w.heap.size, 2, none⟩ = some c2 ∧ W.cell? ⟨w.heap.size, 3, none⟩ = some c3 ∧ W.cell? ⟨w.heap.size, 4, none⟩ = some c4 ∧ W.cell? ⟨w.heap.size + 1, 0, none⟩ = some f0 ∧ W.cell? ⟨w.heap.size + 1, 1, none⟩ = some f1 ∧ w.heap.size + 1 < W.heap.size ∧ Below w.heap.size w W) (hb : Below W.heap.size W W') :
    W'.cell? ⟨w.heap.size, 0, none⟩ = some c0 ∧ W'.cell? ⟨w.heap.size, 1, none⟩ = some c1 ∧ W'.cell? ⟨w.heap.size, 2, none⟩ = some c2 ∧ W'.cell? ⟨w.heap.size, 3, none⟩ = some c3 ∧ W'.cell? ⟨w.heap.size, 4, none⟩ = some c4 ∧ W'.cell? ⟨w.heap.size + 1, 0, none⟩ = some f0 ∧ W'.cell? ⟨w.heap.size + 1, 1, none⟩ = some f1 ∧ w.heap.size + 1 < W'.heap.size ∧ Below w.heap.size w W' := by
  obtain ⟨h0, h1, h2, h3, h4, h5, h6, hz, hB⟩ := h
  have hs := hb.size
  have hc := (bcell hb).1
  exact ⟨(hc _ _ (by omega)).trans h0, (hc _ _ (by omega)).trans h1, (hc _ _ (by omega)).trans h2, (hc _ _ (by omega)).trans h3, (hc _ _ (by omega)).trans h4, (hc _ _ hz).trans h5, (hc _ _ hz).trans h6, by omega, bstep hB hb⟩
set_option maxHeartbeats 800000 in
theorem l2keeps_any (s h d a k en : Int) (f : Felt5) (w : World) (hok : okB s h d a k = true) (hf : f.okB = true) (he : -1 ≤ en) (he' : en ≤ 100000000) :
    Calls Try.prog 43 #[.agg #[.int .i64 s, .int .i64 h, .int .i64 d, .int .i64 a, .int .i64 k], .agg #[.int .i64 f.high, .int .i64 f.speed, .int .i64 f.en, .int .i64 f.lim, .bool f.ack], .int .i64 en] w fun e w' => e = .returned (.bool (keepsB h d a f en)) ∧ Below w.heap.size w w' := by
  simp only [Felt5.okB, Bool.and_eq_true, inB_iff] at hf
  obtain ⟨⟨f1, f2⟩, ⟨f3, f4⟩, _, _⟩ := hf
  have e0 : IntKind.i64.wrap (en - f.high) = en - f.high := wrap_in (by omega) (by omega)
  have hB0 : Below w.heap.size w ((w.alloc (.cells #[.int .i64 s, .int .i64 h, .int .i64 d, .int .i64 a, .int .i64 k] 24)).alloc (.cells #[.int .i64 f.high, .int .i64 f.speed, .int .i64 f.en, .int .i64 f.lim, .bool f.ack] 28)).drew := (bstep (bone _ _) (bone _ _)).drew
  go_enter Try.func43, Try.ntmps43
  go_wp2
  go_region_held3 (fun w' => w'.cell? ⟨w.heap.size, 0, none⟩ = some (.int .i64 s) ∧ w'.cell? ⟨w.heap.size, 1, none⟩ = some (.int .i64 h) ∧ w'.cell? ⟨w.heap.size, 2, none⟩ = some (.int .i64 d) ∧ w'.cell? ⟨w.heap.size, 3, none⟩ = some (.int .i64 a) ∧ w'.cell? ⟨w.heap.size, 4, none⟩ = some (.int .i64 k) ∧ w'.cell? ⟨w.heap.size + 1, 0, none⟩ = some (.int .i64 f.high) ∧ w'.cell? ⟨w.heap.size + 1, 1, none⟩ = some (.int .i64 f.speed) ∧ w.heap.size + 1 < w'.heap.size ∧ Below w.heap.size w w')
    (first | with_reducible assumption | (with_reducible refine ⟨?_, ?_, ?_, ?_, ?_, ?_, ?_, ?_, hB0⟩ <;> simp))
    (first | (go_at_call 55; refine (l1worst_any _ _ _ _ _ _ _ hok f3 f4).mono ?_; rintro e w' ⟨rfl, hb1⟩; have hS1 := keepK ‹_ ∧ _ ∧ _ ∧ _ ∧ _ ∧ _ ∧ _ ∧ _ ∧ Below w.heap.size w _› hb1))
  rename_i hH
  go_wp2
  go_ret
  exact ⟨rfl, hH.2.2.2.2.2.2.2.2⟩

end Go.Proofs.Ytgpphkjdmonkaaa
