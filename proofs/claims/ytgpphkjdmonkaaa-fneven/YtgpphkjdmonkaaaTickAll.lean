/-
  The model's tick, at every argument.
-/
import Derived.Test.YtgpphkjdmonkaaaTickSpec
namespace Go.Proofs.Ytgpphkjdmonkaaa
open Go.RowKit
attribute [local go_sem ↓] Go.wp_at_zero Go.wp_at_succ

theorem tickF_no {s h d a k st en : Int} {f : Felt5} (hn : (okB s h d a k && (guardB st en && f.okB)) = false) : tickF s h d a k st en f = ⟨false, 0, 0, 0, false, false⟩ := by
  unfold tickF; rw [hn]; rfl
set_option maxRecDepth 100000 in
set_option maxHeartbeats 3200000 in
theorem tick_spec_no (s h d a k st en : Int) (f : Felt5) (w : World) (hn : (okB s h d a k && (guardB st en && f.okB)) = false) :
    Calls Try.prog 14 #[.agg #[.int .i64 s, .int .i64 h, .int .i64 d, .int .i64 a, .int .i64 k], .agg #[.int .i64 st, .int .i64 en], .agg #[.int .i64 f.high, .int .i64 f.speed, .int .i64 f.en, .int .i64 f.lim, .bool f.ack]] w
      fun e w' => e = .returned (.agg #[.bool false, .int .i64 0, .int .i64 0, .int .i64 0, .bool false, .bool false]) ∧ Below w.heap.size w w' := by
  have hI0 := Ins.first w s h d a k st en f 24 26 28 32
  rcases Bool.eq_false_or_eq_true (okB s h d a k) with h1 | h1
  · rcases Bool.eq_false_or_eq_true (guardB st en) with h2 | h2
    · have h3 : f.okB = false := by rw [h1, h2] at hn; simpa using hn
      clear hn
      go_enter Try.func14, Try.ntmps14
      go_wp2_with fail
      refine (brakesOk_spec _ _ _ _ _ _).mono ?_; rintro e w1 ⟨rfl, hb1⟩
      have hI1 := hI0.step hb1
      clear hI0 hb1
      have hi1 := hI1
      obtain ⟨b0, b1, b2, b3, b4, g0, g1, f0, f1, f2, f3, f4, r0, r1, r2, r3, r4, r5, rf, lt, bel⟩ := hi1
      go_wp2_with fail
      refine (guardOk_spec _ _ _).mono ?_; rintro e w2 ⟨rfl, hb2⟩
      have hI2 := hI1.step hb2
      clear hI1 hb2 b0 b1 b2 b3 b4 g0 g1 f0 f1 f2 f3 f4 r0 r1 r2 r3 r4 r5 rf lt bel
      have hi2 := hI2
      obtain ⟨b0, b1, b2, b3, b4, g0, g1, f0, f1, f2, f3, f4, r0, r1, r2, r3, r4, r5, rf, lt, bel⟩ := hi2
      go_wp2_with fail
      refine (feltOk_spec f _).mono ?_; rintro e w3 ⟨rfl, hb3⟩
      have hI3 := hI2.step hb3
      clear hI2 hb3 b0 b1 b2 b3 b4 g0 g1 f0 f1 f2 f3 f4 r0 r1 r2 r3 r4 r5 rf lt bel
      obtain ⟨b0, b1, b2, b3, b4, g0, g1, f0, f1, f2, f3, f4, r0, r1, r2, r3, r4, r5, rf, lt, bel⟩ := hI3
      go_wp2
      refine bodyPost_ret (v := .agg #[.bool false, .int .i64 0, .int .i64 0, .int .i64 0, .bool false, .bool false]) (by simp [results, Try.results14, go_sem, *]) rfl ⟨rfl, ?_⟩
      repeat (first | with_reducible exact bel | refine Below.setCell ?_ (by first | (simp; done) | (simp; omega)) _)
    · clear hn
      go_enter Try.func14, Try.ntmps14
      go_wp2_with fail
      refine (brakesOk_spec _ _ _ _ _ _).mono ?_; rintro e w1 ⟨rfl, hb1⟩
      have hI1 := hI0.step hb1
      clear hI0 hb1
      have hi1 := hI1
      obtain ⟨b0, b1, b2, b3, b4, g0, g1, f0, f1, f2, f3, f4, r0, r1, r2, r3, r4, r5, rf, lt, bel⟩ := hi1
      go_wp2_with fail
      refine (guardOk_spec _ _ _).mono ?_; rintro e w2 ⟨rfl, hb2⟩
      have hI2 := hI1.step hb2
      clear hI1 hb2 b0 b1 b2 b3 b4 g0 g1 f0 f1 f2 f3 f4 r0 r1 r2 r3 r4 r5 rf lt bel
      obtain ⟨b0, b1, b2, b3, b4, g0, g1, f0, f1, f2, f3, f4, r0, r1, r2, r3, r4, r5, rf, lt, bel⟩ := hI2
      go_wp2
      refine bodyPost_ret (v := .agg #[.bool false, .int .i64 0, .int .i64 0, .int .i64 0, .bool false, .bool false]) (by simp [results, Try.results14, go_sem, *]) rfl ⟨rfl, ?_⟩
      repeat (first | with_reducible exact bel | refine Below.setCell ?_ (by first | (simp; done) | (simp; omega)) _)
  · clear hn
    go_enter Try.func14, Try.ntmps14
    go_wp2_with fail
    refine (brakesOk_spec _ _ _ _ _ _).mono ?_; rintro e w1 ⟨rfl, hb1⟩
    have hI1 := hI0.step hb1
    clear hI0 hb1
    obtain ⟨b0, b1, b2, b3, b4, g0, g1, f0, f1, f2, f3, f4, r0, r1, r2, r3, r4, r5, rf, lt, bel⟩ := hI1
    go_wp2
    refine bodyPost_ret (v := .agg #[.bool false, .int .i64 0, .int .i64 0, .int .i64 0, .bool false, .bool false]) (by simp [results, Try.results14, go_sem, *]) rfl ⟨rfl, ?_⟩
    repeat (first | with_reducible exact bel | refine Below.setCell ?_ (by first | (simp; done) | (simp; omega)) _)
/-- What the model's Tick answers, at every argument. -/
theorem tick_spec (s h d a k st en : Int) (f : Felt5) (w : World) :
    Calls Try.prog 14 #[.agg #[.int .i64 s, .int .i64 h, .int .i64 d, .int .i64 a, .int .i64 k], .agg #[.int .i64 st, .int .i64 en], .agg #[.int .i64 f.high, .int .i64 f.speed, .int .i64 f.en, .int .i64 f.lim, .bool f.ack]] w
      fun e w' => e = .returned (.agg #[.bool (tickF s h d a k st en f).ok, .int .i64 (tickF s h d a k st en f).st, .int .i64 (tickF s h d a k st en f).en, .int .i64 (tickF s h d a k st en f).sp, .bool (tickF s h d a k st en f).kept, .bool (tickF s h d a k st en f).change]) ∧ Below w.heap.size w w' := by
  rcases Bool.eq_false_or_eq_true (okB s h d a k && (guardB st en && f.okB)) with h1 | h1
  · rw [Bool.and_eq_true, Bool.and_eq_true] at h1
    exact tick_spec_ok s h d a k st en f w h1.1 h1.2.1 h1.2.2
  · rw [tickF_no h1]
    exact tick_spec_no s h d a k st en f w h1

end Go.Proofs.Ytgpphkjdmonkaaa
