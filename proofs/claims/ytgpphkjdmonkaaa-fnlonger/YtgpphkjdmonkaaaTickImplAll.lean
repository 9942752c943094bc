/-
  The program's tick, at every argument.
-/
import Derived.Test.YtgpphkjdmonkaaaTickImpl
import Derived.Test.YtgpphkjdmonkaaaTickAll
namespace Go.Proofs.Ytgpphkjdmonkaaa
open Go.RowKit
attribute [local go_sem ↓] Go.wp_at_zero Go.wp_at_succ

set_option maxRecDepth 100000 in
set_option maxHeartbeats 3200000 in
theorem tick_impl_no (s h d a k st en : Int) (f : Felt5) (w : World) (hn : (okB s h d a k && (guardB st en && f.okB)) = false) :
    Calls Try.prog 13 #[.agg #[.int .i64 s, .int .i64 h, .int .i64 d, .int .i64 a, .int .i64 k], .agg #[.int .i64 st, .int .i64 en], .agg #[.int .i64 f.high, .int .i64 f.speed, .int .i64 f.en, .int .i64 f.lim, .bool f.ack]] w
      fun e w' => e = .returned (.agg #[.bool false, .int .i64 0, .int .i64 0, .int .i64 0, .bool false, .bool false]) ∧ Below w.heap.size w w' := by
  have hI0 := Ins.first w s h d a k st en f 24 26 28 32
  rcases Bool.eq_false_or_eq_true (okB s h d a k) with h1 | h1
  · rcases Bool.eq_false_or_eq_true (guardB st en) with h2 | h2
    · have h3 : f.okB = false := by rw [h1, h2] at hn; simpa using hn
      clear hn
      go_enter Try.func13, Try.ntmps13
      go_wp2_with fail
      refine (brakesOk_impl _ _ _ _ _ _).mono ?_; rintro e w1 ⟨rfl, hb1⟩
      have hI1 := hI0.step hb1
      clear hI0 hb1
      have hi1 := hI1
      obtain ⟨b0, b1, b2, b3, b4, g0, g1, f0, f1, f2, f3, f4, r0, r1, r2, r3, r4, r5, rf, lt, bel⟩ := hi1
      go_wp2_with fail
      refine (guardOk_impl _ _ _).mono ?_; rintro e w2 ⟨rfl, hb2⟩
      have hI2 := hI1.step hb2
      clear hI1 hb2 b0 b1 b2 b3 b4 g0 g1 f0 f1 f2 f3 f4 r0 r1 r2 r3 r4 r5 rf lt bel
      have hi2 := hI2
      obtain ⟨b0, b1, b2, b3, b4, g0, g1, f0, f1, f2, f3, f4, r0, r1, r2, r3, r4, r5, rf, lt, bel⟩ := hi2
      go_wp2_with fail
      refine (feltOk_impl f _).mono ?_; rintro e w3 ⟨rfl, hb3⟩
      have hI3 := hI2.step hb3
      clear hI2 hb3 b0 b1 b2 b3 b4 g0 g1 f0 f1 f2 f3 f4 r0 r1 r2 r3 r4 r5 rf lt bel
      obtain ⟨b0, b1, b2, b3, b4, g0, g1, f0, f1, f2, f3, f4, r0, r1, r2, r3, r4, r5, rf, lt, bel⟩ := hI3
      go_wp2
      refine bodyPost_ret (v := .agg #[.bool false, .int .i64 0, .int .i64 0, .int .i64 0, .bool false, .bool false]) (by simp [results, Try.results13, go_sem, *]) rfl ⟨rfl, ?_⟩
      repeat (first | with_reducible exact bel | refine Below.setCell ?_ (by first | (simp; done) | (simp; omega)) _)
    · clear hn
      go_enter Try.func13, Try.ntmps13
      go_wp2_with fail
      refine (brakesOk_impl _ _ _ _ _ _).mono ?_; rintro e w1 ⟨rfl, hb1⟩
      have hI1 := hI0.step hb1
      clear hI0 hb1
      have hi1 := hI1
      obtain ⟨b0, b1, b2, b3, b4, g0, g1, f0, f1, f2, f3, f4, r0, r1, r2, r3, r4, r5, rf, lt, bel⟩ := hi1
      go_wp2_with fail
      refine (guardOk_impl _ _ _).mono ?_; rintro e w2 ⟨rfl, hb2⟩
      have hI2 := hI1.step hb2
      clear hI1 hb2 b0 b1 b2 b3 b4 g0 g1 f0 f1 f2 f3 f4 r0 r1 r2 r3 r4 r5 rf lt bel
      obtain ⟨b0, b1, b2, b3, b4, g0, g1, f0, f1, f2, f3, f4, r0, r1, r2, r3, r4, r5, rf, lt, bel⟩ := hI2
      go_wp2
      refine bodyPost_ret (v := .agg #[.bool false, .int .i64 0, .int .i64 0, .int .i64 0, .bool false, .bool false]) (by simp [results, Try.results13, go_sem, *]) rfl ⟨rfl, ?_⟩
      repeat (first | with_reducible exact bel | refine Below.setCell ?_ (by first | (simp; done) | (simp; omega)) _)
  · clear hn
    go_enter Try.func13, Try.ntmps13
    go_wp2_with fail
    refine (brakesOk_impl _ _ _ _ _ _).mono ?_; rintro e w1 ⟨rfl, hb1⟩
    have hI1 := hI0.step hb1
    clear hI0 hb1
    obtain ⟨b0, b1, b2, b3, b4, g0, g1, f0, f1, f2, f3, f4, r0, r1, r2, r3, r4, r5, rf, lt, bel⟩ := hI1
    go_wp2
    refine bodyPost_ret (v := .agg #[.bool false, .int .i64 0, .int .i64 0, .int .i64 0, .bool false, .bool false]) (by simp [results, Try.results13, go_sem, *]) rfl ⟨rfl, ?_⟩
    repeat (first | with_reducible exact bel | refine Below.setCell ?_ (by first | (simp; done) | (simp; omega)) _)
theorem St4.of_num {st : Int} (h0 : 0 ≤ st) (h3 : st ≤ 3) : ∃ x : St4, x.num = st := by
  have : st = 0 ∨ st = 1 ∨ st = 2 ∨ st = 3 := by omega
  rcases this with rfl | rfl | rfl | rfl
  · exact ⟨.free, rfl⟩
  · exact ⟨.warn, rfl⟩
  · exact ⟨.soft, rfl⟩
  · exact ⟨.hard, rfl⟩
/-- The rules say what the document says. -/
theorem next_num (x : St4) (sp pe fen : Int) (kept ack ch kp : Bool) (hsp : 0 ≤ sp) (hpe : 0 ≤ pe) :
    (if x.num = 3 ∧ (0 < sp ∨ ack = false ∨ kept = false) then (⟨true, 3, fen, 0, kp, ch⟩ : Said6)
    else if kept = false then ⟨true, 3, fen, 0, kp, ch⟩
    else if pe < sp then (if 1 ≤ x.num then ⟨true, 2, fen, pe, kp, ch⟩ else ⟨true, 1, fen, pe, kp, ch⟩)
    else ⟨true, 0, fen, pe, kp, ch⟩) = ⟨true, (nextF x sp pe kept ack).num, fen, (nextF x sp pe kept ack).says pe, kp, ch⟩ := by
  cases kept
  · cases x <;> simp [nextF, stayF, brakeF, St4.num, St4.says]
  · by_cases h : pe < sp
    · have h' : ¬ sp ≤ pe := by omega
      have h0 : 0 < sp := by omega
      cases x <;> simp [nextF, stayF, brakeF, slowF, St4.num, St4.says, h, h', h0]
    · have h' : sp ≤ pe := by omega
      cases x
      case hard =>
        by_cases h0 : 0 < sp
        · simp [nextF, stayF, St4.num, St4.says, h0]
        · cases ack <;> simp [nextF, stayF, brakeF, slowF, St4.num, St4.says, h, h', h0]
      all_goals simp [nextF, stayF, brakeF, slowF, St4.num, St4.says, h, h']
theorem tickF_next {s h d a k en : Int} {x : St4} {f : Felt5} (h1 : okB s h d a k = true) (h2 : guardB x.num en = true) (h3 : f.okB = true) :
    tickF s h d a k x.num en f = ⟨true, (nextF x f.speed (permF s h d a k (max 0 (f.en - f.high)) f.lim) (keepsB h d a f f.en) f.ack).num, f.en, (nextF x f.speed (permF s h d a k (max 0 (f.en - f.high)) f.lim) (keepsB h d a f f.en) f.ack).says (permF s h d a k (max 0 (f.en - f.high)) f.lim), (decide (f.en ≠ en) && (decide (en < f.en) || keepsB h d a f f.en)), decide (f.en ≠ en)⟩ := by
  have hF := h3
  simp only [Felt5.okB, Bool.and_eq_true, inB_iff] at hF
  obtain ⟨⟨fh1, fh2⟩, ⟨fs1, fs2⟩, ⟨fe1, fe2⟩, ⟨fl1, fl2⟩⟩ := hF
  have hroom : inB (max 0 (f.en - f.high)) 0 100000000 = true := inB_iff.2 ⟨by omega, by omega⟩
  have hlim : inB f.lim 0 10000 = true := inB_iff.2 ⟨fl1, fl2⟩
  obtain ⟨sp1, sp2⟩ := permF_bd h1 hroom hlim
  unfold tickF
  rw [h1, h2, h3]
  simp only [Bool.and_self, if_true]
  exact next_num x f.speed _ f.en _ f.ack _ _ fs1 sp1
/-- What the program's Tick answers, at every argument. -/
theorem tick_impl (s h d a k st en : Int) (f : Felt5) (w : World) :
    Calls Try.prog 13 #[.agg #[.int .i64 s, .int .i64 h, .int .i64 d, .int .i64 a, .int .i64 k], .agg #[.int .i64 st, .int .i64 en], .agg #[.int .i64 f.high, .int .i64 f.speed, .int .i64 f.en, .int .i64 f.lim, .bool f.ack]] w
      fun e w' => e = .returned (.agg #[.bool (tickF s h d a k st en f).ok, .int .i64 (tickF s h d a k st en f).st, .int .i64 (tickF s h d a k st en f).en, .int .i64 (tickF s h d a k st en f).sp, .bool (tickF s h d a k st en f).kept, .bool (tickF s h d a k st en f).change]) ∧ Below w.heap.size w w' := by
  rcases Bool.eq_false_or_eq_true (okB s h d a k && (guardB st en && f.okB)) with h1 | h1
  · rw [Bool.and_eq_true, Bool.and_eq_true] at h1
    obtain ⟨h1, h2, h3⟩ := h1
    have hG := h2
    simp only [guardB, Bool.and_eq_true, inB_iff] at hG
    obtain ⟨x, rfl⟩ := St4.of_num hG.1.1 hG.1.2
    rw [tickF_next h1 h2 h3]
    exact tick_impl_ok s h d a k en x f w h1 h2 h3
  · rw [tickF_no h1]
    exact tick_impl_no s h d a k st en f w h1

end Go.Proofs.Ytgpphkjdmonkaaa
