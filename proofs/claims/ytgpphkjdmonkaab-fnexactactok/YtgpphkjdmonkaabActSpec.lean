/-
  The model's ActOk and its change of a speed.
-/
import Derived.Test.YtgpphkjdmonkaabTickAll
import Derived.Test.YtgpphkjdmonkaabActPlain
namespace Go.Proofs.Ytgpphkjdmonkaab
open Go.RowKit

set_option maxHeartbeats 3200000 in
theorem actOk_spec (s h d a k : Int) (x : Act7) (w : World) : Calls Try.prog 27 #[.agg #[.int .i64 s, .int .i64 h, .int .i64 d, .int .i64 a, .int .i64 k], .agg #[.int .i64 x.want, .int .i64 x.off, .int .i64 x.fast, .int .i64 x.more, .int .i64 x.en, .int .i64 x.lim, .bool x.ack]] w fun e w' => e = .returned (.bool (actB s h d a k x)) ∧ Below w.heap.size w w' := by
  rcases Bool.eq_false_or_eq_true (okB s h d a k) with g0 | g0
  · rcases Bool.eq_false_or_eq_true (inB x.want (-1000) a) with g1 | g1
    · rcases Bool.eq_false_or_eq_true (inB x.off 0 1000) with g2 | g2
      · rcases Bool.eq_false_or_eq_true (inB x.fast 0 100) with g3 | g3
        · rcases Bool.eq_false_or_eq_true (inB x.more 0 1000) with g4 | g4
          · rcases Bool.eq_false_or_eq_true (inB x.en (-1) 100000000) with g5 | g5
            · go_enter Try.func27, Try.ntmps27
              go_wp2_with fail
              refine (brakesOk_spec _ _ _ _ _ _).mono ?_; rintro e w1 ⟨rfl, hb1⟩
              obtain ⟨hc1, hf1⟩ := bcell hb1
              go_wp2_with (first | (go_at_call 30; refine (l1in_any _ _ _ _).mono ?_; rintro e w' ⟨rfl, rfl⟩) | (go_at_call 31; refine (l1speed_any _ _).mono ?_; rintro e w' ⟨rfl, rfl⟩))
              go_ret
              exact ⟨ret_bool (by simp [actB, *]), bstep (bstep (bone _ _) (bone _ _)) hb1⟩
            · go_enter Try.func27, Try.ntmps27
              go_wp2_with fail
              refine (brakesOk_spec _ _ _ _ _ _).mono ?_; rintro e w1 ⟨rfl, hb1⟩
              obtain ⟨hc1, hf1⟩ := bcell hb1
              go_wp2_with (first | (go_at_call 30; refine (l1in_any _ _ _ _).mono ?_; rintro e w' ⟨rfl, rfl⟩) | (go_at_call 31; refine (l1speed_any _ _).mono ?_; rintro e w' ⟨rfl, rfl⟩))
              go_ret
              exact ⟨ret_bool (by simp [actB, *]), bstep (bstep (bone _ _) (bone _ _)) hb1⟩
          · go_enter Try.func27, Try.ntmps27
            go_wp2_with fail
            refine (brakesOk_spec _ _ _ _ _ _).mono ?_; rintro e w1 ⟨rfl, hb1⟩
            obtain ⟨hc1, hf1⟩ := bcell hb1
            go_wp2_with (first | (go_at_call 30; refine (l1in_any _ _ _ _).mono ?_; rintro e w' ⟨rfl, rfl⟩) | (go_at_call 31; refine (l1speed_any _ _).mono ?_; rintro e w' ⟨rfl, rfl⟩))
            go_ret
            exact ⟨ret_bool (by simp [actB, *]), bstep (bstep (bone _ _) (bone _ _)) hb1⟩
        · go_enter Try.func27, Try.ntmps27
          go_wp2_with fail
          refine (brakesOk_spec _ _ _ _ _ _).mono ?_; rintro e w1 ⟨rfl, hb1⟩
          obtain ⟨hc1, hf1⟩ := bcell hb1
          go_wp2_with (first | (go_at_call 30; refine (l1in_any _ _ _ _).mono ?_; rintro e w' ⟨rfl, rfl⟩) | (go_at_call 31; refine (l1speed_any _ _).mono ?_; rintro e w' ⟨rfl, rfl⟩))
          go_ret
          exact ⟨ret_bool (by simp [actB, *]), bstep (bstep (bone _ _) (bone _ _)) hb1⟩
      · go_enter Try.func27, Try.ntmps27
        go_wp2_with fail
        refine (brakesOk_spec _ _ _ _ _ _).mono ?_; rintro e w1 ⟨rfl, hb1⟩
        obtain ⟨hc1, hf1⟩ := bcell hb1
        go_wp2_with (first | (go_at_call 30; refine (l1in_any _ _ _ _).mono ?_; rintro e w' ⟨rfl, rfl⟩) | (go_at_call 31; refine (l1speed_any _ _).mono ?_; rintro e w' ⟨rfl, rfl⟩))
        go_ret
        exact ⟨ret_bool (by simp [actB, *]), bstep (bstep (bone _ _) (bone _ _)) hb1⟩
    · go_enter Try.func27, Try.ntmps27
      go_wp2_with fail
      refine (brakesOk_spec _ _ _ _ _ _).mono ?_; rintro e w1 ⟨rfl, hb1⟩
      obtain ⟨hc1, hf1⟩ := bcell hb1
      go_wp2_with (first | (go_at_call 30; refine (l1in_any _ _ _ _).mono ?_; rintro e w' ⟨rfl, rfl⟩) | (go_at_call 31; refine (l1speed_any _ _).mono ?_; rintro e w' ⟨rfl, rfl⟩))
      go_ret
      exact ⟨ret_bool (by simp [actB, *]), bstep (bstep (bone _ _) (bone _ _)) hb1⟩
  · go_enter Try.func27, Try.ntmps27
    go_wp2_with fail
    refine (brakesOk_spec _ _ _ _ _ _).mono ?_; rintro e w1 ⟨rfl, hb1⟩
    obtain ⟨hc1, hf1⟩ := bcell hb1
    go_wp2_with fail
    go_ret
    exact ⟨ret_bool (by simp [actB, *]), bstep (bstep (bone _ _) (bone _ _)) hb1⟩

end Go.Proofs.Ytgpphkjdmonkaab
