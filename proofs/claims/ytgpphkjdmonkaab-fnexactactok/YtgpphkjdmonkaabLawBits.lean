/-
  The laws' small functions: copies, and what is the same is found the same.
-/
import Derived.Test.YtgpphkjdmonkaabGuardPlain
namespace Go.Proofs.Ytgpphkjdmonkaab
open Go.RowKit
attribute [local go_sem ↓] Go.wp_at_zero Go.wp_at_succ

set_option maxHeartbeats 400000 in
theorem toGuard_any (st en : Int) (w : World) :
    Calls Try.prog 12 #[.agg #[.int .i64 st, .int .i64 en]] w fun e w' => e = .returned (.agg #[.int .i64 st, .int .i64 en]) ∧ Below w.heap.size w w' := by
  go_enter Try.func12, Try.ntmps12
  go_wp2
  refine bodyPost_ret (v := .agg #[.int .i64 st, .int .i64 en]) (by simp [results, Try.results12, go_sem]) rfl ⟨rfl, ?_⟩
  repeat (first | exact Below.refl _ _ | refine Below.setCell ?_ (by first | (simp; done) | (simp; omega)) _ | refine Below.alloc ?_ (by first | (simp; done) | (simp; omega)) _ | refine Below.drew ?_)
set_option maxHeartbeats 400000 in
theorem toFelt_any (hi sp en li : Int) (ack : Bool) (w : World) :
    Calls Try.prog 9 #[.agg #[.int .i64 hi, .int .i64 sp, .int .i64 en, .int .i64 li, .bool ack]] w fun e w' => e = .returned (.agg #[.int .i64 hi, .int .i64 sp, .int .i64 en, .int .i64 li, .bool ack]) ∧ Below w.heap.size w w' := by
  go_enter Try.func9, Try.ntmps9
  go_wp2
  refine bodyPost_ret (v := .agg #[.int .i64 hi, .int .i64 sp, .int .i64 en, .int .i64 li, .bool ack]) (by simp [results, Try.results9, go_sem]) rfl ⟨rfl, ?_⟩
  repeat (first | exact Below.refl _ _ | refine Below.setCell ?_ (by first | (simp; done) | (simp; omega)) _ | refine Below.alloc ?_ (by first | (simp; done) | (simp; omega)) _ | refine Below.drew ?_)
set_option maxHeartbeats 800000 in
theorem toAct_any (want off fast more en li : Int) (ack : Bool) (w : World) :
    Calls Try.prog 28 #[.agg #[.int .i64 want, .int .i64 off, .int .i64 fast, .int .i64 more, .int .i64 en, .int .i64 li, .bool ack]] w fun e w' => e = .returned (.agg #[.int .i64 want, .int .i64 off, .int .i64 fast, .int .i64 more, .int .i64 en, .int .i64 li, .bool ack]) ∧ Below w.heap.size w w' := by
  go_enter Try.func28, Try.ntmps28
  go_wp2
  refine bodyPost_ret (v := .agg #[.int .i64 want, .int .i64 off, .int .i64 fast, .int .i64 more, .int .i64 en, .int .i64 li, .bool ack]) (by simp [results, Try.results28, go_sem]) rfl ⟨rfl, ?_⟩
  repeat (first | exact Below.refl _ _ | refine Below.setCell ?_ (by first | (simp; done) | (simp; omega)) _ | refine Below.alloc ?_ (by first | (simp; done) | (simp; omega)) _ | refine Below.drew ?_)
set_option maxHeartbeats 400000 in
theorem eqGuard_same (st en : Int) (w : World) :
    Calls Try.prog 43 #[.agg #[.int .i64 st, .int .i64 en], .agg #[.int .i64 st, .int .i64 en]] w fun e w' => e = .returned (.bool true) ∧ Below w.heap.size w w' := by
  go_enter Try.func43, Try.ntmps43
  go_wp2
  go_ret
  exact ⟨rfl, bstep (bone _ _) (bone _ _)⟩
set_option maxHeartbeats 800000 in
theorem eqSaid_same (x : Said6) (w : World) :
    Calls Try.prog 17 #[.agg #[.bool x.ok, .int .i64 x.st, .int .i64 x.en, .int .i64 x.sp, .bool x.kept, .bool x.change], .agg #[.bool x.ok, .int .i64 x.st, .int .i64 x.en, .int .i64 x.sp, .bool x.kept, .bool x.change]] w fun e w' => e = .returned (.bool true) ∧ Below w.heap.size w w' := by
  go_enter Try.func17, Try.ntmps17
  go_wp2_with fail
  refine (eqGuard_same _ _ _).mono ?_; rintro e w1 ⟨rfl, hb1⟩
  obtain ⟨hc1, hf1⟩ := bcell hb1
  go_wp2
  go_ret
  exact ⟨rfl, bstep (bstep (bone _ _) (bone _ _)) hb1⟩
set_option maxHeartbeats 400000 in
theorem eqFelt_same (f : Felt5) (w : World) :
    Calls Try.prog 45 #[.agg #[.int .i64 f.high, .int .i64 f.speed, .int .i64 f.en, .int .i64 f.lim, .bool f.ack], .agg #[.int .i64 f.high, .int .i64 f.speed, .int .i64 f.en, .int .i64 f.lim, .bool f.ack]] w fun e w' => e = .returned (.bool true) ∧ Below w.heap.size w w' := by
  go_enter Try.func45, Try.ntmps45
  go_wp2
  go_ret
  exact ⟨rfl, bstep (bone _ _) (bone _ _)⟩

end Go.Proofs.Ytgpphkjdmonkaab
