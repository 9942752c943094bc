/-
  The program's guard: what is felt is right, the guard is right, the states, the rules.
-/
import Derived.Test.YtgpphkjdmonkaaaGuardSpec
import Derived.Handy
namespace Go.Proofs.Ytgpphkjdmonkaaa
open Go.RowKit
attribute [local go_sem ↓] Go.wp_at_zero Go.wp_at_succ

theorem isEnd_at (v : Int) : (decide (v = -1) || inB v 0 100000000) = inB v (-1) 100000000 := by
  rw [Bool.eq_iff_iff]
  simp only [inB, Bool.or_eq_true, decide_eq_true_eq]; omega
set_option maxHeartbeats 400000 in
theorem isEnd_any (v : Int) (w : World) : Calls Try.prog 61 #[.int .i64 v] w fun e w' => e = .returned (.bool (inB v (-1) 100000000)) ∧ w = w' := by
  by_cases h : v = -1
  · go_enter Try.func61, Try.ntmps61
    go_wp2_with (go_at_call 47; refine (isPlace_any _ _).mono ?_; rintro e w' ⟨rfl, rfl⟩)
    go_ret
    exact ⟨ret_bool (by rw [← isEnd_at]; simp [*]), rfl⟩
  · go_enter Try.func61, Try.ntmps61
    go_wp2_with (go_at_call 47; refine (isPlace_any _ _).mono ?_; rintro e w' ⟨rfl, rfl⟩)
    go_ret
    exact ⟨ret_bool (by rw [← isEnd_at]; simp [*]), rfl⟩
set_option maxHeartbeats 800000 in
theorem feltOk_impl (f : Felt5) (w : World) :
    Calls Try.prog 37 #[.agg #[.int .i64 f.high, .int .i64 f.speed, .int .i64 f.en, .int .i64 f.lim, .bool f.ack]] w fun e w' => e = .returned (.bool f.okB) ∧ Below w.heap.size w w' := by
  rcases Bool.eq_false_or_eq_true (inB f.high 0 100000000) with h1 | h1
  · rcases Bool.eq_false_or_eq_true (inB f.speed 0 10000) with h2 | h2
    · rcases Bool.eq_false_or_eq_true (inB f.en (-1) 100000000) with h3 | h3
      · go_enter Try.func37, Try.ntmps37
        go_wp2_with (first | (go_at_call 47; refine (isPlace_any _ _).mono ?_; rintro e w' ⟨rfl, rfl⟩) | (go_at_call 44; refine (isSpeed_any _ _).mono ?_; rintro e w' ⟨rfl, rfl⟩) | (go_at_call 61; refine (isEnd_any _ _).mono ?_; rintro e w' ⟨rfl, rfl⟩))
        go_ret
        exact ⟨ret_bool (by simp [Felt5.okB, *]), bone _ _⟩
      · go_enter Try.func37, Try.ntmps37
        go_wp2_with (first | (go_at_call 47; refine (isPlace_any _ _).mono ?_; rintro e w' ⟨rfl, rfl⟩) | (go_at_call 44; refine (isSpeed_any _ _).mono ?_; rintro e w' ⟨rfl, rfl⟩) | (go_at_call 61; refine (isEnd_any _ _).mono ?_; rintro e w' ⟨rfl, rfl⟩))
        go_ret
        exact ⟨ret_bool (by simp [Felt5.okB, *]), bone _ _⟩
    · go_enter Try.func37, Try.ntmps37
      go_wp2_with (first | (go_at_call 47; refine (isPlace_any _ _).mono ?_; rintro e w' ⟨rfl, rfl⟩) | (go_at_call 44; refine (isSpeed_any _ _).mono ?_; rintro e w' ⟨rfl, rfl⟩))
      go_ret
      exact ⟨ret_bool (by simp [Felt5.okB, *]), bone _ _⟩
  · go_enter Try.func37, Try.ntmps37
    go_wp2_with (go_at_call 47; refine (isPlace_any _ _).mono ?_; rintro e w' ⟨rfl, rfl⟩)
    go_ret
    exact ⟨ret_bool (by simp [Felt5.okB, *]), bone _ _⟩
set_option maxHeartbeats 400000 in
theorem guardOk_impl (st en : Int) (w : World) :
    Calls Try.prog 28 #[.agg #[.int .i64 st, .int .i64 en]] w fun e w' => e = .returned (.bool (guardB st en)) ∧ Below w.heap.size w w' := by
  rcases Bool.eq_false_or_eq_true (inB st 0 3) with h1 | h1
  · go_enter Try.func28, Try.ntmps28
    go_wp2_with (first | (go_at_call 60; refine (within_any _ _ _ _).mono ?_; rintro e w' ⟨rfl, rfl⟩) | (go_at_call 61; refine (isEnd_any _ _).mono ?_; rintro e w' ⟨rfl, rfl⟩))
    go_ret
    exact ⟨ret_bool (by simp [guardB, *]), bone _ _⟩
  · go_enter Try.func28, Try.ntmps28
    go_wp2_with (go_at_call 60; refine (within_any _ _ _ _).mono ?_; rintro e w' ⟨rfl, rfl⟩)
    go_ret
    exact ⟨ret_bool (by simp [guardB, *]), bone _ _⟩

/-- The four states. -/
inductive St4 where
  | free
  | warn
  | soft
  | hard
def St4.num : St4 → Int
  | .free => 0
  | .warn => 1
  | .soft => 2
  | .hard => 3
def St4.val : St4 → Value
  | .free => .iface 90 (.agg #[])
  | .warn => .iface 91 (.agg #[])
  | .soft => .iface 92 (.agg #[])
  | .hard => .iface 93 (.agg #[])
def St4.opt : Option St4 → Value
  | none => .nilIface
  | some x => x.val
theorem index_states (x : St4) (w : World) : (Instr.index 94 (.agg #[.iface 90 (.agg #[]), .iface 91 (.agg #[]), .iface 92 (.agg #[]), .iface 93 (.agg #[])]) (.int .i64 x.num)).run Try.prog w = .ok x.val w := by
  cases x <;> kernel_rfl
set_option maxRecDepth 100000 in
set_option maxHeartbeats 800000 in
theorem stateOf_any (x : St4) (en : Int) (w : World) :
    Calls Try.prog 40 #[.agg #[.int .i64 x.num, .int .i64 en]] w fun e w' => e = .returned x.val ∧ Below w.heap.size w w' := by
  have hix := index_states x
  go_enter Try.func40, Try.ntmps40
  go_wp2
  go_ret
  exact ⟨rfl, bone _ _⟩
/-- What the rules say. -/
def stayF (x : St4) (sp : Int) (kept ack : Bool) : Option St4 :=
  match x with
  | .hard => if 0 < sp ∨ ack = false ∨ kept = false then some .hard else none
  | _ => none
def brakeF (kept : Bool) : Option St4 := if kept then none else some .hard
def slowF (x : St4) (sp pe : Int) : Option St4 :=
  if sp ≤ pe then none else match x with
  | .warn => some .soft
  | .soft => some .soft
  | _ => some .warn
def St4.isHard : St4 → Bool
  | .hard => true
  | _ => false
def St4.isWarn : St4 → Bool
  | .warn => true
  | _ => false
def St4.isSoft : St4 → Bool
  | .soft => true
  | _ => false
theorem assert_hard (x : St4) (w : World) : (Instr.typeAssert x.val 68 93 true).run Try.prog w = .ok (.tuple #[.agg #[], .bool x.isHard]) w := by
  cases x <;> kernel_rfl
theorem assert_warn (x : St4) (w : World) : (Instr.typeAssert x.val 68 91 true).run Try.prog w = .ok (.tuple #[.agg #[], .bool x.isWarn]) w := by
  cases x <;> kernel_rfl
theorem assert_soft (x : St4) (w : World) : (Instr.typeAssert x.val 68 92 true).run Try.prog w = .ok (.tuple #[.agg #[], .bool x.isSoft]) w := by
  cases x <;> kernel_rfl
set_option maxRecDepth 100000 in
set_option maxHeartbeats 1600000 in
theorem stayHard_any (x : St4) (sp pe : Int) (kept ack : Bool) (w : World) :
    Calls Try.prog 66 #[x.val, .agg #[.int .i64 sp, .int .i64 pe, .bool kept, .bool ack]] w fun e w' => e = .returned (St4.opt (stayF x sp kept ack)) ∧ Below w.heap.size w w' := by
  cases x
  case hard =>
    by_cases h : 0 < sp
    · have e : stayF .hard sp kept ack = some .hard := by simp [stayF, h]
      rw [e]
      have ha := assert_hard .hard
      simp only [St4.val, St4.isHard] at ha
      simp only [St4.val, St4.opt]
      go_enter Try.func66, Try.ntmps66
      go_wp2
      go_ret
      exact ⟨rfl, bone _ _⟩
    · cases ack
      · have e : stayF .hard sp kept false = some .hard := by simp [stayF]
        rw [e]
        have ha := assert_hard .hard
        simp only [St4.val, St4.isHard] at ha
        simp only [St4.val, St4.opt]
        go_enter Try.func66, Try.ntmps66
        go_wp2
        go_ret
        exact ⟨rfl, bone _ _⟩
      · cases kept
        · have e : stayF .hard sp false true = some .hard := by simp [stayF]
          rw [e]
          have ha := assert_hard .hard
          simp only [St4.val, St4.isHard] at ha
          simp only [St4.val, St4.opt]
          go_enter Try.func66, Try.ntmps66
          go_wp2
          go_ret
          exact ⟨rfl, bone _ _⟩
        · have e : stayF .hard sp true true = none := by simp [stayF, h]
          rw [e]
          have ha := assert_hard .hard
          simp only [St4.val, St4.isHard] at ha
          simp only [St4.val, St4.opt]
          go_enter Try.func66, Try.ntmps66
          go_wp2
          go_ret
          exact ⟨rfl, bone _ _⟩
  case free =>
    have ha := assert_hard .free
    simp only [St4.val, St4.isHard] at ha
    simp only [St4.val, St4.opt, stayF]
    go_enter Try.func66, Try.ntmps66
    go_wp2
    go_ret
    exact ⟨rfl, bone _ _⟩
  case warn =>
    have ha := assert_hard .warn
    simp only [St4.val, St4.isHard] at ha
    simp only [St4.val, St4.opt, stayF]
    go_enter Try.func66, Try.ntmps66
    go_wp2
    go_ret
    exact ⟨rfl, bone _ _⟩
  case soft =>
    have ha := assert_hard .soft
    simp only [St4.val, St4.isHard] at ha
    simp only [St4.val, St4.opt, stayF]
    go_enter Try.func66, Try.ntmps66
    go_wp2
    go_ret
    exact ⟨rfl, bone _ _⟩
set_option maxRecDepth 100000 in
set_option maxHeartbeats 800000 in
theorem brakeHard_any (x : Value) (sp pe : Int) (kept ack : Bool) (w : World) :
    Calls Try.prog 67 #[x, .agg #[.int .i64 sp, .int .i64 pe, .bool kept, .bool ack]] w fun e w' => e = .returned (St4.opt (brakeF kept)) ∧ Below w.heap.size w w' := by
  cases kept
  all_goals
    go_enter Try.func67, Try.ntmps67
    go_wp2
    go_ret
    exact ⟨rfl, bone _ _⟩
set_option maxRecDepth 100000 in
set_option maxHeartbeats 1600000 in
theorem slowDown_any (x : St4) (sp pe : Int) (kept ack : Bool) (w : World) :
    Calls Try.prog 68 #[x.val, .agg #[.int .i64 sp, .int .i64 pe, .bool kept, .bool ack]] w fun e w' => e = .returned (St4.opt (slowF x sp pe)) ∧ Below w.heap.size w w' := by
  by_cases h : sp ≤ pe
  · have e : slowF x sp pe = none := by simp [slowF, h]
    rw [e]
    simp only [St4.opt]
    go_enter Try.func68, Try.ntmps68
    go_wp2
    go_ret
    exact ⟨rfl, bone _ _⟩
  · cases x
    case free =>
      have ha := assert_warn .free
      have hb := assert_soft .free
      simp only [St4.val, St4.isWarn] at ha
      simp only [St4.val, St4.isSoft] at hb
      simp only [St4.val, St4.opt, slowF, if_neg h]
      go_enter Try.func68, Try.ntmps68
      go_wp2
      go_ret
      exact ⟨rfl, bone _ _⟩
    case warn =>
      have ha := assert_warn .warn
      have hb := assert_soft .warn
      simp only [St4.val, St4.isWarn] at ha
      simp only [St4.val, St4.isSoft] at hb
      simp only [St4.val, St4.opt, slowF, if_neg h]
      go_enter Try.func68, Try.ntmps68
      go_wp2
      go_ret
      exact ⟨rfl, bone _ _⟩
    case soft =>
      have ha := assert_warn .soft
      have hb := assert_soft .soft
      simp only [St4.val, St4.isWarn] at ha
      simp only [St4.val, St4.isSoft] at hb
      simp only [St4.val, St4.opt, slowF, if_neg h]
      go_enter Try.func68, Try.ntmps68
      go_wp2
      go_ret
      exact ⟨rfl, bone _ _⟩
    case hard =>
      have ha := assert_warn .hard
      have hb := assert_soft .hard
      simp only [St4.val, St4.isWarn] at ha
      simp only [St4.val, St4.isSoft] at hb
      simp only [St4.val, St4.opt, slowF, if_neg h]
      go_enter Try.func68, Try.ntmps68
      go_wp2
      go_ret
      exact ⟨rfl, bone _ _⟩

end Go.Proofs.Ytgpphkjdmonkaaa
