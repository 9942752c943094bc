/-
  The program's guard: the rules in their order.
-/
import Derived.Test.YtgpphkjdmonkaaaGuardImpl
namespace Go.Proofs.Ytgpphkjdmonkaaa
open Go.RowKit
attribute [local go_sem ↓] Go.wp_at_zero Go.wp_at_succ

/-- The state that a tick leads to. -/
def nextF (x : St4) (sp pe : Int) (kept ack : Bool) : St4 := ((stayF x sp kept ack).or ((brakeF kept).or (slowF x sp pe))).getD .free
theorem stayF_or (x : St4) (sp : Int) (kept ack : Bool) : stayF x sp kept ack = none ∨ stayF x sp kept ack = some .hard := by
  cases x <;> simp [stayF] <;> omega
theorem brakeF_or (kept : Bool) : brakeF kept = none ∨ brakeF kept = some .hard := by cases kept <;> simp [brakeF]
theorem slowF_or (x : St4) (sp pe : Int) : slowF x sp pe = none ∨ slowF x sp pe = some .soft ∨ slowF x sp pe = some .warn := by
  unfold slowF
  by_cases h : sp ≤ pe
  · simp [h]
  · cases x <;> simp [h]
theorem index_rule0 (w : World) : (Instr.index 88 (.agg #[.func (.func 66) #[] #[], .func (.func 67) #[] #[], .func (.func 68) #[] #[]]) (.int .i64 0)).run Try.prog w = .ok (.func (.func 66) #[] #[]) w := by kernel_rfl
theorem index_rule1 (w : World) : (Instr.index 88 (.agg #[.func (.func 66) #[] #[], .func (.func 67) #[] #[], .func (.func 68) #[] #[]]) (.int .i64 1)).run Try.prog w = .ok (.func (.func 67) #[] #[]) w := by kernel_rfl
theorem index_rule2 (w : World) : (Instr.index 88 (.agg #[.func (.func 66) #[] #[], .func (.func 67) #[] #[], .func (.func 68) #[] #[]]) (.int .i64 2)).run Try.prog w = .ok (.func (.func 68) #[] #[]) w := by kernel_rfl
/-- The walk, where the rules' answers are known. -/
def RuleSays (n : Nat) (v : Value) (sp pe : Int) (kept ack : Bool) (o : Option St4) : Prop :=
  ∀ w : World, Calls Try.prog n #[v, .agg #[.int .i64 sp, .int .i64 pe, .bool kept, .bool ack]] w fun e w' => e = .returned (St4.opt o) ∧ Below w.heap.size w w'
set_option maxRecDepth 100000 in
set_option maxHeartbeats 1600000 in
theorem next_stay (v : Value) (sp pe : Int) (kept ack : Bool) (w : World) (hS : RuleSays 66 v sp pe kept ack (some .hard)) :
    Calls Try.prog 39 #[v, .agg #[.int .i64 sp, .int .i64 pe, .bool kept, .bool ack]] w fun e w' => e = .returned (St4.hard).val ∧ Below w.heap.size w w' := by
  have hi0 := index_rule0
  simp only [RuleSays, St4.opt, St4.val] at hS
  simp only [St4.val]
  go_enter Try.func39, Try.ntmps39
  go_wp2_with fail
  refine wp_loop_rounds 4 ?_
  rw [rounds_succ]
  go_wp2_with fail
  refine (hS _).mono ?_; rintro e w1 ⟨rfl, hb1⟩
  obtain ⟨hc1, hf1⟩ := bcell hb1
  go_wp2_with fail
  go_ret
  exact ⟨rfl, bstep (bone _ _) hb1⟩
set_option maxRecDepth 100000 in
set_option maxHeartbeats 1600000 in
theorem next_brake (v : Value) (sp pe : Int) (kept ack : Bool) (w : World) (hS : RuleSays 66 v sp pe kept ack (none)) (hB : RuleSays 67 v sp pe kept ack (some .hard)) :
    Calls Try.prog 39 #[v, .agg #[.int .i64 sp, .int .i64 pe, .bool kept, .bool ack]] w fun e w' => e = .returned (St4.hard).val ∧ Below w.heap.size w w' := by
  have hi0 := index_rule0
  have hi1 := index_rule1
  simp only [RuleSays, St4.opt, St4.val] at hS hB
  simp only [St4.val]
  go_enter Try.func39, Try.ntmps39
  go_wp2_with fail
  refine wp_loop_rounds 4 ?_
  rw [rounds_succ]
  go_wp2_with fail
  refine (hS _).mono ?_; rintro e w1 ⟨rfl, hb1⟩
  obtain ⟨hc1, hf1⟩ := bcell hb1
  go_wp2_with fail
  rw [rounds_succ]
  go_wp2_with fail
  refine (hB _).mono ?_; rintro e w2 ⟨rfl, hb2⟩
  obtain ⟨hc2, hf2⟩ := bcell hb2
  go_wp2_with fail
  go_ret
  exact ⟨rfl, bstep (bstep (bone _ _) hb1) hb2⟩
set_option maxRecDepth 100000 in
set_option maxHeartbeats 1600000 in
theorem next_soft (v : Value) (sp pe : Int) (kept ack : Bool) (w : World) (hS : RuleSays 66 v sp pe kept ack (none)) (hB : RuleSays 67 v sp pe kept ack (none)) (hD : RuleSays 68 v sp pe kept ack (some .soft)) :
    Calls Try.prog 39 #[v, .agg #[.int .i64 sp, .int .i64 pe, .bool kept, .bool ack]] w fun e w' => e = .returned (St4.soft).val ∧ Below w.heap.size w w' := by
  have hi0 := index_rule0
  have hi1 := index_rule1
  have hi2 := index_rule2
  simp only [RuleSays, St4.opt, St4.val] at hS hB hD
  simp only [St4.val]
  go_enter Try.func39, Try.ntmps39
  go_wp2_with fail
  refine wp_loop_rounds 4 ?_
  rw [rounds_succ]
  go_wp2_with fail
  refine (hS _).mono ?_; rintro e w1 ⟨rfl, hb1⟩
  obtain ⟨hc1, hf1⟩ := bcell hb1
  go_wp2_with fail
  rw [rounds_succ]
  go_wp2_with fail
  refine (hB _).mono ?_; rintro e w2 ⟨rfl, hb2⟩
  obtain ⟨hc2, hf2⟩ := bcell hb2
  have hz1 : w.heap.size < w1.heap.size := by have := hb1.size; simp at this; omega
  go_wp2_with fail
  rw [rounds_succ]
  go_wp2_with fail
  refine (hD _).mono ?_; rintro e w3 ⟨rfl, hb3⟩
  obtain ⟨hc3, hf3⟩ := bcell hb3
  go_wp2_with fail
  go_ret
  exact ⟨rfl, bstep (bstep (bstep (bone _ _) hb1) hb2) hb3⟩
set_option maxRecDepth 100000 in
set_option maxHeartbeats 1600000 in
theorem next_warn (v : Value) (sp pe : Int) (kept ack : Bool) (w : World) (hS : RuleSays 66 v sp pe kept ack (none)) (hB : RuleSays 67 v sp pe kept ack (none)) (hD : RuleSays 68 v sp pe kept ack (some .warn)) :
    Calls Try.prog 39 #[v, .agg #[.int .i64 sp, .int .i64 pe, .bool kept, .bool ack]] w fun e w' => e = .returned (St4.warn).val ∧ Below w.heap.size w w' := by
  have hi0 := index_rule0
  have hi1 := index_rule1
  have hi2 := index_rule2
  simp only [RuleSays, St4.opt, St4.val] at hS hB hD
  simp only [St4.val]
  go_enter Try.func39, Try.ntmps39
  go_wp2_with fail
  refine wp_loop_rounds 4 ?_
  rw [rounds_succ]
  go_wp2_with fail
  refine (hS _).mono ?_; rintro e w1 ⟨rfl, hb1⟩
  obtain ⟨hc1, hf1⟩ := bcell hb1
  go_wp2_with fail
  rw [rounds_succ]
  go_wp2_with fail
  refine (hB _).mono ?_; rintro e w2 ⟨rfl, hb2⟩
  obtain ⟨hc2, hf2⟩ := bcell hb2
  have hz1 : w.heap.size < w1.heap.size := by have := hb1.size; simp at this; omega
  go_wp2_with fail
  rw [rounds_succ]
  go_wp2_with fail
  refine (hD _).mono ?_; rintro e w3 ⟨rfl, hb3⟩
  obtain ⟨hc3, hf3⟩ := bcell hb3
  go_wp2_with fail
  go_ret
  exact ⟨rfl, bstep (bstep (bstep (bone _ _) hb1) hb2) hb3⟩
set_option maxRecDepth 100000 in
set_option maxHeartbeats 1600000 in
theorem next_free (v : Value) (sp pe : Int) (kept ack : Bool) (w : World) (hS : RuleSays 66 v sp pe kept ack (none)) (hB : RuleSays 67 v sp pe kept ack (none)) (hD : RuleSays 68 v sp pe kept ack (none)) :
    Calls Try.prog 39 #[v, .agg #[.int .i64 sp, .int .i64 pe, .bool kept, .bool ack]] w fun e w' => e = .returned (St4.free).val ∧ Below w.heap.size w w' := by
  have hi0 := index_rule0
  have hi1 := index_rule1
  have hi2 := index_rule2
  simp only [RuleSays, St4.opt] at hS hB hD
  simp only [St4.val]
  go_enter Try.func39, Try.ntmps39
  go_wp2_with fail
  refine wp_loop_rounds 4 ?_
  rw [rounds_succ]
  go_wp2_with fail
  refine (hS _).mono ?_; rintro e w1 ⟨rfl, hb1⟩
  obtain ⟨hc1, hf1⟩ := bcell hb1
  go_wp2_with fail
  rw [rounds_succ]
  go_wp2_with fail
  refine (hB _).mono ?_; rintro e w2 ⟨rfl, hb2⟩
  obtain ⟨hc2, hf2⟩ := bcell hb2
  have hz1 : w.heap.size < w1.heap.size := by have := hb1.size; simp at this; omega
  go_wp2_with fail
  rw [rounds_succ]
  go_wp2_with fail
  refine (hD _).mono ?_; rintro e w3 ⟨rfl, hb3⟩
  obtain ⟨hc3, hf3⟩ := bcell hb3
  go_wp2_with fail
  rw [rounds_succ]
  go_wp2_with fail
  go_ret
  exact ⟨rfl, bstep (bstep (bstep (bone _ _) hb1) hb2) hb3⟩
theorem nextState_any (x : St4) (sp pe : Int) (kept ack : Bool) (w : World) :
    Calls Try.prog 39 #[x.val, .agg #[.int .i64 sp, .int .i64 pe, .bool kept, .bool ack]] w fun e w' => e = .returned (nextF x sp pe kept ack).val ∧ Below w.heap.size w w' := by
  have hS := stayHard_any x sp pe kept ack
  have hB := brakeHard_any x.val sp pe kept ack
  have hD := slowDown_any x sp pe kept ack
  unfold nextF
  rcases stayF_or x sp kept ack with h1 | h1
  · rcases brakeF_or kept with h2 | h2
    · rcases slowF_or x sp pe with h3 | h3 | h3
      · rw [h1] at hS ⊢; rw [h2] at hB ⊢; rw [h3] at hD ⊢
        exact next_free _ _ _ _ _ _ hS hB hD
      · rw [h1] at hS ⊢; rw [h2] at hB ⊢; rw [h3] at hD ⊢
        exact next_soft _ _ _ _ _ _ hS hB hD
      · rw [h1] at hS ⊢; rw [h2] at hB ⊢; rw [h3] at hD ⊢
        exact next_warn _ _ _ _ _ _ hS hB hD
    · rw [h1] at hS ⊢; rw [h2] at hB ⊢
      exact next_brake _ _ _ _ _ _ hS hB
  · rw [h1] at hS ⊢
    exact next_stay _ _ _ _ _ _ hS

end Go.Proofs.Ytgpphkjdmonkaaa
