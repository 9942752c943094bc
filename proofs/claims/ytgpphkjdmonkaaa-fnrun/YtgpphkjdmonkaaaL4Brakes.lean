/-
  What the model draws: brakes, now and then odd ones.
-/
import Derived.Test.YtgpphkjdmonkaaaOdd
import Derived.Deep.Cut
namespace Go.Proofs.Ytgpphkjdmonkaaa
open Go.RowKit
attribute [local go_sem ↓] Go.wp_at_zero Go.wp_at_succ

set_option maxRecDepth 100000 in
set_option maxHeartbeats 1600000 in
theorem l4brakes_any {C : Nat} {p : Option Addr} {len cap : Nat} {m : Int} {W : World} (hC : Cur C p len cap m W) (hm : m ≤ 700000) :
    Calls Try.prog 32 #[.pointer (some ⟨C, 0, none⟩)] W fun e W' => ∃ s h d a k : Int, e = .returned (.agg #[.int .i64 s, .int .i64 h, .int .i64 d, .int .i64 a, .int .i64 k]) ∧ Fin C p len cap (m + 8) W W' := by
  have hlt := hC.lt
  have hR0 := Lay.new W #[.int .i64 0, .int .i64 0, .int .i64 0, .int .i64 0, .int .i64 0] 24
  have hF0 : Fin C p len cap m W (W.alloc (.cells #[.int .i64 0, .int .i64 0, .int .i64 0, .int .i64 0, .int .i64 0] 24)) := (Fin.first hC).alloc _
  go_enter Try.func32, Try.ntmps32
  go_wp2_with fail
  refine (brakes_any hF0.cur (by omega)).mono ?_; rintro e w1 ⟨s, hh, d, a, k, rfl, _, hC1, hb1⟩
  have hF1 := (Fin.first hF0.cur).call hC1 hb1
  have hR1 := (hR0.fin hF1 (by omega)).alloc (.cells #[.int .i64 s, .int .i64 hh, .int .i64 d, .int .i64 a, .int .i64 k] 24)
  have hB1 := Lay.new w1 #[.int .i64 s, .int .i64 hh, .int .i64 d, .int .i64 a, .int .i64 k] 24
  have hG1 := (hF0.then hF1).alloc (.cells #[.int .i64 s, .int .i64 hh, .int .i64 d, .int .i64 a, .int .i64 k] 24)
  have hltC := (hF0.then hF1).cur.lt
  have hle1 := (hR0.fin hF1 (by omega)).lt
  clear hF0 hF1 hR0 hC1 hb1
  go_wp2_with fail
  refine (pick_fin 16 hG1.cur (by omega) (by omega) (by omega)).mono ?_; rintro e w2 ⟨x, rfl, l1, u1, hF2⟩
  have hB2 := hB1.fin hF2 (by omega)
  have hR2 := hR1.fin hF2 (by omega)
  have hG2 := hG1.then hF2
  clear hB1 hR1 hG1 hF2
  have hne : W.heap.size ≠ w1.heap.size := by omega
  have hne' : w1.heap.size ≠ W.heap.size := Ne.symm hne
  go_upto_if 8 with fail
  go_cut [] from 4 (fun wx => ∃ s2 h2 d2 a2 k2 : Int, Lay w1.heap.size [.int .i64 s2, .int .i64 h2, .int .i64 d2, .int .i64 a2, .int .i64 k2] wx ∧ Lay W.heap.size [.int .i64 0, .int .i64 0, .int .i64 0, .int .i64 0, .int .i64 0] wx ∧ Fin C p len cap (m + 8) W wx)
  case first =>
    by_cases hx : x = 0
    · subst hx
      obtain ⟨b0, b1, b2, b3, b4, bf, blt⟩ := hB2.five
      go_wp2_with fail
      refine (oddbrakes_any s hh d a k hG2.cur (by omega)).mono ?_; rintro e w3 ⟨s2, h2, d2, a2, k2, rfl, hF3⟩
      have hB3 := hB2.fin hF3 (by omega)
      have hR3 := hR2.fin hF3 (by omega)
      have hG := (hG2.then hF3).mono (m' := m + 8) (by omega)
      clear b0 b1 b2 b3 b4 bf blt hB2 hR2 hG2 hF3
      obtain ⟨b0, b1, b2, b3, b4, bf, blt⟩ := hB3.five
      go_wp2_with fail
      go_meet
      refine ⟨s2, h2, d2, a2, k2, ?_, ?_, ?_⟩
      · exact ((((hB3.set 0 (.int .i64 s2) (by simp)).set 1 (.int .i64 h2) (by simp)).set 2 (.int .i64 d2) (by simp)).set 3 (.int .i64 a2) (by simp)).set 4 (.int .i64 k2) (by simp)
      · repeat (first | with_reducible exact hR3 | refine Lay.far ?_ hne' _ _)
      · repeat (first | with_reducible exact hG | refine Fin.set ?_ (by omega) _ _)
    · have hx' : (x == 0) = false := by simp [hx]
      go_wp2_with fail
      go_meet
      exact ⟨s, hh, d, a, k, hB2, hR2, hG2.mono (by omega)⟩
  case rest =>
    obtain ⟨s2, h2, d2, a2, k2, hB3, hR3, hG⟩ := hcut
    clear hB2 hR2 hG2
    obtain ⟨b0, b1, b2, b3, b4, bf, blt⟩ := hB3.five
    obtain ⟨r0, r1, r2, r3, r4, rf, rlt⟩ := hR3.five
    go_wp2
    refine bodyPost_ret (v := .agg #[.int .i64 s2, .int .i64 h2, .int .i64 d2, .int .i64 a2, .int .i64 k2]) (by simp [results, Try.results32, go_sem, r0, r1, r2, r3, r4]) rfl ?_
    refine ⟨_, _, _, _, _, rfl, ?_⟩
    repeat (first | with_reducible exact hG | refine Fin.set ?_ (by omega) _ _)

end Go.Proofs.Ytgpphkjdmonkaaa
