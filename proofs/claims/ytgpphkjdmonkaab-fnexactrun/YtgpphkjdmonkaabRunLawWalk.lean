/-
  The exact law of Run: the walk, given what the program's Run answers.
-/
import Derived.Test.YtgpphkjdmonkaabRunLaw
namespace Go.Proofs.Ytgpphkjdmonkaab
open Go.RowKit
attribute [local go_sem ↓] Go.wp_at_zero Go.wp_at_succ

/-- What is asked of the program's Run. -/
def RunImpl : Prop := ∀ (s h d a k : Int) (ad : Option Addr) (cap : Nat) (fs : List Felt5) (w : World), FeltsAt ad fs w → fs.length ≤ 1048576 →
    Calls Try.prog 21 #[.agg #[.int .i64 s, .int .i64 h, .int .i64 d, .int .i64 a, .int .i64 k], .slice ad fs.length cap] w
      fun e w' => ∃ v, e = .returned v ∧ w'.ownsRow w.heap.size 37 6 v (runF s h d a k fs).length ((runF s h d a k fs).flatMap Said6.vals) ∧ Below w.heap.size w w'
theorem runF_le (s h d a k : Int) (fs : List Felt5) : (runF s h d a k fs).length ≤ fs.length := by
  unfold runF
  split
  · rw [runFrom_length]; exact Nat.le_refl _
  · exact Nat.zero_le _
set_option maxRecDepth 100000 in
set_option maxHeartbeats 3200000 in
theorem runLaw_any (hRun : RunImpl) (s h d a k : Int) (ad : Option Addr) (cap : Nat) (fs : List Felt5) (w : World) (hfs : FeltsAt ad fs w) (hl : fs.length ≤ 9223372036854775807) :
    Calls Try.prog 6 #[.agg #[.int .i64 s, .int .i64 h, .int .i64 d, .int .i64 a, .int .i64 k], .slice ad fs.length cap] w fun e w' => e = .returned (.bool true) ∧ Below w.heap.size w w' := by
  by_cases hbig : (1048576 : Int) < fs.length
  · go_enter Try.func6, Try.ntmps6
    go_wp2
    go_ret
    exact ⟨rfl, bone _ _⟩
  · have hlen : fs.length ≤ 1048576 := by omega
    obtain ⟨xs, hxs⟩ : ∃ xs, xs = runF s h d a k fs := ⟨_, rfl⟩
    have hxl : xs.length ≤ 1048576 := by rw [hxs]; exact Nat.le_trans (runF_le _ _ _ _ _ _) hlen
    have hSpec := run_spec s h d a k (fs := fs)
    have hImpl := hRun s h d a k (fs := fs)
    rw [← hxs] at hSpec hImpl
    have HS := hiddenY hSpec
    have HI := hiddenY hImpl
    clear hSpec hImpl hxs
    have bx0 := Box5.first w s h d a k 35
    go_enter Try.func6, Try.ntmps6
    go_wp2_with (go_at_call 18; go_in)
    refine (toBrakes_any _ _ _ _ _ _).mono ?_; rintro e w1 ⟨rfl, hb1⟩
    have bx1 := bx0.step hb1
    clear bx0 hb1
    go_wp2_with fail
    refine (toFeltS_any _ _ fs w1 (hfs.keep bx1.2.2.2.2.2.2) hlen).mono ?_; rintro e w2 ⟨rfl, hx0, hz2, hb2⟩
    have bx2 := bx1.step hb2
    have fa2 := feltsAt_own hx0 hz2
    clear bx1 hb2 hx0 hz2
    go_wp2_with fail
    refine (HS.out _ _ _ fa2 hlen).mono ?_; rintro e w3 ⟨v0, rfl, ho0, hb3⟩
    have bx3 := bx2.step hb3
    clear bx2 hb3 fa2
    have hv0 := own_lt ho0
    have zw3 : w.heap.size < w3.heap.size := bx3.2.2.2.2.2.1
    go_wp2_with fail
    refine (toFeltS_any _ _ fs w3 (hfs.keep bx3.2.2.2.2.2.2) hlen).mono ?_; rintro e w4 ⟨rfl, hx1, hz4, hb4⟩
    have bx4 := bx3.step hb4
    have ho0 := ownsRow_below ho0 hb4
    clear bx3 hb4
    have bxc := bx4
    obtain ⟨d0, d1, d2, d3, d4, dz, dB⟩ := bxc
    go_wp2_with fail
    refine (toBrakes_any _ _ _ _ _ _).mono ?_; rintro e w5 ⟨rfl, hb5⟩
    clear d0 d1 d2 d3 d4 dz dB
    have bx5 := bx4.step hb5
    have ho0 := ownsRow_below ho0 hb5
    have hx1 := ownsRow_below hx1 hb5
    have zw5 : w3.heap.size < w5.heap.size := Nat.lt_of_lt_of_le hz4 hb5.size
    clear bx4 hb5 hz4
    go_wp2_with fail
    refine (HI.out _ _ _ (feltsAt_own hx1 zw5) hlen).mono ?_; rintro e w6 ⟨v1, rfl, ho1, hb6⟩
    have bx6 := bx5.step hb6
    have ho0 := ownsRow_below ho0 hb6
    have hx1 := ownsRow_below hx1 hb6
    have zw6 := Nat.lt_of_lt_of_le zw5 hb6.size
    have hv1 := own_ge ho1
    clear bx5 hb6
    obtain ⟨ad0, cap0, e0⟩ := own_form ho0
    obtain ⟨ad1, cap1, e1⟩ := own_form ho1
    rw [e0] at ho0 hv0 ⊢
    rw [e1] at ho1 hv1 ⊢
    clear e0 e1
    go_wp2_with fail
    refine (eqSaidS_same _ _ _ _ xs w6 (saidsAt_own ho1) (saidsAt_own ho0) hxl).mono ?_; rintro e w7 ⟨rfl, hb7⟩
    have bx7 := bx6.step hb7
    have ho0 := ownsRow_below ho0 hb7
    have ho1 := ownsRow_below ho1 hb7
    have hx1 := ownsRow_below hx1 hb7
    have zw7 := Nat.lt_of_lt_of_le zw6 hb7.size
    clear bx6 hb7 zw6
    go_wp2_with fail
    refine (toFeltS_any _ _ fs w7 (hfs.keep bx7.2.2.2.2.2.2) hlen).mono ?_; rintro e w8 ⟨rfl, hx2, hz8, hb8⟩
    have bx8 := bx7.step hb8
    have ho0 := ownsRow_below ho0 hb8
    have ho1 := ownsRow_below ho1 hb8
    have hx1 := ownsRow_below hx1 hb8
    have zw8 := Nat.lt_of_lt_of_le zw7 hb8.size
    clear bx7 hb8 zw7
    go_wp2_with fail
    refine (eqFeltS_same _ _ _ _ fs w8 (feltsAt_own hx1 zw8) (feltsAt_own hx2 hz8) hlen).mono ?_; rintro e w9 ⟨rfl, hb9⟩
    have bx9 := bx8.step hb9
    have ho0 := ownsRow_below ho0 hb9
    have ho1 := ownsRow_below ho1 hb9
    have hx1 := ownsRow_below hx1 hb9
    clear bx8 hb9 zw8 hx2 hz8
    go_wp2_with fail
    refine (markFeltS_any _ _ _ _ _ 1 w9 (by omega) (by omega) hlen hx1).mono ?_; rintro e w10 ⟨rfl, hb10⟩
    have bx10 := bx9.but zw3 hb10
    have ho0 := ownsRow_far ho0 (fun k hk => by have := hv0 k hk; omega) hb10
    have ho1 := ownsRow_far ho1 (fun k hk => by have := hv1 k hk; omega) hb10
    clear bx9 hb10 hx1
    go_wp2_with fail
    refine (eqSaidS_same _ _ _ _ xs w10 (saidsAt_own ho1) (saidsAt_own ho0) hxl).mono ?_; rintro e w11 ⟨rfl, hb11⟩
    have bx11 := bx10.step hb11
    have ho0 := ownsRow_below ho0 hb11
    have ho1 := ownsRow_below ho1 hb11
    clear bx10 hb11
    go_wp2_with fail
    refine (markSaidS_own w11 hxl ho1).mono ?_; rintro e w12 ⟨rfl, hmk, g, hg, _, hb12⟩
    have bx12 := bx11.but (C := g) (by omega) hb12
    have ho0 := ownsRow_far ho0 (fun k hk => by have := hv0 k hk; omega) hb12
    clear bx11 hb12 ho1
    have bxc := bx12
    obtain ⟨d0, d1, d2, d3, d4, dz, dB⟩ := bxc
    go_wp2_with fail
    refine (heldSaidS_own w12 hxl hmk).mono ?_; rintro e w' ⟨rfl, rfl⟩
    go_wp2_with fail
    refine (toBrakes_any _ _ _ _ _ _).mono ?_; rintro e w13 ⟨rfl, hb13⟩
    clear d0 d1 d2 d3 d4 dz dB
    have bx13 := bx12.step hb13
    have ho0 := ownsRow_below ho0 hb13
    have hmk := ownsRow_below hmk hb13
    clear bx12 hb13
    go_wp2_with fail
    refine (toFeltS_any _ _ fs w13 (hfs.keep bx13.2.2.2.2.2.2) hlen).mono ?_; rintro e w14 ⟨rfl, hx3, hz14, hb14⟩
    have bx14 := bx13.step hb14
    have ho0 := ownsRow_below ho0 hb14
    have hmk := ownsRow_below hmk hb14
    clear bx13 hb14
    go_wp2_with fail
    refine (HI.out _ _ _ (feltsAt_own hx3 hz14) hlen).mono ?_; rintro e w15 ⟨v2, rfl, ho2, hb15⟩
    have bx15 := bx14.step hb15
    have ho0 := ownsRow_below ho0 hb15
    have hmk := ownsRow_below hmk hb15
    clear bx14 hb15 hx3 hz14
    obtain ⟨ad2, cap2, e2⟩ := own_form ho2
    rw [e2] at ho2 ⊢
    clear e2
    go_wp2_with fail
    refine (eqSaidS_same _ _ _ _ xs w15 (saidsAt_own ho2) (saidsAt_own ho0) hxl).mono ?_; rintro e w16 ⟨rfl, hb16⟩
    have bx16 := bx15.step hb16
    have hmk := ownsRow_below hmk hb16
    clear bx15 hb16 ho0 ho2
    go_wp2_with fail
    refine (heldSaidS_own w16 hxl hmk).mono ?_; rintro e w' ⟨rfl, rfl⟩
    go_wp2
    go_ret
    exact ⟨rfl, bx16.2.2.2.2.2.2⟩

end Go.Proofs.Ytgpphkjdmonkaab
