/-
  What the model draws for a law: brakes that are right, and what happens in each tick.
-/
import Derived.Test.YtgpphkjdmonkaaaCursor
namespace Go.Proofs.Ytgpphkjdmonkaaa
open Go.RowKit
attribute [local go_sem ↓] Go.wp_at_zero Go.wp_at_succ

/-- Brakes as they are drawn. -/
def drawnB (s h d a k : Int) : Prop := 10 ≤ s ∧ s ≤ 29 ∧ s ≤ h ∧ h ≤ 58 ∧ 0 ≤ d ∧ d ≤ 4 ∧ 0 ≤ a ∧ a ≤ 11 ∧ 0 ≤ k ∧ k ≤ 5
theorem drawnB_ok {s h d a k : Int} (hd : drawnB s h d a k) : okB s h d a k = true := by
  unfold drawnB at hd; rw [okB_iff]; omega

/-- The cursor where its block is as it was. -/
theorem Cur.move {C : Nat} {a : Option Addr} {len cap : Nat} {m : Int} {W W' : World} (h : Cur C a len cap m W) (hs : W'.heap[C]? = W.heap[C]?) (hr : Bytes C a len W') : Cur C a len cap m W' := by
  have hc : ∀ o, W'.cell? ⟨C, o, none⟩ = W.cell? ⟨C, o, none⟩ := fun o => World.cell?_of_block (w := W) (a := ⟨C, o, none⟩) hs
  have hf : ∀ o, W'.frozen? ⟨C, o, none⟩ = W.frozen? ⟨C, o, none⟩ := fun o => World.frozen?_of_block (w := W) (a := ⟨C, o, none⟩) hs
  obtain ⟨t, h0, h1, h2⟩ := h.at_
  obtain ⟨s, h3⟩ := h.seed
  have hlt : C < W'.heap.size := by
    rw [Array.getElem?_eq_getElem h.lt] at hs
    obtain ⟨h, _⟩ := Array.getElem?_eq_some_iff.1 hs
    exact h
  exact ⟨hlt, h.small, (hc _).trans h.code, ⟨t, h0, h1, (hc _).trans h2⟩, ⟨s, (hc _).trans h3⟩, (hf _).trans h.fr1, (hf _).trans h.fr2, hr⟩

set_option maxHeartbeats 800000 in
theorem brakes_any {C : Nat} {p : Option Addr} {len cap : Nat} {m : Int} {W : World} (hC : Cur C p len cap m W) (hm : m ≤ 900000) :
    Calls Try.prog 51 #[.pointer (some ⟨C, 0, none⟩)] W fun e W' => ∃ s h d a k : Int, e = .returned (.agg #[.int .i64 s, .int .i64 h, .int .i64 d, .int .i64 a, .int .i64 k]) ∧ drawnB s h d a k ∧ Cur C p len cap (m + 5) W' ∧ But C W W' := by
  have hlt := hC.lt
  go_enter Try.func51, Try.ntmps51
  go_wp2_with fail
  refine (pick_any 20 (hC.below (bone W _)) (by omega) (by omega) (by omega)).mono ?_; rintro e w1 ⟨x1, rfl, l1, u1, hC1, hb1⟩
  go_wp2_with fail
  refine (pick_any 30 hC1 (by omega) (by omega) (by omega)).mono ?_; rintro e w2 ⟨x2, rfl, l2, u2, hC2, hb2⟩
  go_wp2_with fail
  refine (pick_any 5 hC2 (by omega) (by omega) (by omega)).mono ?_; rintro e w3 ⟨x3, rfl, l3, u3, hC3, hb3⟩
  go_wp2_with fail
  refine (pick_any 12 hC3 (by omega) (by omega) (by omega)).mono ?_; rintro e w4 ⟨x4, rfl, l4, u4, hC4, hb4⟩
  go_wp2_with fail
  refine (pick_any 6 hC4 (by omega) (by omega) (by omega)).mono ?_; rintro e w5 ⟨x5, rfl, l5, u5, hC5, hb5⟩
  have hbut := (((hb1.trans hb2).trans hb3).trans hb4).trans hb5
  have hne : W.heap.size ≠ C := by omega
  have hc : ∀ o, w5.cell? ⟨W.heap.size, o, none⟩ = (W.alloc _).cell? ⟨W.heap.size, o, none⟩ := fun o => hbut.cell (by simp) hne
  have hf : ∀ o, w5.frozen? ⟨W.heap.size, o, none⟩ = (W.alloc _).frozen? ⟨W.heap.size, o, none⟩ := fun o => hbut.frozen (by simp) hne
  go_wp2
  refine bodyPost_ret (v := .agg #[.int .i64 (10 + x1), .int .i64 (10 + x1 + x2), .int .i64 x3, .int .i64 x4, .int .i64 x5]) (by simp [results, Try.results51, go_sem, hc]) rfl ?_
  have hB : But C W (((((w5.setCell ⟨W.heap.size, 0, none⟩ (.int .i64 (10 + x1))).setCell ⟨W.heap.size, 1, none⟩ (.int .i64 (10 + x1 + x2))).setCell ⟨W.heap.size, 2, none⟩ (.int .i64 x3)).setCell ⟨W.heap.size, 3, none⟩ (.int .i64 x4)).setCell ⟨W.heap.size, 4, none⟩ (.int .i64 x5)) :=
    ((((((But.of (bone W _)).trans hbut).setNew (Nat.le_refl _) _).setNew (Nat.le_refl _) _).setNew (Nat.le_refl _) _).setNew (Nat.le_refl _) _).setNew (Nat.le_refl _) _
  refine ⟨10 + x1, 10 + x1 + x2, x3, x4, x5, rfl, by unfold drawnB; omega, ?_, hB⟩
  refine ((hC5.mono (m' := m + 5) (by omega)).move ?_ (hC.row.keep hB))
  rw [Below.heap_setCell _ _ _ _ (Ne.symm hne), Below.heap_setCell _ _ _ _ (Ne.symm hne), Below.heap_setCell _ _ _ _ (Ne.symm hne), Below.heap_setCell _ _ _ _ (Ne.symm hne), Below.heap_setCell _ _ _ _ (Ne.symm hne)]

end Go.Proofs.Ytgpphkjdmonkaaa
