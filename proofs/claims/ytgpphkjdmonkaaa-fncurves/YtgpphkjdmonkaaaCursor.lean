/-
  The model's cursor over bytes: what it is told, what it yields.
-/
import Derived.Test.YtgpphkjdmonkaaaFrames
import Derived.Deep.RegionHeld3
import Derived.Deep.DrawnRows
import Derived.Deep.QuietTactic
import Derived.BigQuiet
namespace Go.Proofs.Ytgpphkjdmonkaaa
open Go.RowKit
attribute [local go_sem ↓] Go.wp_at_zero Go.wp_at_succ

/-- The bytes lie there, beside block C. -/
def Bytes (C : Nat) (a : Option Addr) (len : Nat) (W : World) : Prop :=
  len = 0 ∨ ∃ b off, a = some ⟨b, off, none⟩ ∧ b ≠ C ∧ b < W.heap.size ∧ ∀ i, i < len → ∃ z : Int, 0 ≤ z ∧ z ≤ 255 ∧ W.cell? ⟨b, off + i, none⟩ = some (.int .u8 z)
/-- The cursor lies in block C; it has gone at most m steps. -/
structure Cur (C : Nat) (a : Option Addr) (len cap : Nat) (m : Int) (W : World) : Prop where
  lt : C < W.heap.size
  small : len ≤ 140737488355328
  code : W.cell? ⟨C, 0, none⟩ = some (.slice a len cap)
  at_ : ∃ t : Int, 0 ≤ t ∧ t ≤ m ∧ W.cell? ⟨C, 1, none⟩ = some (.int .i64 t)
  seed : ∃ s : Int, W.cell? ⟨C, 2, none⟩ = some (.int .u64 s)
  fr1 : W.frozen? ⟨C, 1, none⟩ = false
  fr2 : W.frozen? ⟨C, 2, none⟩ = false
  row : Bytes C a len W

theorem Bytes.keep {C : Nat} {a : Option Addr} {len : Nat} {W W' : World} (h : Bytes C a len W) (hb : But C W W') : Bytes C a len W' := by
  rcases h with h | ⟨b, off, e, hC, hl, hz⟩
  · exact .inl h
  · refine .inr ⟨b, off, e, hC, Nat.lt_of_lt_of_le hl hb.size, fun i hi => ?_⟩
    obtain ⟨z, h0, h1, hc⟩ := hz i hi
    exact ⟨z, h0, h1, (hb.cell hl hC).trans hc⟩
theorem Cur.mono {C : Nat} {a : Option Addr} {len cap : Nat} {m m' : Int} {W : World} (h : Cur C a len cap m W) (hm : m ≤ m') : Cur C a len cap m' W := by
  obtain ⟨t, h0, h1, h2⟩ := h.at_
  exact ⟨h.lt, h.small, h.code, ⟨t, h0, by omega, h2⟩, h.seed, h.fr1, h.fr2, h.row⟩
/-- Whatever leaves block C and what was there as it was leaves the cursor. -/
theorem Cur.below {C : Nat} {a : Option Addr} {len cap : Nat} {m : Int} {W W' : World} (h : Cur C a len cap m W) (hb : Below W.heap.size W W') : Cur C a len cap m W' := by
  obtain ⟨hc, hf⟩ := bcell hb
  obtain ⟨t, h0, h1, h2⟩ := h.at_
  obtain ⟨s, h3⟩ := h.seed
  exact ⟨Nat.lt_of_lt_of_le h.lt hb.size, h.small, (hc _ _ h.lt).trans h.code, ⟨t, h0, h1, (hc _ _ h.lt).trans h2⟩, ⟨s, (hc _ _ h.lt).trans h3⟩, (hf _ _ h.lt).trans h.fr1, (hf _ _ h.lt).trans h.fr2, h.row.keep (But.of hb)⟩
theorem Cur.drewN {C : Nat} {a : Option Addr} {len cap : Nat} {m : Int} {W : World} (h : Cur C a len cap m W) (n : Nat) : Cur C a len cap m (W.drewN n) := ⟨h.lt, h.small, h.code, h.at_, h.seed, h.fr1, h.fr2, h.row⟩
theorem Cur.drew {C : Nat} {a : Option Addr} {len cap : Nat} {m : Int} {W : World} (h : Cur C a len cap m W) : Cur C a len cap m W.drew := ⟨h.lt, h.small, h.code, h.at_, h.seed, h.fr1, h.fr2, h.row⟩
theorem Cur.set1 {C : Nat} {a : Option Addr} {len cap : Nat} {m m' : Int} {W : World} (h : Cur C a len cap m W) (t : Int) (h0 : 0 ≤ t) (h1 : t ≤ m') : Cur C a len cap m' (W.setCell ⟨C, 1, none⟩ (.int .i64 t)) := by
  obtain ⟨t0, _, _, h2⟩ := h.at_
  obtain ⟨s, h3⟩ := h.seed
  refine ⟨by have := h.lt; simpa [World.setCell] using this, h.small, ?_, ⟨t, h0, h1, World.cell?_setCell_same _ _ _ h2⟩, ⟨s, ?_⟩, by simpa using h.fr1, by simpa using h.fr2, h.row.keep ((But.refl C W).set 1 _)⟩
  · rw [World.cell?_setCell_other _ _ _ _ (by simp)]; exact h.code
  · rw [World.cell?_setCell_other _ _ _ _ (by simp)]; exact h3
theorem Cur.set2 {C : Nat} {a : Option Addr} {len cap : Nat} {m : Int} {W : World} (h : Cur C a len cap m W) (s : Int) : Cur C a len cap m (W.setCell ⟨C, 2, none⟩ (.int .u64 s)) := by
  obtain ⟨t, h0, h1, h2⟩ := h.at_
  obtain ⟨s0, h3⟩ := h.seed
  refine ⟨by have := h.lt; simpa [World.setCell] using this, h.small, ?_, ⟨t, h0, h1, ?_⟩, ⟨s, World.cell?_setCell_same _ _ _ h3⟩, by simpa using h.fr1, by simpa using h.fr2, h.row.keep ((But.refl C W).set 2 _)⟩
  · rw [World.cell?_setCell_other _ _ _ _ (by simp)]; exact h.code
  · rw [World.cell?_setCell_other _ _ _ _ (by simp)]; exact h2

theorem u64_range (x : Int) : 0 ≤ IntKind.u64.wrap x ∧ IntKind.u64.wrap x < 18446744073709551616 := by
  have e : IntKind.u64.wrap x = x % 18446744073709551616 := by simp [IntKind.wrap, IntKind.bits, IntKind.signed]
  rw [e]; omega
theorem low8 (x : Int) : 0 ≤ wrap64 (bits .and .u64 (IntKind.u64.wrap x / 1099511627776) 255) ∧ wrap64 (bits .and .u64 (IntKind.u64.wrap x / 1099511627776) 255) ≤ 255 := by
  have hr := u64_range x
  have hq : 0 ≤ IntKind.u64.wrap x / 1099511627776 ∧ IntKind.u64.wrap x / 1099511627776 < 18446744073709551616 := by omega
  have hb := u64_and (IntKind.u64.wrap x / 1099511627776) 255 hq.1 hq.2 (by omega) (by omega)
  have hl : (IntKind.u64.wrap x / 1099511627776).toNat &&& (255 : Int).toNat ≤ 255 := Nat.and_le_right
  rw [hb]
  generalize (IntKind.u64.wrap x / 1099511627776).toNat &&& (255 : Int).toNat = n at *
  have e : wrap64 (n : Int) = n := IntWalk.wrap64_in _ ⟨by omega, by omega⟩
  rw [e]; omega

set_option maxHeartbeats 1600000 in
theorem next_any {C : Nat} {a : Option Addr} {len cap : Nat} {m : Int} {W : World} (hC : Cur C a len cap m W) (hm : m ≤ 1000000) :
    Calls Try.prog 65 #[.pointer (some ⟨C, 0, none⟩)] W fun e W' => ∃ x : Int, e = .returned (.int .i64 x) ∧ 0 ≤ x ∧ x ≤ 255 ∧ Cur C a len cap (m + 1) W' ∧ But C W W' := by
  have hC' := hC
  obtain ⟨hlt, hsm, hcode, ⟨t, ht, htm, hat⟩, ⟨s, hseed⟩, hf1, hf2, hrow⟩ := hC'
  by_cases hin : t < (len : Int)
  · have hrow' := hrow
    rcases hrow' with h0 | ⟨b, off, rfl, hbC, hblt, hz⟩
    · omega
    · obtain ⟨z, hz0, hz1, hzc⟩ := hz t.toNat (by omega)
      clear hz hrow
      go_enter Try.func65, Try.ntmps65
      go_wp2
      go_quiet (fail)
      go_wp2
      go_quiet (fail)
      go_wp2
      go_ret
      refine ⟨z, rfl, hz0, hz1, ?_, ?_⟩
      · exact Cur.set2 (Cur.set1 (hC.drewN _) (t + 1) (by omega) (by omega)) _
      · exact (((But.refl C W).drewN _).set 1 _).set 2 _
  · clear hrow
    go_enter Try.func65, Try.ntmps65
    go_wp2
    go_quiet (fail)
    go_wp2
    go_ret
    refine ⟨_, rfl, (low8 _).1, (low8 _).2, ?_, ?_⟩
    · exact (Cur.set1 (Cur.set2 (hC.drewN _) _) _ (by omega) (by omega))
    · exact (((But.refl C W).drewN _).set 2 _).set 1 _

set_option maxHeartbeats 400000 in
theorem pick_any {C : Nat} {a : Option Addr} {len cap : Nat} {m : Int} {W : World} (n : Int) (hC : Cur C a len cap m W) (hm : m ≤ 1000000) (hn : 2 ≤ n) (hn' : n ≤ 200) :
    Calls Try.prog 34 #[.pointer (some ⟨C, 0, none⟩), .int .i64 n] W fun e W' => ∃ x : Int, e = .returned (.int .i64 x) ∧ 0 ≤ x ∧ x < n ∧ Cur C a len cap (m + 1) W' ∧ But C W W' := by
  have hne : ¬ n = 0 := by omega
  go_enter Try.func34, Try.ntmps34
  go_wp2_with fail
  refine (next_any hC hm).mono ?_; rintro e w1 ⟨x, rfl, hx0, hx1, hC1, hb1⟩
  go_wp2
  go_ret
  exact ⟨x % n, rfl, Int.emod_nonneg _ hne, Int.emod_lt_of_pos _ (by omega), hC1, hb1⟩

set_option maxHeartbeats 400000 in
theorem wide_any {C : Nat} {a : Option Addr} {len cap : Nat} {m : Int} {W : World} (n : Int) (hC : Cur C a len cap m W) (hm : m ≤ 900000) (hn : 2 ≤ n) (hn' : n ≤ 1000000) :
    Calls Try.prog 63 #[.pointer (some ⟨C, 0, none⟩), .int .i64 n] W fun e W' => ∃ x : Int, e = .returned (.int .i64 x) ∧ 0 ≤ x ∧ x < n ∧ Cur C a len cap (m + 1 + 1) W' ∧ But C W W' := by
  have hne : ¬ n = 0 := by omega
  go_enter Try.func63, Try.ntmps63
  go_wp2_with fail
  refine (next_any hC (by omega)).mono ?_; rintro e w1 ⟨x, rfl, hx0, hx1, hC1, hb1⟩
  go_wp2_with fail
  refine (next_any hC1 (by omega)).mono ?_; rintro e w2 ⟨y, rfl, hy0, hy1, hC2, hb2⟩
  go_wp2
  go_ret
  exact ⟨(x * 256 + y) % n, rfl, Int.emod_nonneg _ hne, Int.emod_lt_of_pos _ (by omega), hC2, hb1.trans hb2⟩

end Go.Proofs.Ytgpphkjdmonkaaa
