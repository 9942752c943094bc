/-
  The law of the curves: greatest speeds by one, curves that rise.
-/
import Derived.Test.YtgpphkjdmonkaaaPermit
import Derived.Test.YtgpphkjdmonkaaaDrives
namespace Go.Proofs.Ytgpphkjdmonkaaa
open Go.RowKit
attribute [local go_sem ↓] Go.wp_at_zero Go.wp_at_succ

set_option maxHeartbeats 800000 in
theorem wByte_any {a : Option Addr} {len cap : Nat} {W : World} (i : Int) (hin : Came a len W) (h0 : 0 ≤ i) (h1 : i ≤ 1000) :
    Calls Try.prog 18 #[.slice a len cap, .int .i64 i] W fun e W' => ∃ x : Int, e = .returned (.int .i64 x) ∧ 0 ≤ x ∧ x ≤ 255 ∧ W = W' := by
  obtain ⟨hs, hin⟩ := hin
  by_cases hz : len = 0
  · subst hz
    go_enter Try.func18, Try.ntmps18
    go_wp2
    go_ret
    exact ⟨0, rfl, by omega, by omega, rfl⟩
  · rcases hin with hin | ⟨b, off, rfl, hlt, hb⟩
    · exact absurd hin hz
    · have hm0 : 0 ≤ i % (len : Int) := Int.emod_nonneg _ (by omega)
      have hm1 : i % (len : Int) < len := Int.emod_lt_of_pos _ (by omega)
      obtain ⟨z, z0, z1, hc⟩ := hb (i % (len : Int)).toNat (by omega)
      have hne : ((len : Int) == 0) = false := by simp; omega
      have hne2 : ¬ (len : Int) = 0 := by omega
      clear hb
      go_enter Try.func18, Try.ntmps18
      go_wp2
      go_ret
      exact ⟨z, rfl, z0, z1, rfl⟩

theorem worstF_in {s h d a k v : Int} (hok : okB s h d a k = true) (h0 : 0 ≤ v) (h1 : v ≤ 10000) : worstF s h d a k v = crv (d + 1) a h v := by
  have : inB v 0 10000 = true := inB_iff.2 ⟨h0, h1⟩
  simp [worstF, hok, this, worstP, crv]
theorem gentleF_in {s h d a k v : Int} (hok : okB s h d a k = true) (h0 : 0 ≤ v) (h1 : v ≤ 10000) : gentleF s h d a k v = crv (d + k + 1) 0 s v := by
  have : inB v 0 10000 = true := inB_iff.2 ⟨h0, h1⟩
  simp [gentleF, hok, this, gentleP, crv]

end Go.Proofs.Ytgpphkjdmonkaaa
