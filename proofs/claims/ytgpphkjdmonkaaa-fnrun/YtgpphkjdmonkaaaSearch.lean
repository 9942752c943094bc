/-
  The program's search by halves.
-/
import Derived.Test.YtgpphkjdmonkaaaSpan
import Derived.Test.YtgpphkjdmonkaaaTops
import Derived.FnLit
namespace Go.Proofs.Ytgpphkjdmonkaaa
open Go.RowKit

set_option maxHeartbeats 800000 in
theorem greatest_hard (most : Int) (sp : Value) (p : Int → Bool) (w : World) (hm : 0 ≤ most) (hm' : most ≤ 10000)
    (hcall : ∀ (v : Int) (w : World), 0 ≤ v → v ≤ 10000 → Calls Try.prog 53 #[sp, .int .i64 v] w fun e w' => e = .returned (.bool (p v)) ∧ Below w.heap.size w w') :
    Calls Try.prog 48 #[.int .i64 most, .func (.func 53) #[sp] #[]] w fun e w' => ∃ r, e = .returned (.int .i64 r) ∧ Top most p r ∧ Below w.heap.size w w' := by
  go_enter Try.func48, Try.ntmps48
  go_wp2
  go_loopw [5, 6] (fun sl sh wr => ∃ l h : Int, -1 ≤ l ∧ l ≤ h ∧ h ≤ most ∧ sl = .int .i64 l ∧ sh = .int .i64 h ∧ Hid (0 ≤ l → p l = true) ∧ Hid (h < most → p (h + 1) = false) ∧ Below w.heap.size w wr) (fun sl sh _ => (intOf sh - intOf sl).toNat)
  case atStart => exact ⟨-1, most, by omega, by omega, by omega, rfl, rfl, fun h => by omega, fun h => by omega, Below.refl _ _⟩
  case round =>
    obtain ⟨l, h, h1, h2, h3, rfl, rfl, HL, HH, hB⟩ := hrel
    by_cases hlt : l < h
    · rcases Bool.eq_false_or_eq_true (p (h - (h - l) / 2)) with hp | hp
      · go_wp2_with fail
        refine (hcall _ _ (by omega) (by omega)).mono ?_; rintro e w1 ⟨rfl, hb1⟩
        go_wp2
        go_roundw
        case rel => exact ⟨h - (h - l) / 2, h, by omega, by omega, by omega, rfl, rfl, fun _ => hp, HH, bstep hB hb1⟩
        case measure => simp [intOf]; omega
      · have HP : Hid (h - (h - l) / 2 - 1 < most → p (h - (h - l) / 2 - 1 + 1) = false) := fun _ => by
          rw [Int.sub_add_cancel]; exact hp
        go_wp2_with fail
        refine (hcall _ _ (by omega) (by omega)).mono ?_; rintro e w1 ⟨rfl, hb1⟩
        go_wp2
        go_roundw
        case rel => exact ⟨l, h - (h - l) / 2 - 1, by omega, by omega, by omega, rfl, rfl, HL, HP, bstep hB hb1⟩
        case measure => simp [intOf]; omega
    · have e : l = h := by omega
      subst e
      go_wp2
      go_ret
      exact ⟨l, rfl, ⟨h1, h3, HL.out, HH.out⟩, hB⟩

set_option maxHeartbeats 800000 in
theorem greatest_both (most : Int) (sp : Value) (p : Int → Bool) (w : World) (hm : 0 ≤ most) (hm' : most ≤ 10000)
    (hcall : ∀ (v : Int) (w : World), 0 ≤ v → v ≤ 10000 → Calls Try.prog 50 #[sp, .int .i64 v] w fun e w' => e = .returned (.bool (p v)) ∧ Below w.heap.size w w') :
    Calls Try.prog 48 #[.int .i64 most, .func (.func 50) #[sp] #[]] w fun e w' => ∃ r, e = .returned (.int .i64 r) ∧ Top most p r ∧ Below w.heap.size w w' := by
  go_enter Try.func48, Try.ntmps48
  go_wp2
  go_loopw [5, 6] (fun sl sh wr => ∃ l h : Int, -1 ≤ l ∧ l ≤ h ∧ h ≤ most ∧ sl = .int .i64 l ∧ sh = .int .i64 h ∧ Hid (0 ≤ l → p l = true) ∧ Hid (h < most → p (h + 1) = false) ∧ Below w.heap.size w wr) (fun sl sh _ => (intOf sh - intOf sl).toNat)
  case atStart => exact ⟨-1, most, by omega, by omega, by omega, rfl, rfl, fun h => by omega, fun h => by omega, Below.refl _ _⟩
  case round =>
    obtain ⟨l, h, h1, h2, h3, rfl, rfl, HL, HH, hB⟩ := hrel
    by_cases hlt : l < h
    · rcases Bool.eq_false_or_eq_true (p (h - (h - l) / 2)) with hp | hp
      · go_wp2_with fail
        refine (hcall _ _ (by omega) (by omega)).mono ?_; rintro e w1 ⟨rfl, hb1⟩
        go_wp2
        go_roundw
        case rel => exact ⟨h - (h - l) / 2, h, by omega, by omega, by omega, rfl, rfl, fun _ => hp, HH, bstep hB hb1⟩
        case measure => simp [intOf]; omega
      · have HP : Hid (h - (h - l) / 2 - 1 < most → p (h - (h - l) / 2 - 1 + 1) = false) := fun _ => by
          rw [Int.sub_add_cancel]; exact hp
        go_wp2_with fail
        refine (hcall _ _ (by omega) (by omega)).mono ?_; rintro e w1 ⟨rfl, hb1⟩
        go_wp2
        go_roundw
        case rel => exact ⟨l, h - (h - l) / 2 - 1, by omega, by omega, by omega, rfl, rfl, HL, HP, bstep hB hb1⟩
        case measure => simp [intOf]; omega
    · have e : l = h := by omega
      subst e
      go_wp2
      go_ret
      exact ⟨l, rfl, ⟨h1, h3, HL.out, HH.out⟩, hB⟩

end Go.Proofs.Ytgpphkjdmonkaaa
