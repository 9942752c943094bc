/-
  The laws mark a row of their own, and find the marks again.
-/
import Derived.Test.YtgpphkjdmonkaabLawEq
namespace Go.Proofs.Ytgpphkjdmonkaab
open Go.RowKit
attribute [local go_sem ↓] Go.wp_at_zero Go.wp_at_succ

theorem take_set6 {ys : List Value} {j : Nat} (hl : j * 6 + 6 ≤ ys.length) (v0 v1 v2 v3 v4 v5 : Value) :
    ((((((ys.set (j * 6) v0).set (j * 6 + 1) v1).set (j * 6 + 2) v2).set (j * 6 + 3) v3).set (j * 6 + 4) v4).set (j * 6 + 5) v5).take ((j + 1) * 6) = ys.take (j * 6) ++ [v0, v1, v2, v3, v4, v5] := by
  apply List.ext_getElem?
  intro i
  have e6 : (j + 1) * 6 = j * 6 + 6 := by omega
  rw [e6]
  by_cases h1 : i < j * 6
  · rw [List.getElem?_take_of_lt (by omega), List.getElem?_append_left (by rw [List.length_take]; omega), List.getElem?_take_of_lt h1]
    rw [List.getElem?_set_ne (by omega), List.getElem?_set_ne (by omega), List.getElem?_set_ne (by omega), List.getElem?_set_ne (by omega), List.getElem?_set_ne (by omega), List.getElem?_set_ne (by omega)]
  · by_cases h2 : i < j * 6 + 6
    · rw [List.getElem?_take_of_lt h2, List.getElem?_append_right (by rw [List.length_take]; omega), List.length_take, Nat.min_eq_left (by omega)]
      have hi : i = j * 6 ∨ i = j * 6 + 1 ∨ i = j * 6 + 2 ∨ i = j * 6 + 3 ∨ i = j * 6 + 4 ∨ i = j * 6 + 5 := by omega
      rcases hi with rfl | rfl | rfl | rfl | rfl | rfl
      · rw [List.getElem?_set_ne (by omega), List.getElem?_set_ne (by omega), List.getElem?_set_ne (by omega), List.getElem?_set_ne (by omega), List.getElem?_set_ne (by omega), List.getElem?_set_self (by omega)]; simp
      · rw [List.getElem?_set_ne (by omega), List.getElem?_set_ne (by omega), List.getElem?_set_ne (by omega), List.getElem?_set_ne (by omega), List.getElem?_set_self (by simp; omega)]; simp
      · rw [List.getElem?_set_ne (by omega), List.getElem?_set_ne (by omega), List.getElem?_set_ne (by omega), List.getElem?_set_self (by simp; omega)]; simp
      · rw [List.getElem?_set_ne (by omega), List.getElem?_set_ne (by omega), List.getElem?_set_self (by simp; omega)]; simp
      · rw [List.getElem?_set_ne (by omega), List.getElem?_set_self (by simp; omega)]; simp
      · rw [List.getElem?_set_self (by simp; omega)]; simp
    · rw [List.getElem?_take_eq_none (by omega)]
      symm
      apply List.getElem?_eq_none
      simp [List.length_take]
      omega
/-- The marks of one element. -/
def markS (k : Int) : List Value := [.bool (k % 3 == 0), .int .i64 (k + 1), .int .i64 (k + 1 + 1), .int .i64 (k + 1 + 1 + 1), .bool ((k + 1 + 1 + 1 + 1) % 3 == 0), .bool ((k + 1 + 1 + 1 + 1 + 1) % 3 == 0)]
def marks (k : Int) : Nat → List Value
  | 0 => []
  | n + 1 => marks k n ++ markS (k + 6 * n)
theorem marks_length (k : Int) : ∀ n, (marks k n).length = n * 6
  | 0 => rfl
  | n + 1 => by rw [marks, List.length_append, marks_length k n]; simp [markS]; omega
theorem marks_at (k : Int) : ∀ (n i t : Nat), i < n → t < 6 → (marks k n)[i * 6 + t]? = (markS (k + 6 * i))[t]?
  | 0, _, _, h, _ => by omega
  | n + 1, i, t, h, ht => by
    rw [marks]
    by_cases e : i = n
    · subst e
      rw [List.getElem?_append_right (by rw [marks_length]; omega), marks_length, Nat.add_sub_cancel_left]
    · rw [List.getElem?_append_left (by rw [marks_length]; omega)]
      exact marks_at k n i t (by omega) ht

set_option maxRecDepth 100000 in
set_option maxHeartbeats 3200000 in
theorem markSaidS_any (g n cap base : Nat) (ys : List Value) (k : Int) (W : World) (hk : 0 ≤ k) (hk' : k ≤ 1000) (hn : n ≤ 1048576) (hown : W.ownsRow base 37 6 (.slice (some ⟨g, 0, none⟩) n cap) n ys) :
    Calls Try.prog 25 #[.slice (some ⟨g, 0, none⟩) n cap, .int .i64 k] W
      fun e w' => e = .returned (.int .i64 (k + 6 * n)) ∧ w'.ownsRow base 37 6 (.slice (some ⟨g, 0, none⟩) n cap) n (marks k n) ∧ But g W w' := by
  go_enter Try.func25, Try.ntmps25
  go_wp2
  go_loopw [1, 5] (fun sk si wr => ∃ (j : Nat) (zs : List Value), j ≤ n ∧ si = .int .i64 j ∧ sk = .int .i64 (k + 6 * j) ∧ wr.ownsRow base 37 6 (.slice (some ⟨g, 0, none⟩) n cap) n zs ∧ Hid (zs.take (j * 6) = marks k j) ∧ But g W wr) (fun _ si _ => n - (intOf si).toNat)
  case atStart => exact ⟨0, ys, Nat.zero_le _, rfl, by simp, hown, by show _ = _; simp [marks], But.refl _ _⟩
  case round =>
    obtain ⟨j, zs, hj, rfl, rfl, hownr, HZ, hB⟩ := hrel
    have hzl : zs.length = n * 6 := hownr.1
    by_cases hlt : j < n
    · have i0 : (0 : Int) ≤ (j : Int) ∧ (j : Int) < (n : Int) := by omega
      have q0 : wr.cell? ⟨g, j * 6, none⟩ = some (zs[j * 6]'(by omega)) := by rw [hownr.cellAt _ (by omega)]; exact List.getElem?_eq_getElem _
      have q1 : wr.cell? ⟨g, j * 6 + 1, none⟩ = some (zs[j * 6 + 1]'(by omega)) := by rw [hownr.cellAt _ (by omega)]; exact List.getElem?_eq_getElem _
      have q2 : wr.cell? ⟨g, j * 6 + 2, none⟩ = some (zs[j * 6 + 2]'(by omega)) := by rw [hownr.cellAt _ (by omega)]; exact List.getElem?_eq_getElem _
      have q3 : wr.cell? ⟨g, j * 6 + 3, none⟩ = some (zs[j * 6 + 3]'(by omega)) := by rw [hownr.cellAt _ (by omega)]; exact List.getElem?_eq_getElem _
      have q4 : wr.cell? ⟨g, j * 6 + 4, none⟩ = some (zs[j * 6 + 4]'(by omega)) := by rw [hownr.cellAt _ (by omega)]; exact List.getElem?_eq_getElem _
      have q5 : wr.cell? ⟨g, j * 6 + 5, none⟩ = some (zs[j * 6 + 5]'(by omega)) := by rw [hownr.cellAt _ (by omega)]; exact List.getElem?_eq_getElem _
      have qf : ∀ o, wr.frozen? ⟨g, o, none⟩ = false := fun o => hownr.frozenAt o
      have O6 := ((((((hownr.stored (j * 6) (.bool ((k + 6 * j) % 3 == 0))).1.stored (j * 6 + 1) (.int .i64 (k + 6 * j + 1))).1.stored (j * 6 + 2) (.int .i64 (k + 6 * j + 1 + 1))).1.stored (j * 6 + 3) (.int .i64 (k + 6 * j + 1 + 1 + 1))).1.stored (j * 6 + 4) (.bool ((k + 6 * j + 1 + 1 + 1 + 1) % 3 == 0))).1.stored (j * 6 + 5) (.bool ((k + 6 * j + 1 + 1 + 1 + 1 + 1) % 3 == 0))).1
      have HZ2 := hiddenY (take_set6 (ys := zs) (j := j) (by omega) (.bool ((k + 6 * j) % 3 == 0)) (.int .i64 (k + 6 * j + 1)) (.int .i64 (k + 6 * j + 1 + 1)) (.int .i64 (k + 6 * j + 1 + 1 + 1)) (.bool ((k + 6 * j + 1 + 1 + 1 + 1) % 3 == 0)) (.bool ((k + 6 * j + 1 + 1 + 1 + 1 + 1) % 3 == 0)))
      have HO6 := hiddenY O6
      clear O6
      go_wp2_with fail
      go_roundw
      case rel => exact ⟨j + 1, _, by omega, by go_num, congrArg _ (by omega), HO6.out, by show _ = _; rw [HZ2.out, HZ.out]; rfl, (((((hB.set _ _).set _ _).set _ _).set _ _).set _ _).set _ _⟩
      case measure => simp [intOf]; omega
    · have ej : j = n := by omega
      have hfin : zs = marks k n := by
        have := HZ.out
        rw [ej, List.take_of_length_le (by omega)] at this
        exact this
      rw [hfin] at hownr
      go_wp2
      go_ret
      exact ⟨ret_int (by omega), hownr, hB⟩
set_option maxRecDepth 100000 in
set_option maxHeartbeats 3200000 in
theorem heldSaidS_any (g n cap base : Nat) (k : Int) (W : World) (hk : 0 ≤ k) (hk' : k ≤ 1000) (hn : n ≤ 1048576) (hown : W.ownsRow base 37 6 (.slice (some ⟨g, 0, none⟩) n cap) n (marks k n)) :
    Calls Try.prog 26 #[.slice (some ⟨g, 0, none⟩) n cap, .int .i64 k] W fun e w' => e = .returned (.int .i64 (k + 6 * n)) ∧ W = w' := by
  go_enter Try.func26, Try.ntmps26
  go_wp2
  go_loop [1, 5] (fun sk si => ∃ j : Nat, j ≤ n ∧ si = .int .i64 j ∧ sk = .int .i64 (k + 6 * j)) (fun _ si => n - (intOf si).toNat)
  case atStart => exact ⟨0, Nat.zero_le _, rfl, by simp⟩
  case round =>
    obtain ⟨j, hj, rfl, rfl⟩ := hrel
    by_cases hlt : j < n
    · have i0 : (0 : Int) ≤ (j : Int) ∧ (j : Int) < (n : Int) := by omega
      have q0 : W.cell? ⟨g, j * 6, none⟩ = some (.bool ((k + 6 * j) % 3 == 0)) := by rw [hown.cellAt _ (by omega)]; exact marks_at k n j 0 hlt (by omega)
      have q1 : W.cell? ⟨g, j * 6 + 1, none⟩ = some (.int .i64 (k + 6 * j + 1)) := by rw [hown.cellAt _ (by omega)]; exact marks_at k n j 1 hlt (by omega)
      have q2 : W.cell? ⟨g, j * 6 + 2, none⟩ = some (.int .i64 (k + 6 * j + 1 + 1)) := by rw [hown.cellAt _ (by omega)]; exact marks_at k n j 2 hlt (by omega)
      have q2' : W.cell? ⟨g, j * 6 + 1 + 1, none⟩ = some (.int .i64 (k + 6 * j + 1 + 1)) := q2
      have q3 : W.cell? ⟨g, j * 6 + 3, none⟩ = some (.int .i64 (k + 6 * j + 1 + 1 + 1)) := by rw [hown.cellAt _ (by omega)]; exact marks_at k n j 3 hlt (by omega)
      have q4 : W.cell? ⟨g, j * 6 + 4, none⟩ = some (.bool ((k + 6 * j + 1 + 1 + 1 + 1) % 3 == 0)) := by rw [hown.cellAt _ (by omega)]; exact marks_at k n j 4 hlt (by omega)
      have q5 : W.cell? ⟨g, j * 6 + 5, none⟩ = some (.bool ((k + 6 * j + 1 + 1 + 1 + 1 + 1) % 3 == 0)) := by rw [hown.cellAt _ (by omega)]; exact marks_at k n j 5 hlt (by omega)
      go_wp2_with fail
      go_round
      case rel => exact ⟨j + 1, by omega, by go_num, congrArg _ (by omega)⟩
      case measure => simp [intOf]; omega
    · go_wp2
      go_ret
      exact ⟨ret_int (by omega), rfl⟩
set_option maxRecDepth 100000 in
set_option maxHeartbeats 3200000 in
theorem markFeltS_any (g n cap base : Nat) (ys : List Value) (k : Int) (W : World) (hk : 0 ≤ k) (hk' : k ≤ 1000) (hn : n ≤ 1048576) (hown : W.ownsRow base 25 5 (.slice (some ⟨g, 0, none⟩) n cap) n ys) :
    Calls Try.prog 24 #[.slice (some ⟨g, 0, none⟩) n cap, .int .i64 k] W fun e w' => e = .returned (.int .i64 (k + 5 * n)) ∧ But g W w' := by
  go_enter Try.func24, Try.ntmps24
  go_wp2
  go_loopw [1, 5] (fun sk si wr => ∃ (j : Nat) (zs : List Value), j ≤ n ∧ si = .int .i64 j ∧ sk = .int .i64 (k + 5 * j) ∧ wr.ownsRow base 25 5 (.slice (some ⟨g, 0, none⟩) n cap) n zs ∧ But g W wr) (fun _ si _ => n - (intOf si).toNat)
  case atStart => exact ⟨0, ys, Nat.zero_le _, rfl, by simp, hown, But.refl _ _⟩
  case round =>
    obtain ⟨j, zs, hj, rfl, rfl, hownr, hB⟩ := hrel
    have hzl : zs.length = n * 5 := hownr.1
    by_cases hlt : j < n
    · have i0 : (0 : Int) ≤ (j : Int) ∧ (j : Int) < (n : Int) := by omega
      have q0 : wr.cell? ⟨g, j * 5, none⟩ = some (zs[j * 5]'(by omega)) := by rw [hownr.cellAt _ (by omega)]; exact List.getElem?_eq_getElem _
      have q1 : wr.cell? ⟨g, j * 5 + 1, none⟩ = some (zs[j * 5 + 1]'(by omega)) := by rw [hownr.cellAt _ (by omega)]; exact List.getElem?_eq_getElem _
      have q2 : wr.cell? ⟨g, j * 5 + 2, none⟩ = some (zs[j * 5 + 2]'(by omega)) := by rw [hownr.cellAt _ (by omega)]; exact List.getElem?_eq_getElem _
      have q3 : wr.cell? ⟨g, j * 5 + 3, none⟩ = some (zs[j * 5 + 3]'(by omega)) := by rw [hownr.cellAt _ (by omega)]; exact List.getElem?_eq_getElem _
      have q4 : wr.cell? ⟨g, j * 5 + 4, none⟩ = some (zs[j * 5 + 4]'(by omega)) := by rw [hownr.cellAt _ (by omega)]; exact List.getElem?_eq_getElem _
      have qf : ∀ o, wr.frozen? ⟨g, o, none⟩ = false := fun o => hownr.frozenAt o
      have HO5 := hiddenY (((((hownr.stored (j * 5) (.int .i64 (k + 5 * j))).1.stored (j * 5 + 1) (.int .i64 (k + 5 * j + 1))).1.stored (j * 5 + 2) (.int .i64 (k + 5 * j + 1 + 1))).1.stored (j * 5 + 3) (.int .i64 (k + 5 * j + 1 + 1 + 1))).1.stored (j * 5 + 4) (.bool ((k + 5 * j + 1 + 1 + 1 + 1) % 3 == 0))).1
      go_wp2_with fail
      go_roundw
      case rel => exact ⟨j + 1, _, by omega, by go_num, congrArg _ (by omega), HO5.out, ((((hB.set _ _).set _ _).set _ _).set _ _).set _ _⟩
      case measure => simp [intOf]; omega
    · have ej : j = n := by omega
      go_wp2
      go_ret
      exact ⟨ret_int (by omega), hB⟩

end Go.Proofs.Ytgpphkjdmonkaab
