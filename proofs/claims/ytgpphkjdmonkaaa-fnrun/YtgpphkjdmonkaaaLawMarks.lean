/-
  The laws mark a row of their own, and find the marks again.
-/
import Derived.Test.YtgpphkjdmonkaaaLawEq
namespace Go.Proofs.Ytgpphkjdmonkaaa
open Go.RowKit
attribute [local go_sem ↓] Go.wp_at_zero Go.wp_at_succ

theorem take_set6 {ys : List Value} {j : Nat} (hl : j * 6 + 6 ≤ ys.length) (v0 v1 v2 v3 v4 v5 : Value) :
    ((((((ys.set (j * 6) v0).set (j * 6 + 1) v1).set (j * 6 + 2) v2).set (j * 6 + 3) v3).set (j * 6 + 4) v4).set (j * 6 + 5) v5).take ((j + 1) * 6) = ys.take (j * 6) ++ [v0, v1, v2, v3, v4, v5] := by
  apply List.ext_getElem?
  intro i
  have e6 : (j + 1) * 6 = j * 6 + 6 := by omega
  rw [e6]
  by_cases h1 : i < j * 6
  · rw [List.getElem?_take_of_lt (by omega), List.getElem?_append_left (by rw [List.length_take]; omega), List.getElem?_take_of_lt h1]
    rw [List.getElem?_set_ne (by omega), List.getElem?_set_ne (by omega), List.getElem?_set_ne (by omega), List.getElem?_set_ne (by omega), List.getElem?_set_ne (by omega), List.getElem?_set_ne (by omega)]
  · by_cases h2 : i < j * 6 + 6
    · rw [List.getElem?_take_of_lt h2, List.getElem?_append_right (by rw [List.length_take]; omega), List.length_take, Nat.min_eq_left (by omega)]
      have hi : i = j * 6 ∨ i = j * 6 + 1 ∨ i = j * 6 + 2 ∨ i = j * 6 + 3 ∨ i = j * 6 + 4 ∨ i = j * 6 + 5 := by omega
      rcases hi with rfl | rfl | rfl | rfl | rfl | rfl
      · rw [List.getElem?_set_ne (by omega), List.getElem?_set_ne (by omega), List.getElem?_set_ne (by omega), List.getElem?_set_ne (by omega), List.getElem?_set_ne (by omega), List.getElem?_set_self (by omega)]; simp
      · rw [List.getElem?_set_ne (by omega), List.getElem?_set_ne (by omega), List.getElem?_set_ne (by omega), List.getElem?_set_ne (by omega), List.getElem?_set_self (by simp; omega)]; simp
      · rw [List.getElem?_set_ne (by omega), List.getElem?_set_ne (by omega), List.getElem?_set_ne (by omega), List.getElem?_set_self (by simp; omega)]; simp
      · rw [List.getElem?_set_ne (by omega), List.getElem?_set_ne (by omega), List.getElem?_set_self (by simp; omega)]; simp
      · rw [List.getElem?_set_ne (by omega), List.getElem?_set_self (by simp; omega)]; simp
      · rw [List.getElem?_set_self (by simp; omega)]; simp
    · rw [List.getElem?_take_eq_none (by omega)]
      symm
      apply List.getElem?_eq_none
      simp [List.length_take]
      omega
/-- The marks of one element. -/
def markS (k : Int) : List Value := [.bool (k % 3 == 0), .int .i64 (k + 1), .int .i64 (k + 1 + 1), .int .i64 (k + 1 + 1 + 1), .bool ((k + 1 + 1 + 1 + 1) % 3 == 0), .bool ((k + 1 + 1 + 1 + 1 + 1) % 3 == 0)]
def marks (k : Int) : Nat → List Value
  | 0 => []
  | n + 1 => marks k n ++ markS (k + 6 * n)
theorem marks_length (k : Int) : ∀ n, (marks k n).length = n * 6
  | 0 => rfl
  | n + 1 => by rw [marks, List.length_append, marks_length k n]; simp [markS]; omega
theorem marks_at (k : Int) : ∀ (n i t : Nat), i < n → t < 6 → (marks k n)[i * 6 + t]? = (markS (k + 6 * i))[t]?
  | 0, _, _, h, _ => by omega
  | n + 1, i, t, h, ht => by
    rw [marks]
    by_cases e : i = n
    · subst e
      rw [List.getElem?_append_right (by rw [marks_length]; omega), marks_length, Nat.add_sub_cancel_left]
    · rw [List.getElem?_append_left (by rw [marks_length]; omega)]
      exact marks_at k n i t (by omega) ht


end Go.Proofs.Ytgpphkjdmonkaaa
