/-
  The plain mathematics of greatest speeds: with more speed no less room is needed; one greatest number alone.
-/
import Derived.Test.YtgpphkjdmonkaaaPlain
namespace Go.Proofs.Ytgpphkjdmonkaaa

theorem brk_up {b v : Int} (hb : 0 < b) (hv : 0 ≤ v) : brk b v ≤ brk b (v + 1) := by
  have n0 : 0 ≤ v / b := Int.ediv_nonneg hv (by omega)
  have m1 := Int.mul_ediv_add_emod v b
  have m2 := Int.emod_nonneg v (b := b) (by omega)
  have m3 := Int.emod_lt_of_pos v hb
  by_cases hc : v % b = b - 1
  · have hq : (v + 1) / b = v / b + 1 := by
      have e : v + 1 = (v / b + 1) * b := by rw [Int.add_mul, Int.mul_comm (v / b)]; omega
      rw [e, Int.mul_ediv_cancel _ (by omega)]
    unfold brk
    rw [hq]
    generalize hn : v / b = n at *
    obtain ⟨T, hT, e⟩ := half_exact b n
    obtain ⟨T', hT', e'⟩ := half_exact b (n + 1)
    rw [e, e']
    have h : T' = T + (n + 1) := by
      have : (n + 1) * (n + 1 + 1) = n * (n + 1) + 2 * (n + 1) := by grind
      omega
    have e3 : v + 1 = b * n + b := by omega
    have e4 : (n + 1) * (v + 1) = n * v + n + (v + 1) := by grind
    have e5 : b * T' = b * T + (b * n + b) := by rw [h]; grind
    rw [e4, e5]
    omega
  · have hq : (v + 1) / b = v / b := by
      have e : v + 1 = (v % b + 1) + b * (v / b) := by omega
      rw [e, Int.add_mul_ediv_left _ _ (by omega), Int.ediv_eq_zero_of_lt (by omega) (by omega)]
      omega
    unfold brk
    rw [hq]
    have := Int.mul_add (v / b) v 1
    omega
theorem up_all (f : Int → Int) (h : ∀ v, 0 ≤ v → f v ≤ f (v + 1)) {a b : Int} (ha : 0 ≤ a) (hab : a ≤ b) : f a ≤ f b := by
  have key : ∀ n : Nat, f a ≤ f (a + n) := by
    intro n
    induction n with
    | zero => simp
    | succ n ih =>
      have := h (a + n) (by omega)
      have e : a + ((n + 1 : Nat) : Int) = a + n + 1 := by omega
      rw [e]
      omega
  have := key (b - a).toNat
  have e : a + ((b - a).toNat : Int) = b := by omega
  rwa [e] at this
/-- With more speed no less room is needed. -/
theorem crv_up {t g b : Int} (ht : 0 ≤ t) (hg : 0 ≤ g) (hb : 1 ≤ b) {x y : Int} (hx : 0 ≤ x) (hxy : x ≤ y) : unb t g x + brk b (x + t * g) ≤ unb t g y + brk b (y + t * g) := by
  have h1 : unb t g x ≤ unb t g y := by
    have := Int.mul_le_mul_of_nonneg_left hxy ht
    unfold unb
    omega
  have htg : 0 ≤ t * g := Int.mul_nonneg ht hg
  have h2 : brk b (x + t * g) ≤ brk b (y + t * g) := up_all (brk b) (fun v hv => brk_up (by omega) hv) (by omega) (by omega)
  omega

/-- r is the greatest number in 0 .. most with p, or -1. -/
def Top (most : Int) (p : Int → Bool) (r : Int) : Prop := -1 ≤ r ∧ r ≤ most ∧ (0 ≤ r → p r = true) ∧ (r < most → p (r + 1) = false)
theorem Top.one {most : Int} {p : Int → Bool} (hp : ∀ x y, 0 ≤ x → x ≤ y → p y = true → p x = true) {r q : Int} (hr : Top most p r) (hq : Top most p q) : r = q := by
  obtain ⟨a1, a2, a3, a4⟩ := hr
  obtain ⟨b1, b2, b3, b4⟩ := hq
  rcases Int.lt_trichotomy r q with h | h | h
  · have := hp (r + 1) q (by omega) (by omega) (b3 (by omega))
    rw [a4 (by omega)] at this
    cases this
  · exact h
  · have := hp (q + 1) r (by omega) (by omega) (a3 (by omega))
    rw [b4 (by omega)] at this
    cases this

end Go.Proofs.Ytgpphkjdmonkaaa
