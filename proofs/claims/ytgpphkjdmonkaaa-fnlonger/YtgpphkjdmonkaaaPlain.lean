/-
  The plain mathematics of the curves: whole numbers alone; nothing of the program.
-/
namespace Go.Proofs.Ytgpphkjdmonkaaa

/-- The brakes are right. -/
def okB (s h d a k : Int) : Bool := decide (10 ≤ s ∧ s ≤ 1000 ∧ s ≤ h ∧ h ≤ 1000 ∧ 0 ≤ d ∧ d ≤ 20 ∧ 0 ≤ a ∧ a ≤ 100 ∧ 0 ≤ k ∧ k ≤ 60)
/-- A number between two. -/
def inB (x a b : Int) : Bool := decide (a ≤ x ∧ x ≤ b)

theorem okB_iff {s h d a k : Int} : okB s h d a k = true ↔ 10 ≤ s ∧ s ≤ 1000 ∧ s ≤ h ∧ h ≤ 1000 ∧ 0 ≤ d ∧ d ≤ 20 ∧ 0 ≤ a ∧ a ≤ 100 ∧ 0 ≤ k ∧ k ≤ 60 := by simp [okB]
theorem inB_iff {x a b : Int} : inB x a b = true ↔ a ≤ x ∧ x ≤ b := by simp [inB]
theorem okB_and (s h d a k : Int) : okB s h d a k = (inB s 10 1000 && (inB h s 1000 && (inB d 0 20 && (inB a 0 100 && inB k 0 60)))) := by
  rw [Bool.eq_iff_iff]; simp only [okB_iff, inB_iff, Bool.and_eq_true]; omega

/-- The way under a brake b from the speed v: whole brakes alone. -/
def brk (b v : Int) : Int := v / b * v - b * (v / b) * (v / b + 1) / 2
/-- The way ahead of it: t ticks, each by g faster. -/
def unb (t g v : Int) : Int := t * v + g * t * (t + 1) / 2
def worstP (h d a v : Int) : Int := unb (d + 1) a v + brk h (v + (d + 1) * a)
def gentleP (s d k v : Int) : Int := unb (d + k + 1) 0 v + brk s (v + (d + k + 1) * 0)

theorem half_exact (b n : Int) : ∃ T : Int, 2 * T = n * (n + 1) ∧ b * n * (n + 1) / 2 = b * T := by
  have h : n * (n + 1) % 2 = 0 := by
    have := Int.emod_two_eq n
    rcases this with h | h <;> simp [Int.mul_emod, Int.add_emod, h]
  refine ⟨n * (n + 1) / 2, by omega, ?_⟩
  have e : n * (n + 1) = 2 * (n * (n + 1) / 2) := by omega
  have e2 : b * n * (n + 1) = 2 * (b * (n * (n + 1) / 2)) := by
    rw [Int.mul_assoc, Int.mul_left_comm 2]; rw [← e]
  rw [e2, Int.mul_ediv_cancel_left _ (by decide)]

theorem unb_zero (g v : Int) : unb 0 g v = 0 := by simp [unb]
theorem unb_succ (t g v : Int) : unb (t + 1) g v = unb t g v + (v + (t + 1) * g) := by
  unfold unb
  obtain ⟨T, hT, e⟩ := half_exact g t
  obtain ⟨T', hT', e'⟩ := half_exact g (t + 1)
  rw [e, e']
  have h : T' = T + (t + 1) := by
    have : (t + 1) * (t + 1 + 1) = t * (t + 1) + 2 * (t + 1) := by
      rw [← Int.add_mul, Int.mul_comm]; congr 1; omega
    omega
  rw [h, Int.mul_add, Int.add_mul, Int.mul_comm (t + 1) g]
  omega

theorem brk_small {b v : Int} (hb : 0 < b) (h0 : 0 ≤ v) (h : v ≤ b) : brk b v = 0 := by
  unfold brk
  by_cases e : v = b
  · subst e; rw [Int.ediv_self (by omega)]; omega
  · rw [Int.ediv_eq_zero_of_lt h0 (by omega)]; simp
theorem brk_step {b v : Int} (hb : 0 < b) : brk b v = (v - b) + brk b (v - b) := by
  unfold brk
  have hq : (v - b) / b = v / b - 1 := by
    have := Int.add_mul_ediv_right (v - b) 1 (c := b) (by omega)
    simp at this; omega
  rw [hq]
  generalize v / b = n
  obtain ⟨T, hT, e⟩ := half_exact b n
  obtain ⟨T', hT', e'⟩ := half_exact b (n - 1)
  rw [e, e']
  have h : T = T' + n := by
    have : n * (n + 1) = (n - 1) * (n - 1 + 1) + 2 * n := by grind
    omega
  rw [h]; grind

end Go.Proofs.Ytgpphkjdmonkaaa
