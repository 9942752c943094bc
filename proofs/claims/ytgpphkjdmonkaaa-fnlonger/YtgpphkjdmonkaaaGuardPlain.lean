/-
  The guard in plain numbers: what Permitted answers as a function, and what a tick says.
-/
import Derived.Test.YtgpphkjdmonkaaaPermit
namespace Go.Proofs.Ytgpphkjdmonkaaa

/-- The greatest number in 0 .. n with p, or -1. -/
def topN (p : Int → Bool) : Nat → Int
  | 0 => if p 0 then 0 else -1
  | n + 1 => if p (n + 1) then n + 1 else topN p n
theorem topN_top (p : Int → Bool) : ∀ n : Nat, Top n p (topN p n)
  | 0 => by
    unfold topN
    by_cases h : p 0 = true
    · rw [if_pos h]; exact ⟨by omega, by omega, fun _ => h, fun e => by omega⟩
    · rw [if_neg h]; exact ⟨by omega, by omega, fun e => by omega, fun _ => by simpa using h⟩
  | n + 1 => by
    obtain ⟨h1, h2, h3, h4⟩ := topN_top p n
    unfold topN
    by_cases h : p (n + 1) = true
    · rw [if_pos h]; exact ⟨by omega, by omega, fun _ => h, fun e => by omega⟩
    · rw [if_neg h]
      refine ⟨h1, by omega, h3, fun e => ?_⟩
      by_cases e2 : topN p n = n
      · rw [e2]; simpa using h
      · exact h4 (by omega)
/-- What Permitted answers at every argument. -/
def permF (s h d a k room limit : Int) : Int :=
  if okB s h d a k && inB room 0 100000000 && inB limit 0 10000 then max 0 (topN (fun v => ends (d + 1) a h room v && ends (d + k + 1) 0 s room v) limit.toNat) else -1
theorem permF_is (s h d a k room limit : Int) : PermIs s h d a k room limit (permF s h d a k room limit) := by
  unfold permF
  rcases Bool.eq_false_or_eq_true (okB s h d a k) with h1 | h1
  · rcases Bool.eq_false_or_eq_true (inB room 0 100000000) with h2 | h2
    · rcases Bool.eq_false_or_eq_true (inB limit 0 10000) with h3 | h3
      · rw [h1, h2, h3]
        obtain ⟨l1, l2⟩ := inB_iff.1 h3
        have ht := topN_top (fun v => ends (d + 1) a h room v && ends (d + k + 1) 0 s room v) limit.toNat
        have e : ((limit.toNat : Nat) : Int) = limit := by omega
        rw [e] at ht
        exact PermIs.yes h1 h2 h3 ht rfl
      · rw [h3]; simpa using PermIs.no3 h3
    · rw [h2]; simpa using PermIs.no2 h2
  · rw [h1]; simpa using PermIs.no1 h1
theorem permF_of {s h d a k room limit p : Int} (hp : PermIs s h d a k room limit p) : p = permF s h d a k room limit := PermIs.one hp (permF_is s h d a k room limit)
theorem permF_bd {s h d a k room limit : Int} (h1 : okB s h d a k = true) (h2 : inB room 0 100000000 = true) (h3 : inB limit 0 10000 = true) : 0 ≤ permF s h d a k room limit ∧ permF s h d a k room limit ≤ limit := by
  obtain ⟨q, ⟨a1, a2, _, _⟩, e⟩ := (permF_is s h d a k room limit).1 h1 h2 h3
  obtain ⟨l1, l2⟩ := inB_iff.1 h3
  rw [e]; omega

/-- What is felt, the guard, what is said: as plain numbers. -/
structure Felt5 where
  high : Int
  speed : Int
  en : Int
  lim : Int
  ack : Bool
structure Said6 where
  ok : Bool
  st : Int
  en : Int
  sp : Int
  kept : Bool
  change : Bool
def Felt5.okB (f : Felt5) : Bool := inB f.high 0 100000000 && (inB f.speed 0 10000 && (inB f.en (-1) 100000000 && inB f.lim 0 10000))
def guardB (st en : Int) : Bool := inB st 0 3 && inB en (-1) 100000000
/-- A train can be kept. -/
def keepsB (h d a : Int) (f : Felt5) (en : Int) : Bool := decide (worstP h d a f.speed ≤ en - f.high)
/-- What a tick says. -/
def tickF (s h d a k st en : Int) (f : Felt5) : Said6 :=
  if okB s h d a k && (guardB st en && f.okB) then
    let change := decide (f.en ≠ en)
    let kept := change && (decide (en < f.en) || keepsB h d a f f.en)
    let sp := permF s h d a k (max 0 (f.en - f.high)) f.lim
    let keeps := keepsB h d a f f.en
    if st = 3 ∧ (0 < f.speed ∨ f.ack = false ∨ keeps = false) then ⟨true, 3, f.en, 0, kept, change⟩
    else if keeps = false then ⟨true, 3, f.en, 0, kept, change⟩
    else if sp < f.speed then (if 1 ≤ st then ⟨true, 2, f.en, sp, kept, change⟩ else ⟨true, 1, f.en, sp, kept, change⟩)
    else ⟨true, 0, f.en, sp, kept, change⟩
  else ⟨false, 0, 0, 0, false, false⟩

end Go.Proofs.Ytgpphkjdmonkaaa
