/-
  What happens in a tick, and a drive, in plain numbers and lists.
-/
import Derived.Test.YtgpphkjdmonkaaaRunPlain
namespace Go.Proofs.Ytgpphkjdmonkaaa

/-- What happens in a tick, as plain numbers. -/
structure Act7 where
  want : Int
  off : Int
  fast : Int
  more : Int
  en : Int
  lim : Int
  ack : Bool
def Act7.vals (x : Act7) : List Go.Value := [.int .i64 x.want, .int .i64 x.off, .int .i64 x.fast, .int .i64 x.more, .int .i64 x.en, .int .i64 x.lim, .bool x.ack]
/-- What happens in a tick is right. -/
def actB (s h d a k : Int) (x : Act7) : Bool := okB s h d a k && (inB x.want (-1000) a && (inB x.off 0 1000 && (inB x.fast 0 100 && (inB x.more 0 1000 && (inB x.en (-1) 100000000 && inB x.lim 0 10000)))))
/-- A speed that changes. -/
def chg (v b : Int) : Int := if v + b < 0 then 0 else if 9900 < v + b then 9900 else v + b
theorem chg_bd (v b : Int) : 0 ≤ chg v b ∧ chg v b ≤ 9900 := by unfold chg; split <;> (try split) <;> omega
structure True8 where
  at_ : Int
  sp : Int
  said : Said6
def True8.vals (x : True8) : List Go.Value := .int .i64 x.at_ :: .int .i64 x.sp :: x.said.vals
/-- A train on its way: where it is, how fast, its guard, and for how many ticks it brakes hard. -/
structure Tr where
  at_ : Int
  sp : Int
  st : Int
  en : Int
  hard : Int
def Act7.felt (x : Act7) (t : Tr) : Felt5 := ⟨t.at_ + x.off, t.sp + x.fast, x.en, x.lim, x.ack⟩
/-- For how many ticks, behind this one. -/
def hardF (y : Said6) (t : Tr) : Int := if y.st = 3 then (if t.st = 3 then t.hard else 0) + 1 else t.hard
def speedF (s h d : Int) (x : Act7) (y : Said6) (t : Tr) : Int :=
  if y.st = 3 ∧ d < hardF y t then chg t.sp (-h - x.more) else if y.st = 2 then chg t.sp (-s) else chg t.sp x.want
def nextT (s h d a k : Int) (x : Act7) (t : Tr) : Tr :=
  let y := tickF s h d a k t.st t.en (x.felt t)
  ⟨t.at_ + speedF s h d x y t, speedF s h d x y t, y.st, y.en, hardF y t⟩
def outT (s h d a k : Int) (x : Act7) (t : Tr) : True8 := ⟨(nextT s h d a k x t).at_, (nextT s h d a k x t).sp, tickF s h d a k t.st t.en (x.felt t)⟩
def driveFrom (s h d a k : Int) : Tr → List Act7 → List True8
  | _, [] => []
  | t, x :: xs => outT s h d a k x t :: driveFrom s h d a k (nextT s h d a k x t) xs
theorem driveFrom_length (s h d a k : Int) : ∀ (xs : List Act7) (t : Tr), (driveFrom s h d a k t xs).length = xs.length
  | [], _ => rfl
  | x :: xs, t => by simp [driveFrom, driveFrom_length s h d a k xs]
/-- What Drive answers. -/
def driveF (s h d a k at_ sp : Int) (xs : List Act7) : List True8 :=
  if okB s h d a k && (inB at_ 0 1000000 && (inB sp 0 9900 && (decide (xs.length ≤ 1000) && xs.all (actB s h d a k)))) then driveFrom s h d a k ⟨at_, sp, 3, -1, d⟩ xs else []
def DriveAt (s h d a k : Int) (t0 : Tr) (xs : List Act7) (j : Nat) (t : Tr) (ys : List True8) : Prop := ys.length = j ∧ ys ++ driveFrom s h d a k t (xs.drop j) = driveFrom s h d a k t0 xs
theorem DriveAt.first (s h d a k : Int) (t0 : Tr) (xs : List Act7) : DriveAt s h d a k t0 xs 0 t0 [] := ⟨rfl, by simp⟩
theorem DriveAt.next {s h d a k : Int} {t0 t : Tr} {xs : List Act7} {j : Nat} {ys : List True8} {x : Act7} (hr : DriveAt s h d a k t0 xs j t ys) (hx : xs[j]? = some x) :
    DriveAt s h d a k t0 xs (j + 1) (nextT s h d a k x t) (ys ++ [outT s h d a k x t]) := by
  obtain ⟨h1, h2⟩ := hr
  refine ⟨by simp [h1], ?_⟩
  obtain ⟨hlt, he⟩ := List.getElem?_eq_some_iff.1 hx
  have hd : xs.drop j = x :: xs.drop (j + 1) := by rw [List.drop_eq_getElem_cons hlt, he]
  rw [hd, driveFrom] at h2
  rw [← h2, List.append_assoc]
  rfl
theorem DriveAt.last {s h d a k : Int} {t0 t : Tr} {xs : List Act7} {ys : List True8} (hr : DriveAt s h d a k t0 xs xs.length t ys) : ys = driveFrom s h d a k t0 xs := by
  obtain ⟨h1, h2⟩ := hr
  rw [List.drop_of_length_le (Nat.le_refl _)] at h2
  simpa [driveFrom] using h2

end Go.Proofs.Ytgpphkjdmonkaaa
