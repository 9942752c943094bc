/-
  The guard's ticks one after the other, in plain lists.
-/
import Derived.Test.YtgpphkjdmonkaaaGuardPlain
namespace Go.Proofs.Ytgpphkjdmonkaaa

def Felt5.vals (f : Felt5) : List Go.Value := [.int .i64 f.high, .int .i64 f.speed, .int .i64 f.en, .int .i64 f.lim, .bool f.ack]
def Said6.vals (x : Said6) : List Go.Value := [.bool x.ok, .int .i64 x.st, .int .i64 x.en, .int .i64 x.sp, .bool x.kept, .bool x.change]
/-- From a guard on. -/
def runFrom (s h d a k : Int) : Int → Int → List Felt5 → List Said6
  | _, _, [] => []
  | st, en, f :: fs => tickF s h d a k st en f :: runFrom s h d a k (tickF s h d a k st en f).st (tickF s h d a k st en f).en fs
theorem runFrom_length (s h d a k : Int) : ∀ (fs : List Felt5) (st en : Int), (runFrom s h d a k st en fs).length = fs.length
  | [], _, _ => rfl
  | f :: fs, st, en => by simp [runFrom, runFrom_length s h d a k fs]
/-- What Run answers. -/
def runF (s h d a k : Int) (fs : List Felt5) : List Said6 :=
  if okB s h d a k && (decide (fs.length ≤ 1000) && fs.all Felt5.okB) then runFrom s h d a k 3 (-1) fs else []
/-- Behind j ticks the guard is (st, en) and has said xs. -/
def RunAt (s h d a k : Int) (fs : List Felt5) (j : Nat) (st en : Int) (xs : List Said6) : Prop := xs.length = j ∧ xs ++ runFrom s h d a k st en (fs.drop j) = runFrom s h d a k 3 (-1) fs
theorem RunAt.first (s h d a k : Int) (fs : List Felt5) : RunAt s h d a k fs 0 3 (-1) [] := ⟨rfl, by simp⟩
theorem RunAt.next {s h d a k : Int} {fs : List Felt5} {j : Nat} {st en : Int} {xs : List Said6} {f : Felt5} (hr : RunAt s h d a k fs j st en xs) (hf : fs[j]? = some f) :
    RunAt s h d a k fs (j + 1) (tickF s h d a k st en f).st (tickF s h d a k st en f).en (xs ++ [tickF s h d a k st en f]) := by
  obtain ⟨h1, h2⟩ := hr
  refine ⟨by simp [h1], ?_⟩
  obtain ⟨hlt, he⟩ := List.getElem?_eq_some_iff.1 hf
  have hd : fs.drop j = f :: fs.drop (j + 1) := by rw [List.drop_eq_getElem_cons hlt, he]
  rw [hd, runFrom] at h2
  rw [← h2, List.append_assoc]
  rfl
theorem RunAt.last {s h d a k : Int} {fs : List Felt5} {st en : Int} {xs : List Said6} (hr : RunAt s h d a k fs fs.length st en xs) : xs = runFrom s h d a k 3 (-1) fs := by
  obtain ⟨h1, h2⟩ := hr
  rw [List.drop_of_length_le (Nat.le_refl _)] at h2
  simpa [runFrom] using h2

end Go.Proofs.Ytgpphkjdmonkaaa
