/-
  MostHard and Permitted, of the program and of the model: the greatest speeds.
-/
import Derived.Test.YtgpphkjdmonkaabSearch
import Derived.Test.YtgpphkjdmonkaabModel
namespace Go.Proofs.Ytgpphkjdmonkaab
open Go.RowKit

/-- The brakes lie in their box, and nothing elder has turned. -/
def Box5 (w : World) (s h d a k : Int) (W : World) : Prop :=
  W.cell? ⟨w.heap.size, 0, none⟩ = some (.int .i64 s) ∧ W.cell? ⟨w.heap.size, 1, none⟩ = some (.int .i64 h) ∧ W.cell? ⟨w.heap.size, 2, none⟩ = some (.int .i64 d) ∧ W.cell? ⟨w.heap.size, 3, none⟩ = some (.int .i64 a) ∧ W.cell? ⟨w.heap.size, 4, none⟩ = some (.int .i64 k) ∧ w.heap.size < W.heap.size ∧ Below w.heap.size w W
theorem Box5.first (w : World) (s h d a k : Int) (t : TypeId) : Box5 w s h d a k (w.alloc (.cells #[.int .i64 s, .int .i64 h, .int .i64 d, .int .i64 a, .int .i64 k] t)) :=
  ⟨by simp, by simp, by simp, by simp, by simp, by simp, bone _ _⟩
theorem Box5.step {w : World} {s h d a k : Int} {W W' : World} (hB : Box5 w s h d a k W) (hb : Below W.heap.size W W') : Box5 w s h d a k W' := by
  obtain ⟨h0, h1, h2, h3, h4, hz, hB⟩ := hB
  have hs := hb.size
  have hc := (bcell hb).1
  exact ⟨(hc _ _ hz).trans h0, (hc _ _ hz).trans h1, (hc _ _ hz).trans h2, (hc _ _ hz).trans h3, (hc _ _ hz).trans h4, by omega, bstep hB hb⟩

theorem tf {b : Bool} {P : Prop} (h : b = true) (e : b = false) : P := by rw [h] at e; cases e
/-- What MostHard answers. -/
def HardIs (s h d a k room r : Int) : Prop :=
  (okB s h d a k = true → inB room 0 100000000 = true → Top 10000 (ends (d + 1) a h room) r) ∧ (okB s h d a k = false → r = -1) ∧ (inB room 0 100000000 = false → r = -1)
/-- What Permitted answers. -/
def PermIs (s h d a k room limit r : Int) : Prop :=
  (okB s h d a k = true → inB room 0 100000000 = true → inB limit 0 10000 = true → ∃ q, Top limit (fun v => ends (d + 1) a h room v && ends (d + k + 1) 0 s room v) q ∧ r = max 0 q) ∧
  (okB s h d a k = false → r = -1) ∧ (inB room 0 100000000 = false → r = -1) ∧ (inB limit 0 10000 = false → r = -1)

theorem ends_up {t g b room : Int} (ht : 0 ≤ t) (hg : 0 ≤ g) (hb : 1 ≤ b) (x y : Int) (hx : 0 ≤ x) (hxy : x ≤ y) (h : ends t g b room y = true) : ends t g b room x = true := by
  have h2 : crv t g b y ≤ room := of_decide_eq_true h
  exact decide_eq_true (Int.le_trans (crv_up ht hg hb hx hxy) h2)
theorem HardIs.one {s h d a k room r q : Int} (hr : HardIs s h d a k room r) (hq : HardIs s h d a k room q) : r = q := by
  rcases Bool.eq_false_or_eq_true (okB s h d a k) with h1 | h1
  · rcases Bool.eq_false_or_eq_true (inB room 0 100000000) with h2 | h2
    · obtain ⟨a1, a2, a3, a4, a5, a6, a7, a8, a9, a10⟩ := okB_iff.1 h1
      exact Top.one (fun x y hx hxy hy => ends_up (by omega) a7 (by omega) x y hx hxy hy) (hr.1 h1 h2) (hq.1 h1 h2)
    · rw [hr.2.2 h2, hq.2.2 h2]
  · rw [hr.2.1 h1, hq.2.1 h1]
theorem PermIs.one {s h d a k room limit r q : Int} (hr : PermIs s h d a k room limit r) (hq : PermIs s h d a k room limit q) : r = q := by
  rcases Bool.eq_false_or_eq_true (okB s h d a k) with h1 | h1
  · rcases Bool.eq_false_or_eq_true (inB room 0 100000000) with h2 | h2
    · rcases Bool.eq_false_or_eq_true (inB limit 0 10000) with h3 | h3
      · obtain ⟨a1, a2, a3, a4, a5, a6, a7, a8, a9, a10⟩ := okB_iff.1 h1
        obtain ⟨x, tx, rfl⟩ := hr.1 h1 h2 h3
        obtain ⟨y, ty, rfl⟩ := hq.1 h1 h2 h3
        rw [Top.one (fun x y hx hxy hy => ?_) tx ty]
        rw [Bool.and_eq_true] at hy ⊢
        exact ⟨ends_up (by omega) a7 (by omega) x y hx hxy hy.1, ends_up (by omega) (by omega) (by omega) x y hx hxy hy.2⟩
      · rw [hr.2.2.2 h3, hq.2.2.2 h3]
    · rw [hr.2.2.1 h2, hq.2.2.1 h2]
  · rw [hr.2.1 h1, hq.2.1 h1]



end Go.Proofs.Ytgpphkjdmonkaab
