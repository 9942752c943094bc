/-
  The program's search: a room held against the curves, and the greatest speed that it takes.
-/
import Derived.Test.YtgpphkjdmonkaaaCurve
namespace Go.Proofs.Ytgpphkjdmonkaaa
open Go.RowKit
attribute [local go_sem ↓] Go.wp_at_zero Go.wp_at_succ

set_option maxHeartbeats 400000 in
theorem worstCurve_at (s h d a k : Int) (w : World) (hd : 0 ≤ d) (hd' : d ≤ 20) :
    Calls Try.prog 45 #[.agg #[.int .i64 s, .int .i64 h, .int .i64 d, .int .i64 a, .int .i64 k]] w fun e w' => e = .returned (.agg #[.int .i64 (d + 1), .int .i64 a, .int .i64 h]) ∧ (w.alloc (.cells #[.int .i64 s, .int .i64 h, .int .i64 d, .int .i64 a, .int .i64 k] 24)).alloc (.cells #[.int .i64 (d + 1), .int .i64 a, .int .i64 h] 75) = w' := by
  go_enter Try.func45, Try.ntmps45
  go_wp2
  exact bodyPost_ret (v := .agg #[.int .i64 (d + 1), .int .i64 a, .int .i64 h]) (by simp [results, Try.results45, go_sem]) rfl ⟨rfl, rfl⟩
set_option maxHeartbeats 400000 in
theorem gentleCurve_at (s h d a k : Int) (w : World) (hd : 0 ≤ d) (hd' : d ≤ 20) (hk : 0 ≤ k) (hk' : k ≤ 60) :
    Calls Try.prog 58 #[.agg #[.int .i64 s, .int .i64 h, .int .i64 d, .int .i64 a, .int .i64 k]] w fun e w' => e = .returned (.agg #[.int .i64 (d + k + 1), .int .i64 0, .int .i64 s]) ∧ (w.alloc (.cells #[.int .i64 s, .int .i64 h, .int .i64 d, .int .i64 a, .int .i64 k] 24)).alloc (.cells #[.int .i64 (d + k + 1), .int .i64 0, .int .i64 s] 75) = w' := by
  go_enter Try.func58, Try.ntmps58
  go_wp2
  exact bodyPost_ret (v := .agg #[.int .i64 (d + k + 1), .int .i64 0, .int .i64 s]) (by simp [results, Try.results58, go_sem]) rfl ⟨rfl, rfl⟩

set_option maxHeartbeats 800000 in
theorem spanOf_any (s h d a k room : Int) (w : World) (hd : 0 ≤ d) (hd' : d ≤ 20) (hk : 0 ≤ k) (hk' : k ≤ 60) :
    Calls Try.prog 49 #[.agg #[.int .i64 s, .int .i64 h, .int .i64 d, .int .i64 a, .int .i64 k], .int .i64 room] w fun e w' => e = .returned (.agg #[.int .i64 (d + 1), .int .i64 a, .int .i64 h, .int .i64 (d + k + 1), .int .i64 0, .int .i64 s, .int .i64 room]) ∧ Below w.heap.size w w' := by
  go_enter Try.func49, Try.ntmps49
  go_wp2
  go_region_held3 (fun w' => w'.cell? ⟨w.heap.size, 0, none⟩ = some (.int .i64 s) ∧ w'.cell? ⟨w.heap.size, 1, none⟩ = some (.int .i64 h) ∧ w'.cell? ⟨w.heap.size, 2, none⟩ = some (.int .i64 d) ∧ w'.cell? ⟨w.heap.size, 3, none⟩ = some (.int .i64 a) ∧ w'.cell? ⟨w.heap.size, 4, none⟩ = some (.int .i64 k))
    (first | (go_keep; done) | (refine ⟨?_, ?_, ?_, ?_, ?_⟩ <;> (rw [World.cell?_drew]; repeat' (first | (simp; done) | refine cellStay _ ?_))))
    (first
      | (go_at_call 45; refine (worstCurve_at _ _ _ _ _ _ hd hd').mono ?_; rintro e w' ⟨rfl, rfl⟩)
      | (go_at_call 58; refine (gentleCurve_at _ _ _ _ _ _ hd hd' hk hk').mono ?_; rintro e w' ⟨rfl, rfl⟩))
  go_wp2
  refine bodyPost_ret (v := .agg #[.int .i64 (d + 1), .int .i64 a, .int .i64 h, .int .i64 (d + k + 1), .int .i64 0, .int .i64 s, .int .i64 room]) (by simp [results, Try.results49, go_sem]) rfl ⟨rfl, ?_⟩
  repeat (first | exact Below.refl _ _ | refine Below.setCell ?_ (by first | (simp; done) | (simp; omega)) _ | refine Below.alloc ?_ (by first | (simp; done) | (simp; omega)) _ | refine Below.drew ?_)

theorem keep7 {w W W' : World} {c0 c1 c2 c3 c4 c5 c6 : Value} (h : W.cell? ⟨w.heap.size, 0, none⟩ = some c0 ∧ W.cell? ⟨w.heap.size, 1, none⟩ = some c1 ∧ W.cell? ⟨w.heap.size, 2, none⟩ = some c2 ∧ W.cell? ⟨w.heap.size, 3, none⟩ = some c3 ∧ W.cell? ⟨w.heap.size, 4, none⟩ = some c4 ∧ W.cell? ⟨w.heap.size, 5, none⟩ = some c5 ∧ W.cell? ⟨w.heap.size, 6, none⟩ = some c6 ∧ w.heap.size < W.heap.size ∧ Below w.heap.size w W) (hb : Below W.heap.size W W') :
    W'.cell? ⟨w.heap.size, 0, none⟩ = some c0 ∧ W'.cell? ⟨w.heap.size, 1, none⟩ = some c1 ∧ W'.cell? ⟨w.heap.size, 2, none⟩ = some c2 ∧ W'.cell? ⟨w.heap.size, 3, none⟩ = some c3 ∧ W'.cell? ⟨w.heap.size, 4, none⟩ = some c4 ∧ W'.cell? ⟨w.heap.size, 5, none⟩ = some c5 ∧ W'.cell? ⟨w.heap.size, 6, none⟩ = some c6 ∧ w.heap.size < W'.heap.size ∧ Below w.heap.size w W' := by
  obtain ⟨h0, h1, h2, h3, h4, h5, h6, hz, hB⟩ := h
  have hs := hb.size
  have hc := (bcell hb).1
  exact ⟨(hc _ _ hz).trans h0, (hc _ _ hz).trans h1, (hc _ _ hz).trans h2, (hc _ _ hz).trans h3, (hc _ _ hz).trans h4, (hc _ _ hz).trans h5, (hc _ _ hz).trans h6, by omega, bstep hB hb⟩

/-- The way of a curve. -/
def crv (t g b v : Int) : Int := unb t g v + brk b (v + t * g)
def ends (t g b room v : Int) : Bool := decide (crv t g b v ≤ room)

set_option maxHeartbeats 800000 in
theorem endsHard_any (t g b t2 g2 b2 room v : Int) (w : World) (ht : 0 ≤ t) (ht' : t ≤ 81) (hg : 0 ≤ g) (hg' : g ≤ 100) (hb : 1 ≤ b) (hb' : b ≤ 1000) (hv : 0 ≤ v) (hv' : v ≤ 10000) :
    Calls Try.prog 53 #[.agg #[.int .i64 t, .int .i64 g, .int .i64 b, .int .i64 t2, .int .i64 g2, .int .i64 b2, .int .i64 room], .int .i64 v] w fun e w' => e = .returned (.bool (ends t g b room v)) ∧ Below w.heap.size w w' := by
  go_enter Try.func53, Try.ntmps53
  go_wp2
  go_region_held3 (fun w' => w'.cell? ⟨w.heap.size, 0, none⟩ = some (.int .i64 t) ∧ w'.cell? ⟨w.heap.size, 1, none⟩ = some (.int .i64 g) ∧ w'.cell? ⟨w.heap.size, 2, none⟩ = some (.int .i64 b) ∧ w'.cell? ⟨w.heap.size, 3, none⟩ = some (.int .i64 t2) ∧ w'.cell? ⟨w.heap.size, 4, none⟩ = some (.int .i64 g2) ∧ w'.cell? ⟨w.heap.size, 5, none⟩ = some (.int .i64 b2) ∧ w'.cell? ⟨w.heap.size, 6, none⟩ = some (.int .i64 room) ∧ w.heap.size < w'.heap.size ∧ Below w.heap.size w w')
    (first | (refine keep7 ?_ ‹_›; assumption) | (refine ⟨by simp, by simp, by simp, by simp, by simp, by simp, by simp, by simp, (bone _ _).drew⟩) | go_keep)
    (first | (go_at_call 46; refine (length_any _ _ _ _ _ ht ht' hg hg' hb hb' hv hv').mono ?_; rintro e w' ⟨rfl, hb1⟩))
  rename_i hH
  go_wp2
  go_ret
  exact ⟨rfl, hH.2.2.2.2.2.2.2.2⟩

theorem endsHard_no (t g b t2 g2 b2 room v : Int) (w : World) (ht : 0 ≤ t) (ht' : t ≤ 81) (hg : 0 ≤ g) (hg' : g ≤ 100) (hb : 1 ≤ b) (hb' : b ≤ 1000) (hv : 0 ≤ v) (hv' : v ≤ 10000) (h1 : ends t g b room v = false) :
    Calls Try.prog 53 #[.agg #[.int .i64 t, .int .i64 g, .int .i64 b, .int .i64 t2, .int .i64 g2, .int .i64 b2, .int .i64 room], .int .i64 v] w fun e w' => e = .returned (.bool false) ∧ Below w.heap.size w w' := by
  rw [← h1]; exact endsHard_any t g b t2 g2 b2 room v w ht ht' hg hg' hb hb' hv hv'

set_option maxHeartbeats 1600000 in
theorem endsBoth_any (t g b t2 g2 b2 room v : Int) (w : World) (ht : 0 ≤ t) (ht' : t ≤ 81) (hg : 0 ≤ g) (hg' : g ≤ 100) (hb : 1 ≤ b) (hb' : b ≤ 1000) (gt : 0 ≤ t2) (gt' : t2 ≤ 81) (gg : 0 ≤ g2) (gg' : g2 ≤ 100) (gb : 1 ≤ b2) (gb' : b2 ≤ 1000) (hv : 0 ≤ v) (hv' : v ≤ 10000) :
    Calls Try.prog 50 #[.agg #[.int .i64 t, .int .i64 g, .int .i64 b, .int .i64 t2, .int .i64 g2, .int .i64 b2, .int .i64 room], .int .i64 v] w fun e w' => e = .returned (.bool (ends t g b room v && ends t2 g2 b2 room v)) ∧ Below w.heap.size w w' := by
  rcases Bool.eq_false_or_eq_true (ends t g b room v) with h1 | h1
  · go_enter Try.func50, Try.ntmps50
    go_wp2
    go_region_held3 (fun w' => w'.cell? ⟨w.heap.size, 0, none⟩ = some (.int .i64 t) ∧ w'.cell? ⟨w.heap.size, 1, none⟩ = some (.int .i64 g) ∧ w'.cell? ⟨w.heap.size, 2, none⟩ = some (.int .i64 b) ∧ w'.cell? ⟨w.heap.size, 3, none⟩ = some (.int .i64 t2) ∧ w'.cell? ⟨w.heap.size, 4, none⟩ = some (.int .i64 g2) ∧ w'.cell? ⟨w.heap.size, 5, none⟩ = some (.int .i64 b2) ∧ w'.cell? ⟨w.heap.size, 6, none⟩ = some (.int .i64 room) ∧ w.heap.size < w'.heap.size ∧ Below w.heap.size w w')
      (first | (refine keep7 ?_ ‹_›; assumption) | (refine ⟨by simp, by simp, by simp, by simp, by simp, by simp, by simp, by simp, (bone _ _).drew⟩) | go_keep)
      (first
        | (go_at_call 53; refine (endsHard_any _ _ _ _ _ _ _ _ _ ht ht' hg hg' hb hb' hv hv').mono ?_; rintro e w' ⟨rfl, hb1⟩)
        | (go_at_call 46; refine (length_any _ _ _ _ _ gt gt' gg gg' gb gb' hv hv').mono ?_; rintro e w' ⟨rfl, hb1⟩))
    rename_i hH
    go_wp2
    go_ret
    exact ⟨ret_bool (by rw [h1, Bool.true_and]; rfl), hH.2.2.2.2.2.2.2.2⟩
  · go_enter Try.func50, Try.ntmps50
    go_wp2
    first | (go_region_with (go_at_call 53; refine (endsHard_no _ _ _ _ _ _ _ _ _ ht ht' hg hg' hb hb' hv hv' h1).mono ?_; rintro e w' ⟨rfl, hb1⟩; obtain ⟨hc1, hf1⟩ := bcell hb1)) | fail
    all_goals go_wp2
    all_goals go_ret
    all_goals exact ⟨ret_bool (by rw [h1, Bool.false_and]), bstep (bone _ _).drew hb1⟩

end Go.Proofs.Ytgpphkjdmonkaaa
