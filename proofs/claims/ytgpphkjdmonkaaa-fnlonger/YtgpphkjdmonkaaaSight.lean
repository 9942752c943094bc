/-
  The program's guard: what it goes by in a tick.
-/
import Derived.Test.YtgpphkjdmonkaaaNextImpl
import Derived.Test.YtgpphkjdmonkaaaTickSpec
import Derived.Deep.RegionHeld3
namespace Go.Proofs.Ytgpphkjdmonkaaa
open Go.RowKit
attribute [local go_sem ↓] Go.wp_at_zero Go.wp_at_succ

/-- The brakes and what is felt lie in their boxes, the answer's place is new, and nothing elder has turned. -/
structure SightIn (w : World) (s h d a k : Int) (f : Felt5) (W : World) : Prop where
  b0 : W.cell? ⟨w.heap.size, 0, none⟩ = some (.int .i64 s)
  b1 : W.cell? ⟨w.heap.size, 1, none⟩ = some (.int .i64 h)
  b2 : W.cell? ⟨w.heap.size, 2, none⟩ = some (.int .i64 d)
  b3 : W.cell? ⟨w.heap.size, 3, none⟩ = some (.int .i64 a)
  b4 : W.cell? ⟨w.heap.size, 4, none⟩ = some (.int .i64 k)
  f0 : W.cell? ⟨w.heap.size + 1, 0, none⟩ = some (.int .i64 f.high)
  f1 : W.cell? ⟨w.heap.size + 1, 1, none⟩ = some (.int .i64 f.speed)
  f2 : W.cell? ⟨w.heap.size + 1, 2, none⟩ = some (.int .i64 f.en)
  f3 : W.cell? ⟨w.heap.size + 1, 3, none⟩ = some (.int .i64 f.lim)
  f4 : W.cell? ⟨w.heap.size + 1, 4, none⟩ = some (.bool f.ack)
  lt : w.heap.size + 1 + 1 < W.heap.size
  bel : Below w.heap.size w W
theorem SightIn.keep {w : World} {s h d a k : Int} {f : Felt5} {W W' : World} (i : SightIn w s h d a k f W) (hs : W.heap.size ≤ W'.heap.size) (hk : ∀ j, j ≤ w.heap.size + 1 → W'.heap[j]? = W.heap[j]?) (hb : Below w.heap.size w W') : SightIn w s h d a k f W' := by
  have hc : ∀ j o, j ≤ w.heap.size + 1 → W'.cell? ⟨j, o, none⟩ = W.cell? ⟨j, o, none⟩ := fun j o hj => World.cell?_of_block (w := W) (a := ⟨j, o, none⟩) (hk j hj)
  obtain ⟨b0, b1, b2, b3, b4, f0, f1, f2, f3, f4, lt, bel⟩ := i
  exact ⟨(hc _ _ (by omega)).trans b0, (hc _ _ (by omega)).trans b1, (hc _ _ (by omega)).trans b2, (hc _ _ (by omega)).trans b3, (hc _ _ (by omega)).trans b4, (hc _ _ (by omega)).trans f0, (hc _ _ (by omega)).trans f1, (hc _ _ (by omega)).trans f2, (hc _ _ (by omega)).trans f3, (hc _ _ (by omega)).trans f4, by omega, hb⟩
theorem SightIn.step {w : World} {s h d a k : Int} {f : Felt5} {W W' : World} (i : SightIn w s h d a k f W) (hb : Below W.heap.size W W') : SightIn w s h d a k f W' :=
  i.keep hb.size (fun j hj => hb.block j (by have := i.lt; omega)) (bstep i.bel hb)
theorem SightIn.set {w : World} {s h d a k : Int} {f : Felt5} {W : World} (i : SightIn w s h d a k f W) (o : Nat) (v : Value) : SightIn w s h d a k f (W.setCell ⟨w.heap.size + 1 + 1, o, none⟩ v) :=
  i.keep (by simp [World.setCell]) (fun j hj => Below.heap_setCell _ _ _ _ (by show j ≠ w.heap.size + 1 + 1; omega)) (i.bel.setCell (by show w.heap.size ≤ w.heap.size + 1 + 1; omega) _)
theorem SightIn.all {w : World} {s h d a k : Int} {f : Felt5} {W : World} (i : SightIn w s h d a k f W) : SightIn w s h d a k f W ∧ W.cell? ⟨w.heap.size, 0, none⟩ = some (.int .i64 s) ∧ W.cell? ⟨w.heap.size, 1, none⟩ = some (.int .i64 h) ∧ W.cell? ⟨w.heap.size, 2, none⟩ = some (.int .i64 d) ∧ W.cell? ⟨w.heap.size, 3, none⟩ = some (.int .i64 a) ∧ W.cell? ⟨w.heap.size, 4, none⟩ = some (.int .i64 k) ∧ W.cell? ⟨w.heap.size + 1, 0, none⟩ = some (.int .i64 f.high) ∧ W.cell? ⟨w.heap.size + 1, 1, none⟩ = some (.int .i64 f.speed) ∧ W.cell? ⟨w.heap.size + 1, 2, none⟩ = some (.int .i64 f.en) ∧ W.cell? ⟨w.heap.size + 1, 3, none⟩ = some (.int .i64 f.lim) ∧ W.cell? ⟨w.heap.size + 1, 4, none⟩ = some (.bool f.ack) :=
  ⟨i, i.b0, i.b1, i.b2, i.b3, i.b4, i.f0, i.f1, i.f2, i.f3, i.f4⟩
theorem SightIn.sets {w : World} {s h d a k : Int} {f : Felt5} {W : World} (i : SightIn w s h d a k f W) (x0 x1 x2 x3 : Value) : SightIn w s h d a k f ((((W.setCell ⟨w.heap.size + 1 + 1, 0, none⟩ x0).setCell ⟨w.heap.size + 1 + 1, 1, none⟩ x1).setCell ⟨w.heap.size + 1 + 1, 2, none⟩ x2).setCell ⟨w.heap.size + 1 + 1, 3, none⟩ x3) :=
  (((i.set _ _).set _ _).set _ _).set _ _
/-- The answer's place is new. -/
structure SightOut (w W : World) : Prop where
  r0 : W.cell? ⟨w.heap.size + 1 + 1, 0, none⟩ = some (.int .i64 0)
  r1 : W.cell? ⟨w.heap.size + 1 + 1, 1, none⟩ = some (.int .i64 0)
  r2 : W.cell? ⟨w.heap.size + 1 + 1, 2, none⟩ = some (.bool false)
  r3 : W.cell? ⟨w.heap.size + 1 + 1, 3, none⟩ = some (.bool false)
  rf : ∀ o, W.frozen? ⟨w.heap.size + 1 + 1, o, none⟩ = false
  lt : w.heap.size + 1 + 1 < W.heap.size
theorem SightOut.step {w W W' : World} (i : SightOut w W) (hb : Below W.heap.size W W') : SightOut w W' := by
  have hs := hb.size
  obtain ⟨hc, hf⟩ := bcell hb
  obtain ⟨r0, r1, r2, r3, rf, lt⟩ := i
  exact ⟨(hc _ _ lt).trans r0, (hc _ _ lt).trans r1, (hc _ _ lt).trans r2, (hc _ _ lt).trans r3, fun o => (hf _ _ lt).trans (rf o), by omega⟩
theorem SightIn.first (w : World) (s h d a k : Int) (f : Felt5) (t0 t1 t2 : TypeId) : SightIn w s h d a k f (((w.alloc (.cells #[.int .i64 s, .int .i64 h, .int .i64 d, .int .i64 a, .int .i64 k] t0)).alloc (.cells #[.int .i64 f.high, .int .i64 f.speed, .int .i64 f.en, .int .i64 f.lim, .bool f.ack] t1)).alloc (.cells #[.int .i64 0, .int .i64 0, .bool false, .bool false] t2)).drew := by
  have e1 : w.heap.size + 1 = (w.alloc (.cells #[.int .i64 s, .int .i64 h, .int .i64 d, .int .i64 a, .int .i64 k] t0)).heap.size := by rw [World.size_alloc]
  refine ⟨?_, ?_, ?_, ?_, ?_, ?_, ?_, ?_, ?_, ?_, ?_, (bstep (bstep (bone _ _) (bone _ _)) (bone _ _)).drew⟩
  case refine_11 => rw [World.size_drew, World.size_alloc, World.size_alloc, World.size_alloc]; omega
  all_goals rw [World.cell?_drew]
  all_goals first
    | exact cellStay _ (cellStay _ (by simp))
    | exact cellStay _ (by rw [e1, World.cell?_alloc_new]; rfl)
theorem SightOut.first (w : World) (s h d a k : Int) (f : Felt5) (t0 t1 t2 : TypeId) : SightOut w (((w.alloc (.cells #[.int .i64 s, .int .i64 h, .int .i64 d, .int .i64 a, .int .i64 k] t0)).alloc (.cells #[.int .i64 f.high, .int .i64 f.speed, .int .i64 f.en, .int .i64 f.lim, .bool f.ack] t1)).alloc (.cells #[.int .i64 0, .int .i64 0, .bool false, .bool false] t2)).drew := by
  have e2 : w.heap.size + 1 + 1 = ((w.alloc (.cells #[.int .i64 s, .int .i64 h, .int .i64 d, .int .i64 a, .int .i64 k] t0)).alloc (.cells #[.int .i64 f.high, .int .i64 f.speed, .int .i64 f.en, .int .i64 f.lim, .bool f.ack] t1)).heap.size := by rw [World.size_alloc, World.size_alloc]
  refine ⟨?_, ?_, ?_, ?_, ?_, ?_⟩
  case refine_5 => intro o; rw [World.frozen?_drew, e2]; exact frozenNew _ _ _ _
  case refine_6 => rw [World.size_drew, World.size_alloc, World.size_alloc, World.size_alloc]; omega
  all_goals (rw [World.cell?_drew, e2, World.cell?_alloc_new]; rfl)
theorem worst_at (s h d a k v : Int) (w : World) (hok : okB s h d a k = true) (hv : 0 ≤ v) (hv' : v ≤ 10000) :
    Calls Try.prog 15 #[.agg #[.int .i64 s, .int .i64 h, .int .i64 d, .int .i64 a, .int .i64 k], .int .i64 v] w fun e w' => e = .returned (.int .i64 (worstP h d a v)) ∧ Below w.heap.size w w' := by
  have h2 : inB v 0 10000 = true := inB_iff.2 ⟨hv, hv'⟩
  have e : worstF s h d a k v = worstP h d a v := by simp [worstF, hok, h2]
  have := worst_impl s h d a k v w
  rw [e] at this
  exact this
set_option maxRecDepth 100000 in
set_option maxHeartbeats 1600000 in
theorem sightOf_any (s hh d a k : Int) (f : Felt5) (w : World) (hok : okB s hh d a k = true) (hf : f.okB = true) :
    Calls Try.prog 38 #[.agg #[.int .i64 s, .int .i64 hh, .int .i64 d, .int .i64 a, .int .i64 k], .agg #[.int .i64 f.high, .int .i64 f.speed, .int .i64 f.en, .int .i64 f.lim, .bool f.ack]] w
      fun e w' => e = .returned (.agg #[.int .i64 f.speed, .int .i64 (permF s hh d a k (max 0 (f.en - f.high)) f.lim), .bool (keepsB hh d a f f.en), .bool f.ack]) ∧ Below w.heap.size w w' := by
  simp only [Felt5.okB, Bool.and_eq_true, inB_iff] at hf
  obtain ⟨⟨f1, f2⟩, ⟨f3, f4⟩, ⟨f5, f6⟩, _⟩ := hf
  have e0 : IntKind.i64.wrap (f.en - f.high) = f.en - f.high := wrap_in (by omega) (by omega)
  have hI := SightIn.first w s hh d a k f 24 28 65
  have hO := SightOut.first w s hh d a k f 24 28 65
  by_cases hr : 0 < f.en - f.high
  · have em : max 0 (f.en - f.high) = f.en - f.high := by omega
    rw [em]
    go_enter Try.func38, Try.ntmps38
    go_wp2
    go_region_held3 (fun w' => SightIn w s hh d a k f w' ∧ w'.cell? ⟨w.heap.size, 0, none⟩ = some (.int .i64 s) ∧ w'.cell? ⟨w.heap.size, 1, none⟩ = some (.int .i64 hh) ∧ w'.cell? ⟨w.heap.size, 2, none⟩ = some (.int .i64 d) ∧ w'.cell? ⟨w.heap.size, 3, none⟩ = some (.int .i64 a) ∧ w'.cell? ⟨w.heap.size, 4, none⟩ = some (.int .i64 k) ∧ w'.cell? ⟨w.heap.size + 1, 0, none⟩ = some (.int .i64 f.high) ∧ w'.cell? ⟨w.heap.size + 1, 1, none⟩ = some (.int .i64 f.speed) ∧ w'.cell? ⟨w.heap.size + 1, 2, none⟩ = some (.int .i64 f.en) ∧ w'.cell? ⟨w.heap.size + 1, 3, none⟩ = some (.int .i64 f.lim) ∧ w'.cell? ⟨w.heap.size + 1, 4, none⟩ = some (.bool f.ack))
      (first | with_reducible assumption | (with_reducible refine SightIn.all ?_; with_reducible assumption) | (with_reducible refine SightIn.all (SightIn.sets ?_ _ _ _ _); first | with_reducible assumption | exact And.left (by with_reducible assumption)))
      (first
        | (go_at_call 16; refine (permitted_impl_at _ _ _ _ _ _ _ _).mono ?_; rintro e w' ⟨rfl, hb1⟩; have hS1 := SightIn.step (w := w) (by first | with_reducible assumption | exact And.left (by with_reducible assumption)) hb1; have hN := SightOut.step (w := w) (by with_reducible assumption) hb1; have hN2 := hN; obtain ⟨g0, g1, g2, g3, gf, _⟩ := hN2)
        | (go_at_call 15; refine (worst_at _ _ _ _ _ _ _ hok f3 f4).mono ?_; rintro e w' ⟨rfl, hb1⟩; have hS1 := SightIn.step (w := w) (by first | with_reducible assumption | exact And.left (by with_reducible assumption)) hb1; have hN := SightOut.step (w := w) (by with_reducible assumption) hb1; have hN2 := hN; obtain ⟨g0, g1, g2, g3, gf, _⟩ := hN2))
    rename_i hH
    go_wp2
    refine bodyPost_ret (v := .agg #[.int .i64 f.speed, .int .i64 (permF s hh d a k (f.en - f.high) f.lim), .bool (keepsB hh d a f f.en), .bool f.ack]) (by simp [results, Try.results38, go_sem, keepsB, *]) rfl ⟨rfl, hH.1.bel⟩
  · have em : max 0 (f.en - f.high) = 0 := by omega
    rw [em]
    go_enter Try.func38, Try.ntmps38
    go_wp2
    go_region_held3 (fun w' => SightIn w s hh d a k f w' ∧ w'.cell? ⟨w.heap.size, 0, none⟩ = some (.int .i64 s) ∧ w'.cell? ⟨w.heap.size, 1, none⟩ = some (.int .i64 hh) ∧ w'.cell? ⟨w.heap.size, 2, none⟩ = some (.int .i64 d) ∧ w'.cell? ⟨w.heap.size, 3, none⟩ = some (.int .i64 a) ∧ w'.cell? ⟨w.heap.size, 4, none⟩ = some (.int .i64 k) ∧ w'.cell? ⟨w.heap.size + 1, 0, none⟩ = some (.int .i64 f.high) ∧ w'.cell? ⟨w.heap.size + 1, 1, none⟩ = some (.int .i64 f.speed) ∧ w'.cell? ⟨w.heap.size + 1, 2, none⟩ = some (.int .i64 f.en) ∧ w'.cell? ⟨w.heap.size + 1, 3, none⟩ = some (.int .i64 f.lim) ∧ w'.cell? ⟨w.heap.size + 1, 4, none⟩ = some (.bool f.ack))
      (first | with_reducible assumption | (with_reducible refine SightIn.all ?_; with_reducible assumption) | (with_reducible refine SightIn.all (SightIn.sets ?_ _ _ _ _); first | with_reducible assumption | exact And.left (by with_reducible assumption)))
      (first
        | (go_at_call 16; refine (permitted_impl_at _ _ _ _ _ _ _ _).mono ?_; rintro e w' ⟨rfl, hb1⟩; have hS1 := SightIn.step (w := w) (by first | with_reducible assumption | exact And.left (by with_reducible assumption)) hb1; have hN := SightOut.step (w := w) (by with_reducible assumption) hb1; have hN2 := hN; obtain ⟨g0, g1, g2, g3, gf, _⟩ := hN2)
        | (go_at_call 15; refine (worst_at _ _ _ _ _ _ _ hok f3 f4).mono ?_; rintro e w' ⟨rfl, hb1⟩; have hS1 := SightIn.step (w := w) (by first | with_reducible assumption | exact And.left (by with_reducible assumption)) hb1; have hN := SightOut.step (w := w) (by with_reducible assumption) hb1; have hN2 := hN; obtain ⟨g0, g1, g2, g3, gf, _⟩ := hN2))
    rename_i hH
    go_wp2
    refine bodyPost_ret (v := .agg #[.int .i64 f.speed, .int .i64 (permF s hh d a k (0) f.lim), .bool (keepsB hh d a f f.en), .bool f.ack]) (by simp [results, Try.results38, go_sem, keepsB, *]) rfl ⟨rfl, hH.1.bel⟩

end Go.Proofs.Ytgpphkjdmonkaaa
