/-
  The model's tick.
-/
import Derived.Test.YtgpphkjdmonkaaaGuardSpec
import Derived.Deep.Cut
namespace Go.Proofs.Ytgpphkjdmonkaaa
open Go.RowKit
attribute [local go_sem ↓] Go.wp_at_zero Go.wp_at_succ

/-- What came in lies in its boxes, the answer's place is new, and nothing elder has turned. -/
structure Ins (w : World) (s h d a k st en : Int) (f : Felt5) (W : World) : Prop where
  b0 : W.cell? ⟨w.heap.size, 0, none⟩ = some (.int .i64 s)
  b1 : W.cell? ⟨w.heap.size, 1, none⟩ = some (.int .i64 h)
  b2 : W.cell? ⟨w.heap.size, 2, none⟩ = some (.int .i64 d)
  b3 : W.cell? ⟨w.heap.size, 3, none⟩ = some (.int .i64 a)
  b4 : W.cell? ⟨w.heap.size, 4, none⟩ = some (.int .i64 k)
  g0 : W.cell? ⟨w.heap.size + 1, 0, none⟩ = some (.int .i64 st)
  g1 : W.cell? ⟨w.heap.size + 1, 1, none⟩ = some (.int .i64 en)
  f0 : W.cell? ⟨w.heap.size + 1 + 1, 0, none⟩ = some (.int .i64 f.high)
  f1 : W.cell? ⟨w.heap.size + 1 + 1, 1, none⟩ = some (.int .i64 f.speed)
  f2 : W.cell? ⟨w.heap.size + 1 + 1, 2, none⟩ = some (.int .i64 f.en)
  f3 : W.cell? ⟨w.heap.size + 1 + 1, 3, none⟩ = some (.int .i64 f.lim)
  f4 : W.cell? ⟨w.heap.size + 1 + 1, 4, none⟩ = some (.bool f.ack)
  r0 : W.cell? ⟨w.heap.size + 1 + 1 + 1, 0, none⟩ = some (.bool false)
  r1 : W.cell? ⟨w.heap.size + 1 + 1 + 1, 1, none⟩ = some (.int .i64 0)
  r2 : W.cell? ⟨w.heap.size + 1 + 1 + 1, 2, none⟩ = some (.int .i64 0)
  r3 : W.cell? ⟨w.heap.size + 1 + 1 + 1, 3, none⟩ = some (.int .i64 0)
  r4 : W.cell? ⟨w.heap.size + 1 + 1 + 1, 4, none⟩ = some (.bool false)
  r5 : W.cell? ⟨w.heap.size + 1 + 1 + 1, 5, none⟩ = some (.bool false)
  rf : ∀ o, W.frozen? ⟨w.heap.size + 1 + 1 + 1, o, none⟩ = false
  lt : w.heap.size + 1 + 1 + 1 < W.heap.size
  bel : Below w.heap.size w W
theorem frozenNew (W : World) (C : Array Value) (t : TypeId) (i : Nat) : (W.alloc (.cells C t)).frozen? ⟨W.heap.size, i, none⟩ = false := by simp
theorem Ins.first (w : World) (s h d a k st en : Int) (f : Felt5) (t0 t1 t2 t3 : TypeId) :
    Ins w s h d a k st en f ((((w.alloc (.cells #[.int .i64 s, .int .i64 h, .int .i64 d, .int .i64 a, .int .i64 k] t0)).alloc (.cells #[.int .i64 st, .int .i64 en] t1)).alloc (.cells #[.int .i64 f.high, .int .i64 f.speed, .int .i64 f.en, .int .i64 f.lim, .bool f.ack] t2)).alloc (.cells #[.bool false, .int .i64 0, .int .i64 0, .int .i64 0, .bool false, .bool false] t3)) := by
  have e1 : w.heap.size + 1 = (w.alloc (.cells #[.int .i64 s, .int .i64 h, .int .i64 d, .int .i64 a, .int .i64 k] t0)).heap.size := by rw [World.size_alloc]
  have e2 : w.heap.size + 1 + 1 = ((w.alloc (.cells #[.int .i64 s, .int .i64 h, .int .i64 d, .int .i64 a, .int .i64 k] t0)).alloc (.cells #[.int .i64 st, .int .i64 en] t1)).heap.size := by rw [World.size_alloc, World.size_alloc]
  have e3 : w.heap.size + 1 + 1 + 1 = (((w.alloc (.cells #[.int .i64 s, .int .i64 h, .int .i64 d, .int .i64 a, .int .i64 k] t0)).alloc (.cells #[.int .i64 st, .int .i64 en] t1)).alloc (.cells #[.int .i64 f.high, .int .i64 f.speed, .int .i64 f.en, .int .i64 f.lim, .bool f.ack] t2)).heap.size := by rw [World.size_alloc, World.size_alloc, World.size_alloc]
  refine ⟨cellStay _ (cellStay _ (cellStay _ (by simp))), cellStay _ (cellStay _ (cellStay _ (by simp))), cellStay _ (cellStay _ (cellStay _ (by simp))), cellStay _ (cellStay _ (cellStay _ (by simp))), cellStay _ (cellStay _ (cellStay _ (by simp))),
    cellStay _ (cellStay _ (by rw [e1, World.cell?_alloc_new]; rfl)), cellStay _ (cellStay _ (by rw [e1, World.cell?_alloc_new]; rfl)), cellStay _ (by rw [e2, World.cell?_alloc_new]; rfl), cellStay _ (by rw [e2, World.cell?_alloc_new]; rfl), cellStay _ (by rw [e2, World.cell?_alloc_new]; rfl), cellStay _ (by rw [e2, World.cell?_alloc_new]; rfl), cellStay _ (by rw [e2, World.cell?_alloc_new]; rfl),
    by rw [e3, World.cell?_alloc_new]; rfl, by rw [e3, World.cell?_alloc_new]; rfl, by rw [e3, World.cell?_alloc_new]; rfl, by rw [e3, World.cell?_alloc_new]; rfl, by rw [e3, World.cell?_alloc_new]; rfl, by rw [e3, World.cell?_alloc_new]; rfl, fun o => by rw [e3]; exact frozenNew _ _ _ _, by rw [World.size_alloc, World.size_alloc, World.size_alloc, World.size_alloc]; omega, bstep (bstep (bstep (bone _ _) (bone _ _)) (bone _ _)) (bone _ _)⟩
/-- Whatever leaves the four boxes leaves it. -/
theorem Ins.keep {w : World} {s h d a k st en : Int} {f : Felt5} {W W' : World} (i : Ins w s h d a k st en f W) (hs : W.heap.size ≤ W'.heap.size) (hk : ∀ j, j ≤ w.heap.size + 1 + 1 + 1 → W'.heap[j]? = W.heap[j]?) (hb : Below w.heap.size w W') : Ins w s h d a k st en f W' := by
  have hc : ∀ j o, j ≤ w.heap.size + 1 + 1 + 1 → W'.cell? ⟨j, o, none⟩ = W.cell? ⟨j, o, none⟩ := fun j o hj => World.cell?_of_block (w := W) (a := ⟨j, o, none⟩) (hk j hj)
  have hf : ∀ o, W'.frozen? ⟨w.heap.size + 1 + 1 + 1, o, none⟩ = W.frozen? ⟨w.heap.size + 1 + 1 + 1, o, none⟩ := fun o => World.frozen?_of_block (w := W) (a := ⟨_, o, none⟩) (hk _ (Nat.le_refl _))
  obtain ⟨b0, b1, b2, b3, b4, g0, g1, f0, f1, f2, f3, f4, r0, r1, r2, r3, r4, r5, rf, lt, bel⟩ := i
  exact ⟨(hc _ _ (by omega)).trans b0, (hc _ _ (by omega)).trans b1, (hc _ _ (by omega)).trans b2, (hc _ _ (by omega)).trans b3, (hc _ _ (by omega)).trans b4, (hc _ _ (by omega)).trans g0, (hc _ _ (by omega)).trans g1,
    (hc _ _ (by omega)).trans f0, (hc _ _ (by omega)).trans f1, (hc _ _ (by omega)).trans f2, (hc _ _ (by omega)).trans f3, (hc _ _ (by omega)).trans f4,
    (hc _ _ (by omega)).trans r0, (hc _ _ (by omega)).trans r1, (hc _ _ (by omega)).trans r2, (hc _ _ (by omega)).trans r3, (hc _ _ (by omega)).trans r4, (hc _ _ (by omega)).trans r5, fun o => (hf o).trans (rf o), by omega, hb⟩
theorem Ins.step {w : World} {s h d a k st en : Int} {f : Felt5} {W W' : World} (i : Ins w s h d a k st en f W) (hb : Below W.heap.size W W') : Ins w s h d a k st en f W' :=
  i.keep hb.size (fun j hj => hb.block j (by have := i.lt; omega)) (bstep i.bel hb)
theorem Ins.set {w : World} {s h d a k st en : Int} {f : Felt5} {W : World} (i : Ins w s h d a k st en f W) {N : Nat} (hN : w.heap.size + 1 + 1 + 1 < N) (o : Nat) (v : Value) : Ins w s h d a k st en f (W.setCell ⟨N, o, none⟩ v) :=
  i.keep (by simp [World.setCell]) (fun j hj => Below.heap_setCell _ _ _ _ (by show j ≠ N; omega)) (i.bel.setCell (by show w.heap.size ≤ N; omega) _)
/-- What is said lies in block N. -/
structure Outs (N : Nat) (x : Said6) (W : World) : Prop where
  o0 : W.cell? ⟨N, 0, none⟩ = some (.bool x.ok)
  o1 : W.cell? ⟨N, 1, none⟩ = some (.int .i64 x.st)
  o2 : W.cell? ⟨N, 2, none⟩ = some (.int .i64 x.en)
  o3 : W.cell? ⟨N, 3, none⟩ = some (.int .i64 x.sp)
  o4 : W.cell? ⟨N, 4, none⟩ = some (.bool x.kept)
  o5 : W.cell? ⟨N, 5, none⟩ = some (.bool x.change)
  of : ∀ o, W.frozen? ⟨N, o, none⟩ = false
  lt : N < W.heap.size
theorem Outs.step {N : Nat} {x : Said6} {W W' : World} (i : Outs N x W) (hb : Below W.heap.size W W') : Outs N x W' := by
  have hc := (bcell hb).1
  have hf := (bcell hb).2
  have hs := hb.size
  obtain ⟨o0, o1, o2, o3, o4, o5, of, lt⟩ := i
  exact ⟨(hc _ _ lt).trans o0, (hc _ _ lt).trans o1, (hc _ _ lt).trans o2, (hc _ _ lt).trans o3, (hc _ _ lt).trans o4, (hc _ _ lt).trans o5, fun o => (hf _ _ lt).trans (of o), by omega⟩
theorem Outs.new (W : World) (ok : Bool) (st en sp : Int) (kept change : Bool) (t : TypeId) : Outs W.heap.size ⟨ok, st, en, sp, kept, change⟩ (W.alloc (.cells #[.bool ok, .int .i64 st, .int .i64 en, .int .i64 sp, .bool kept, .bool change] t)) :=
  ⟨by simp, by simp, by simp, by simp, by simp, by simp, fun o => by simp, by simp⟩
theorem so {w : World} {N i j : Nat} {v : Value} (h : i ≠ j) : (w.setCell ⟨N, i, none⟩ v).cell? ⟨N, j, none⟩ = w.cell? ⟨N, j, none⟩ := World.cell?_setCell_other _ _ _ _ (fun e => h (by cases e; rfl))
theorem Outs.set2 {N : Nat} {x : Said6} {W : World} (i : Outs N x W) (v : Int) : Outs N ⟨x.ok, x.st, v, x.sp, x.kept, x.change⟩ (W.setCell ⟨N, 2, none⟩ (.int .i64 v)) :=
  ⟨(so (by decide)).trans i.o0, (so (by decide)).trans i.o1, World.cell?_setCell_same _ _ _ i.o2, (so (by decide)).trans i.o3, (so (by decide)).trans i.o4, (so (by decide)).trans i.o5, fun o => by simpa using i.of o, by have := i.lt; simpa [World.setCell] using this⟩
theorem Outs.set3 {N : Nat} {x : Said6} {W : World} (i : Outs N x W) (v : Int) : Outs N ⟨x.ok, x.st, x.en, v, x.kept, x.change⟩ (W.setCell ⟨N, 3, none⟩ (.int .i64 v)) :=
  ⟨(so (by decide)).trans i.o0, (so (by decide)).trans i.o1, (so (by decide)).trans i.o2, World.cell?_setCell_same _ _ _ i.o3, (so (by decide)).trans i.o4, (so (by decide)).trans i.o5, fun o => by simpa using i.of o, by have := i.lt; simpa [World.setCell] using this⟩
theorem Outs.set4 {N : Nat} {x : Said6} {W : World} (i : Outs N x W) (v : Bool) : Outs N ⟨x.ok, x.st, x.en, x.sp, v, x.change⟩ (W.setCell ⟨N, 4, none⟩ (.bool v)) :=
  ⟨(so (by decide)).trans i.o0, (so (by decide)).trans i.o1, (so (by decide)).trans i.o2, (so (by decide)).trans i.o3, World.cell?_setCell_same _ _ _ i.o4, (so (by decide)).trans i.o5, fun o => by simpa using i.of o, by have := i.lt; simpa [World.setCell] using this⟩

theorem Outs.cast {N : Nat} {x y : Said6} {W : World} (h : Outs N x W) (e : x = y) : Outs N y W := e ▸ h
set_option maxRecDepth 100000 in
set_option maxHeartbeats 6400000 in
theorem tick_spec_ok (s h d a k st en : Int) (f : Felt5) (w : World) (h1 : okB s h d a k = true) (h2 : guardB st en = true) (h3 : f.okB = true) :
    Calls Try.prog 14 #[.agg #[.int .i64 s, .int .i64 h, .int .i64 d, .int .i64 a, .int .i64 k], .agg #[.int .i64 st, .int .i64 en], .agg #[.int .i64 f.high, .int .i64 f.speed, .int .i64 f.en, .int .i64 f.lim, .bool f.ack]] w
      fun e w' => e = .returned (.agg #[.bool (tickF s h d a k st en f).ok, .int .i64 (tickF s h d a k st en f).st, .int .i64 (tickF s h d a k st en f).en, .int .i64 (tickF s h d a k st en f).sp, .bool (tickF s h d a k st en f).kept, .bool (tickF s h d a k st en f).change]) ∧ Below w.heap.size w w' := by
  have hF := h3
  simp only [Felt5.okB, Bool.and_eq_true, inB_iff] at hF
  obtain ⟨⟨fh1, fh2⟩, ⟨fs1, fs2⟩, ⟨fe1, fe2⟩, ⟨fl1, fl2⟩⟩ := hF
  have hG := h2
  simp only [guardB, Bool.and_eq_true, inB_iff] at hG
  obtain ⟨⟨gs1, gs2⟩, ⟨ge1, ge2⟩⟩ := hG
  have hI0 := Ins.first w s h d a k st en f 24 26 28 32
  go_enter Try.func14, Try.ntmps14
  go_wp2_with fail
  refine (brakesOk_spec _ _ _ _ _ _).mono ?_; rintro e w1 ⟨rfl, hb1⟩
  have hI1 := hI0.step hb1
  clear hI0 hb1
  have hi1 := hI1
  obtain ⟨b0, b1, b2, b3, b4, g0, g1, f0, f1, f2, f3, f4, r0, r1, r2, r3, r4, r5, rf, lt, bel⟩ := hi1
  go_wp2_with fail
  refine (guardOk_spec _ _ _).mono ?_; rintro e w2 ⟨rfl, hb2⟩
  have hI2 := hI1.step hb2
  clear hI1 hb2 b0 b1 b2 b3 b4 g0 g1 f0 f1 f2 f3 f4 r0 r1 r2 r3 r4 r5 rf lt bel
  have hi2 := hI2
  obtain ⟨b0, b1, b2, b3, b4, g0, g1, f0, f1, f2, f3, f4, r0, r1, r2, r3, r4, r5, rf, lt, bel⟩ := hi2
  go_wp2_with fail
  refine (feltOk_spec f _).mono ?_; rintro e w3 ⟨rfl, hb3⟩
  have hI3 := hI2.step hb3
  clear hI2 hb3 b0 b1 b2 b3 b4 g0 g1 f0 f1 f2 f3 f4 r0 r1 r2 r3 r4 r5 rf lt bel
  have hi3 := hI3
  obtain ⟨b0, b1, b2, b3, b4, g0, g1, f0, f1, f2, f3, f4, r0, r1, r2, r3, r4, r5, rf, lt, bel⟩ := hi3
  have lt0 : w.heap.size < w3.heap.size := by omega
  have lt1 : w.heap.size + 1 < w3.heap.size := by omega
  have lt2 : w.heap.size + 1 + 1 < w3.heap.size := by omega
  go_upto_if 30 with fail
  have hN : w.heap.size + 1 + 1 + 1 < w3.heap.size := lt
  go_cut [] from 10 (fun wx => Ins w s h d a k st en f wx ∧ Outs w3.heap.size ⟨true, st, f.en, 0, (decide (f.en ≠ en) && (decide (en < f.en) || keepsB h d a f f.en)), (decide (f.en ≠ en))⟩ wx)
  case first =>
    by_cases hne : f.en = en
    · have e1 : (f.en != en) = false := by simp [hne]
      go_wp2_with fail
      go_meet
      exact ⟨hI3.step (bone _ _), (Outs.new w3 true st en 0 false false 32).cast (by simp [hne])⟩
    · have e1 : (f.en != en) = true := by simp [hne]
      by_cases hgt : en < f.en
      · go_wp2_with fail
        go_meet
        exact ⟨hI3.step (bone _ _), (Outs.new w3 true st f.en 0 true true 32).cast (by simp [hne, hgt])⟩
      · have e2 : decide (en < f.en) = false := by simp; omega
        go_wp2_with fail
        refine (l2keeps_any s h d a k f.en f _ h1 h3 fe1 fe2).mono ?_; rintro e w4 ⟨rfl, hb4⟩
        have hI4 := (hI3.step (bone _ _)).step hb4
        have hO4 := (Outs.new w3 true st en 0 false true 32).step hb4
        clear b0 b1 b2 b3 b4 g0 g1 f0 f1 f2 f3 f4 r0 r1 r2 r3 r4 r5 rf lt bel
        have hi4 := hI4
        have ho4 := hO4
        obtain ⟨b0, b1, b2, b3, b4, g0, g1, f0, f1, f2, f3, f4, r0, r1, r2, r3, r4, r5, rf, lt, bel⟩ := hi4
        obtain ⟨o0, o1, o2, o3, o4, o5, of, olt⟩ := ho4
        go_wp2_with fail
        go_meet
        exact ⟨(hI4.set hN 4 _).set hN 2 _, ((hO4.set4 _).set2 _).cast (by simp [hne, e2])⟩
  case rest =>
    obtain ⟨hI, hO⟩ := hcut
    clear b0 b1 b2 b3 b4 g0 g1 f0 f1 f2 f3 f4 r0 r1 r2 r3 r4 r5 rf lt bel lt0 lt1 lt2 hI3
    have hi := hI
    have ho := hO
    obtain ⟨b0, b1, b2, b3, b4, g0, g1, f0, f1, f2, f3, f4, r0, r1, r2, r3, r4, r5, rf, lt, bel⟩ := hi
    obtain ⟨o0, o1, o2, o3, o4, o5, of, olt⟩ := ho
    go_upto_if 56 with fail
    go_cut [8] from 10 (fun r wx => r = .int .i64 (max 0 (f.en - f.high)) ∧ Ins w s h d a k st en f wx ∧ Outs w3.heap.size ⟨true, st, f.en, 0, (decide (f.en ≠ en) && (decide (en < f.en) || keepsB h d a f f.en)), (decide (f.en ≠ en))⟩ wx)
    case first =>
      by_cases hr : f.en - f.high < 0
      · have e1 : max 0 (f.en - f.high) = 0 := by omega
        go_wp2_with fail
        go_meet
        exact ⟨by rw [e1], hI, hO⟩
      · have e1 : max 0 (f.en - f.high) = f.en - f.high := by omega
        go_wp2_with fail
        go_meet
        exact ⟨by rw [e1], hI, hO⟩
    case rest =>
      obtain ⟨rfl, hI2, hO2⟩ := hcut
      clear b0 b1 b2 b3 b4 g0 g1 f0 f1 f2 f3 f4 r0 r1 r2 r3 r4 r5 rf lt bel o0 o1 o2 o3 o4 o5 of olt hI hO
      have hi := hI2
      have ho := hO2
      obtain ⟨b0, b1, b2, b3, b4, g0, g1, f0, f1, f2, f3, f4, r0, r1, r2, r3, r4, r5, rf, lt, bel⟩ := hi
      obtain ⟨o0, o1, o2, o3, o4, o5, of, olt⟩ := ho
      have hroom : inB (max 0 (f.en - f.high)) 0 100000000 = true := inB_iff.2 ⟨by omega, by omega⟩
      have hlim : inB f.lim 0 10000 = true := inB_iff.2 ⟨fl1, fl2⟩
      obtain ⟨sp1, sp2⟩ := permF_bd h1 hroom hlim
      go_wp2_with fail
      refine (permitted_spec_at _ _ _ _ _ _ _ _).mono ?_; rintro e w5 ⟨rfl, hb5⟩
      have hI5 := hI2.step hb5
      have hO5 := hO2.step hb5
      clear b0 b1 b2 b3 b4 g0 g1 f0 f1 f2 f3 f4 r0 r1 r2 r3 r4 r5 rf lt bel o0 o1 o2 o3 o4 o5 of olt hI2 hO2
      have hi := hI5
      have ho := hO5
      obtain ⟨b0, b1, b2, b3, b4, g0, g1, f0, f1, f2, f3, f4, r0, r1, r2, r3, r4, r5, rf, lt, bel⟩ := hi
      obtain ⟨o0, o1, o2, o3, o4, o5, of, olt⟩ := ho
      go_wp2_with fail
      refine (l2keeps_any s h d a k f.en f _ h1 h3 fe1 fe2).mono ?_; rintro e w6 ⟨rfl, hb6⟩
      have hI6 := (hI5.set hN 3 _).step hb6
      have hO6 := (hO5.set3 _).step hb6
      clear b0 b1 b2 b3 b4 g0 g1 f0 f1 f2 f3 f4 r0 r1 r2 r3 r4 r5 rf lt bel o0 o1 o2 o3 o4 o5 of olt hI5 hO5 hb5 hb6
      obtain ⟨b0, b1, b2, b3, b4, g0, g1, f0, f1, f2, f3, f4, r0, r1, r2, r3, r4, r5, rf, lt, bel⟩ := hI6
      obtain ⟨o0, o1, o2, o3, o4, o5, of, olt⟩ := hO6
      have hRN : w.heap.size + 1 + 1 + 1 ≠ w3.heap.size := by omega
      rcases Bool.eq_false_or_eq_true (keepsB h d a f f.en) with hk | hk
      · by_cases hst : st = 3
        · subst hst
          by_cases hv : 0 < f.speed
          · skip
            have HT : Hid (tickF s h d a k 3 en f = ⟨true, 3, f.en, 0, (decide (f.en ≠ en) && (decide (en < f.en) || keepsB h d a f f.en)), (decide (f.en ≠ en))⟩) := by show _ = _; simp [tickF, h1, h2, h3, hk, hv]
            go_wp2
            rw [HT.out]
            refine bodyPost_ret (v := .agg #[.bool true, .int .i64 3, .int .i64 f.en, .int .i64 0, .bool (decide (f.en ≠ en) && (decide (en < f.en) || keepsB h d a f f.en)), .bool (decide (f.en ≠ en))]) (by simp [results, Try.results14, go_sem, *]) rfl ⟨rfl, ?_⟩
            repeat (first | with_reducible exact bel | refine Below.setCell ?_ (by first | (simp; done) | (simp; omega)) _)
          · rcases Bool.eq_false_or_eq_true f.ack with hack | hack
            · have hsv : ¬ (permF s h d a k (max 0 (f.en - f.high)) f.lim) < f.speed := by omega
              have HT : Hid (tickF s h d a k 3 en f = ⟨true, 0, f.en, (permF s h d a k (max 0 (f.en - f.high)) f.lim), (decide (f.en ≠ en) && (decide (en < f.en) || keepsB h d a f f.en)), (decide (f.en ≠ en))⟩) := by show _ = _; simp [tickF, h1, h2, h3, hk, hv, hack, hsv]
              go_wp2
              rw [HT.out]
              refine bodyPost_ret (v := .agg #[.bool true, .int .i64 0, .int .i64 f.en, .int .i64 (permF s h d a k (max 0 (f.en - f.high)) f.lim), .bool (decide (f.en ≠ en) && (decide (en < f.en) || keepsB h d a f f.en)), .bool (decide (f.en ≠ en))]) (by simp [results, Try.results14, go_sem, *]) rfl ⟨rfl, ?_⟩
              repeat (first | with_reducible exact bel | refine Below.setCell ?_ (by first | (simp; done) | (simp; omega)) _)
            · skip
              have HT : Hid (tickF s h d a k 3 en f = ⟨true, 3, f.en, 0, (decide (f.en ≠ en) && (decide (en < f.en) || keepsB h d a f f.en)), (decide (f.en ≠ en))⟩) := by show _ = _; simp [tickF, h1, h2, h3, hk, hv, hack]
              go_wp2
              rw [HT.out]
              refine bodyPost_ret (v := .agg #[.bool true, .int .i64 3, .int .i64 f.en, .int .i64 0, .bool (decide (f.en ≠ en) && (decide (en < f.en) || keepsB h d a f f.en)), .bool (decide (f.en ≠ en))]) (by simp [results, Try.results14, go_sem, *]) rfl ⟨rfl, ?_⟩
              repeat (first | with_reducible exact bel | refine Below.setCell ?_ (by first | (simp; done) | (simp; omega)) _)
        · have hst2 : (st == 3) = false := by simp [hst]
          by_cases hv : (permF s h d a k (max 0 (f.en - f.high)) f.lim) < f.speed
          · by_cases h1s : 1 ≤ st
            · skip
              have HT : Hid (tickF s h d a k st en f = ⟨true, 2, f.en, (permF s h d a k (max 0 (f.en - f.high)) f.lim), (decide (f.en ≠ en) && (decide (en < f.en) || keepsB h d a f f.en)), (decide (f.en ≠ en))⟩) := by show _ = _; simp [tickF, h1, h2, h3, hk, hst, hv, h1s]
              go_wp2
              rw [HT.out]
              refine bodyPost_ret (v := .agg #[.bool true, .int .i64 2, .int .i64 f.en, .int .i64 (permF s h d a k (max 0 (f.en - f.high)) f.lim), .bool (decide (f.en ≠ en) && (decide (en < f.en) || keepsB h d a f f.en)), .bool (decide (f.en ≠ en))]) (by simp [results, Try.results14, go_sem, *]) rfl ⟨rfl, ?_⟩
              repeat (first | with_reducible exact bel | refine Below.setCell ?_ (by first | (simp; done) | (simp; omega)) _)
            · skip
              have HT : Hid (tickF s h d a k st en f = ⟨true, 1, f.en, (permF s h d a k (max 0 (f.en - f.high)) f.lim), (decide (f.en ≠ en) && (decide (en < f.en) || keepsB h d a f f.en)), (decide (f.en ≠ en))⟩) := by show _ = _; simp [tickF, h1, h2, h3, hk, hst, hv, h1s]
              go_wp2
              rw [HT.out]
              refine bodyPost_ret (v := .agg #[.bool true, .int .i64 1, .int .i64 f.en, .int .i64 (permF s h d a k (max 0 (f.en - f.high)) f.lim), .bool (decide (f.en ≠ en) && (decide (en < f.en) || keepsB h d a f f.en)), .bool (decide (f.en ≠ en))]) (by simp [results, Try.results14, go_sem, *]) rfl ⟨rfl, ?_⟩
              repeat (first | with_reducible exact bel | refine Below.setCell ?_ (by first | (simp; done) | (simp; omega)) _)
          · skip
            have HT : Hid (tickF s h d a k st en f = ⟨true, 0, f.en, (permF s h d a k (max 0 (f.en - f.high)) f.lim), (decide (f.en ≠ en) && (decide (en < f.en) || keepsB h d a f f.en)), (decide (f.en ≠ en))⟩) := by show _ = _; simp [tickF, h1, h2, h3, hk, hst, hv]
            go_wp2
            rw [HT.out]
            refine bodyPost_ret (v := .agg #[.bool true, .int .i64 0, .int .i64 f.en, .int .i64 (permF s h d a k (max 0 (f.en - f.high)) f.lim), .bool (decide (f.en ≠ en) && (decide (en < f.en) || keepsB h d a f f.en)), .bool (decide (f.en ≠ en))]) (by simp [results, Try.results14, go_sem, *]) rfl ⟨rfl, ?_⟩
            repeat (first | with_reducible exact bel | refine Below.setCell ?_ (by first | (simp; done) | (simp; omega)) _)
      · by_cases hst : st = 3
        · subst hst
          by_cases hv : 0 < f.speed
          · skip
            have HT : Hid (tickF s h d a k 3 en f = ⟨true, 3, f.en, 0, (decide (f.en ≠ en) && (decide (en < f.en) || keepsB h d a f f.en)), (decide (f.en ≠ en))⟩) := by show _ = _; simp [tickF, h1, h2, h3, hk, hv]
            go_wp2
            rw [HT.out]
            refine bodyPost_ret (v := .agg #[.bool true, .int .i64 3, .int .i64 f.en, .int .i64 0, .bool (decide (f.en ≠ en) && (decide (en < f.en) || keepsB h d a f f.en)), .bool (decide (f.en ≠ en))]) (by simp [results, Try.results14, go_sem, *]) rfl ⟨rfl, ?_⟩
            repeat (first | with_reducible exact bel | refine Below.setCell ?_ (by first | (simp; done) | (simp; omega)) _)
          · rcases Bool.eq_false_or_eq_true f.ack with hack | hack
            · skip
              have HT : Hid (tickF s h d a k 3 en f = ⟨true, 3, f.en, 0, (decide (f.en ≠ en) && (decide (en < f.en) || keepsB h d a f f.en)), (decide (f.en ≠ en))⟩) := by show _ = _; simp [tickF, h1, h2, h3, hk, hv, hack]
              go_wp2
              rw [HT.out]
              refine bodyPost_ret (v := .agg #[.bool true, .int .i64 3, .int .i64 f.en, .int .i64 0, .bool (decide (f.en ≠ en) && (decide (en < f.en) || keepsB h d a f f.en)), .bool (decide (f.en ≠ en))]) (by simp [results, Try.results14, go_sem, *]) rfl ⟨rfl, ?_⟩
              repeat (first | with_reducible exact bel | refine Below.setCell ?_ (by first | (simp; done) | (simp; omega)) _)
            · skip
              have HT : Hid (tickF s h d a k 3 en f = ⟨true, 3, f.en, 0, (decide (f.en ≠ en) && (decide (en < f.en) || keepsB h d a f f.en)), (decide (f.en ≠ en))⟩) := by show _ = _; simp [tickF, h1, h2, h3, hk, hv, hack]
              go_wp2
              rw [HT.out]
              refine bodyPost_ret (v := .agg #[.bool true, .int .i64 3, .int .i64 f.en, .int .i64 0, .bool (decide (f.en ≠ en) && (decide (en < f.en) || keepsB h d a f f.en)), .bool (decide (f.en ≠ en))]) (by simp [results, Try.results14, go_sem, *]) rfl ⟨rfl, ?_⟩
              repeat (first | with_reducible exact bel | refine Below.setCell ?_ (by first | (simp; done) | (simp; omega)) _)
        · have hst2 : (st == 3) = false := by simp [hst]
          have HT : Hid (tickF s h d a k st en f = ⟨true, 3, f.en, 0, (decide (f.en ≠ en) && (decide (en < f.en) || keepsB h d a f f.en)), (decide (f.en ≠ en))⟩) := by show _ = _; simp [tickF, h1, h2, h3, hk, hst]
          go_wp2
          rw [HT.out]
          refine bodyPost_ret (v := .agg #[.bool true, .int .i64 3, .int .i64 f.en, .int .i64 0, .bool (decide (f.en ≠ en) && (decide (en < f.en) || keepsB h d a f f.en)), .bool (decide (f.en ≠ en))]) (by simp [results, Try.results14, go_sem, *]) rfl ⟨rfl, ?_⟩
          repeat (first | with_reducible exact bel | refine Below.setCell ?_ (by first | (simp; done) | (simp; omega)) _)

end Go.Proofs.Ytgpphkjdmonkaaa
