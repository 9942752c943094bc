/-
  What the model draws for a law: what happens in each tick.
-/
import Derived.Test.YtgpphkjdmonkaaaDraws
import Derived.Test.YtgpphkjdmonkaaaActPlain
import Derived.Deep.Cut
namespace Go.Proofs.Ytgpphkjdmonkaaa
open Go.RowKit
attribute [local go_sem ↓] Go.wp_at_zero Go.wp_at_succ

/-- What happens in a tick, as it is drawn. -/
def drawnA (acc : Int) (x : Act7) : Prop := acc - 29 ≤ x.want ∧ x.want ≤ acc ∧ 0 ≤ x.off ∧ x.off ≤ 19 ∧ 0 ≤ x.fast ∧ x.fast ≤ 3 ∧ 0 ≤ x.more ∧ x.more ≤ 16 ∧ 0 ≤ x.en ∧ x.en ≤ 1000000 ∧ 20 ≤ x.lim ∧ x.lim ≤ 419

theorem keepAct {C n : Nat} {W2 w1 w' : World} {v : Value} (hn : n < W2.heap.size) (hne : n ≠ C) (h : w1.cell? ⟨n, 3, none⟩ = some v ∧ But C W2 w1) (hb : But C w1 w') : w'.cell? ⟨n, 3, none⟩ = some v ∧ But C W2 w' :=
  ⟨(hb.cell (Nat.lt_of_lt_of_le hn h.2.size) hne).trans h.1, h.2.trans hb⟩

/-- A new block of seven cells, behind B, beside C. -/
structure New7 (C B N : Nat) (W : World) : Prop where
  lt : N < W.heap.size
  ne : N ≠ C
  le : B ≤ N
  c0 : W.cell? ⟨N, 0, none⟩ = some (.int .i64 0)
  c1 : W.cell? ⟨N, 1, none⟩ = some (.int .i64 0)
  c2 : W.cell? ⟨N, 2, none⟩ = some (.int .i64 0)
  c3 : W.cell? ⟨N, 3, none⟩ = some (.int .i64 0)
  c4 : W.cell? ⟨N, 4, none⟩ = some (.int .i64 0)
  c5 : W.cell? ⟨N, 5, none⟩ = some (.int .i64 0)
  c6 : W.cell? ⟨N, 6, none⟩ = some (.bool false)
  fr : ∀ o, W.frozen? ⟨N, o, none⟩ = false
theorem New7.first {C B : Nat} {w : World} (hB : B ≤ w.heap.size) (hC : C < w.heap.size) : New7 C B w.heap.size (w.alloc (.cells #[.int .i64 0, .int .i64 0, .int .i64 0, .int .i64 0, .int .i64 0, .int .i64 0, .bool false] 96)) :=
  ⟨by simp, by omega, hB, by simp, by simp, by simp, by simp, by simp, by simp, by simp, fun o => by simp⟩
theorem New7.step {C B N : Nat} {W W' : World} (h : New7 C B N W) (hb : But C W W') : New7 C B N W' := by
  have hc : ∀ o, W'.cell? ⟨N, o, none⟩ = W.cell? ⟨N, o, none⟩ := fun o => hb.cell h.lt h.ne
  exact ⟨Nat.lt_of_lt_of_le h.lt hb.size, h.ne, h.le, (hc _).trans h.c0, (hc _).trans h.c1, (hc _).trans h.c2, (hc _).trans h.c3, (hc _).trans h.c4, (hc _).trans h.c5, (hc _).trans h.c6, fun o => (hb.frozen h.lt h.ne).trans (h.fr o)⟩
theorem But.sets {C N : Nat} {A w : World} (h : But C A w) (hN : A.heap.size ≤ N) (a b c d e f g : Value) : But C A (((((((w.setCell ⟨N, 0, none⟩ a).setCell ⟨N, 1, none⟩ b).setCell ⟨N, 2, none⟩ c).setCell ⟨N, 3, none⟩ d).setCell ⟨N, 4, none⟩ e).setCell ⟨N, 5, none⟩ f).setCell ⟨N, 6, none⟩ g) :=
  ((((((h.setNew hN _).setNew hN _).setNew hN _).setNew hN _).setNew hN _).setNew hN _).setNew hN _

theorem keepAlloc {C n : Nat} {W2 w1 : World} {v : Value} {o : Obj} (hn : n < W2.heap.size) (hne : n ≠ C) (h : w1.cell? ⟨n, 3, none⟩ = some v ∧ But C W2 w1) : (w1.alloc o).cell? ⟨n, 3, none⟩ = some v ∧ But C W2 (w1.alloc o) :=
  keepAct hn hne h (But.of (bone _ _))
theorem keepSets {C n N : Nat} {W2 w : World} {v : Value} (hn : n < W2.heap.size) (h : w.cell? ⟨n, 3, none⟩ = some v ∧ But C W2 w) (hN : New7 C W2.heap.size N w) (a b c d e f g : Value) :
    (((((((w.setCell ⟨N, 0, none⟩ a).setCell ⟨N, 1, none⟩ b).setCell ⟨N, 2, none⟩ c).setCell ⟨N, 3, none⟩ d).setCell ⟨N, 4, none⟩ e).setCell ⟨N, 5, none⟩ f).setCell ⟨N, 6, none⟩ g).cell? ⟨n, 3, none⟩ = some v ∧
    But C W2 (((((((w.setCell ⟨N, 0, none⟩ a).setCell ⟨N, 1, none⟩ b).setCell ⟨N, 2, none⟩ c).setCell ⟨N, 3, none⟩ d).setCell ⟨N, 4, none⟩ e).setCell ⟨N, 5, none⟩ f).setCell ⟨N, 6, none⟩ g) := by
  have hle := hN.le
  have hx : N ≠ n := by omega
  refine ⟨?_, But.sets h.2 hN.le _ _ _ _ _ _ _⟩
  rw [World.cell?_setCell_far _ _ _ _ hx, World.cell?_setCell_far _ _ _ _ hx, World.cell?_setCell_far _ _ _ _ hx, World.cell?_setCell_far _ _ _ _ hx, World.cell?_setCell_far _ _ _ _ hx, World.cell?_setCell_far _ _ _ _ hx, World.cell?_setCell_far _ _ _ _ hx]
  exact h.1

/-- What happens in a tick lies in block N. -/
structure Cells7 (N : Nat) (x : Act7) (W : World) : Prop where
  c0 : W.cell? ⟨N, 0, none⟩ = some (.int .i64 x.want)
  c1 : W.cell? ⟨N, 1, none⟩ = some (.int .i64 x.off)
  c2 : W.cell? ⟨N, 2, none⟩ = some (.int .i64 x.fast)
  c3 : W.cell? ⟨N, 3, none⟩ = some (.int .i64 x.more)
  c4 : W.cell? ⟨N, 4, none⟩ = some (.int .i64 x.en)
  c5 : W.cell? ⟨N, 5, none⟩ = some (.int .i64 x.lim)
  c6 : W.cell? ⟨N, 6, none⟩ = some (.bool x.ack)
theorem cells7_new (w : World) (a b c d e f : Int) (g : Bool) (t : TypeId) : Cells7 w.heap.size ⟨a, b, c, d, e, f, g⟩ (w.alloc (.cells #[.int .i64 a, .int .i64 b, .int .i64 c, .int .i64 d, .int .i64 e, .int .i64 f, .bool g] t)) :=
  ⟨by simp, by simp, by simp, by simp, by simp, by simp, by simp⟩
theorem set_other {w : World} {N i j : Nat} {v : Value} (h : i ≠ j) : (w.setCell ⟨N, i, none⟩ v).cell? ⟨N, j, none⟩ = w.cell? ⟨N, j, none⟩ := World.cell?_setCell_other _ _ _ _ (fun e => h (by cases e; rfl))
theorem cells7_sets {C B N : Nat} {w : World} (hN : New7 C B N w) (a b c d e f : Int) (g : Bool) : Cells7 N ⟨a, b, c, d, e, f, g⟩ (((((((w.setCell ⟨N, 0, none⟩ (.int .i64 a)).setCell ⟨N, 1, none⟩ (.int .i64 b)).setCell ⟨N, 2, none⟩ (.int .i64 c)).setCell ⟨N, 3, none⟩ (.int .i64 d)).setCell ⟨N, 4, none⟩ (.int .i64 e)).setCell ⟨N, 5, none⟩ (.int .i64 f)).setCell ⟨N, 6, none⟩ (.bool g)) := by
  obtain ⟨_, _, _, c0, c1, c2, c3, c4, c5, c6, _⟩ := hN
  refine ⟨?_, ?_, ?_, ?_, ?_, ?_, ?_⟩
  · rw [set_other (by decide), set_other (by decide), set_other (by decide), set_other (by decide), set_other (by decide), set_other (by decide)]; exact World.cell?_setCell_same _ _ _ c0
  · rw [set_other (by decide), set_other (by decide), set_other (by decide), set_other (by decide), set_other (by decide)]; exact World.cell?_setCell_same _ _ _ (by rw [set_other (by decide)]; exact c1)
  · rw [set_other (by decide), set_other (by decide), set_other (by decide), set_other (by decide)]; exact World.cell?_setCell_same _ _ _ (by rw [set_other (by decide), set_other (by decide)]; exact c2)
  · rw [set_other (by decide), set_other (by decide), set_other (by decide)]; exact World.cell?_setCell_same _ _ _ (by rw [set_other (by decide), set_other (by decide), set_other (by decide)]; exact c3)
  · rw [set_other (by decide), set_other (by decide)]; exact World.cell?_setCell_same _ _ _ (by rw [set_other (by decide), set_other (by decide), set_other (by decide), set_other (by decide)]; exact c4)
  · rw [set_other (by decide)]; exact World.cell?_setCell_same _ _ _ (by rw [set_other (by decide), set_other (by decide), set_other (by decide), set_other (by decide), set_other (by decide)]; exact c5)
  · exact World.cell?_setCell_same _ _ _ (by rw [set_other (by decide), set_other (by decide), set_other (by decide), set_other (by decide), set_other (by decide), set_other (by decide)]; exact c6)
theorem heap_sets {w : World} {N k : Nat} (h : k ≠ N) (a b c d e f g : Value) : (((((((w.setCell ⟨N, 0, none⟩ a).setCell ⟨N, 1, none⟩ b).setCell ⟨N, 2, none⟩ c).setCell ⟨N, 3, none⟩ d).setCell ⟨N, 4, none⟩ e).setCell ⟨N, 5, none⟩ f).setCell ⟨N, 6, none⟩ g).heap[k]? = w.heap[k]? := by
  rw [Below.heap_setCell _ _ _ _ h, Below.heap_setCell _ _ _ _ h, Below.heap_setCell _ _ _ _ h, Below.heap_setCell _ _ _ _ h, Below.heap_setCell _ _ _ _ h, Below.heap_setCell _ _ _ _ h, Below.heap_setCell _ _ _ _ h]
/-- What the ways through the literal come to. -/
def Lies (C : Nat) (p : Option Addr) (len cap : Nat) (m : Int) (acc : Int) (W2 : World) (t : Value) (w : World) : Prop :=
  ∃ (N : Nat) (x : Act7), t = .pointer (some ⟨N, 0, none⟩) ∧ drawnA acc x ∧ Cells7 N x w ∧ N ≠ C ∧ W2.heap.size ≤ N ∧ Cur C p len cap m w ∧ But C W2 w
theorem lies_new {C : Nat} {p : Option Addr} {len cap : Nat} {m m' acc : Int} {W2 w : World} {n : Nat} {v : Value} (hS : w.cell? ⟨n, 3, none⟩ = some v ∧ But C W2 w) (hC : Cur C p len cap m' w) (hm : m' ≤ m) (a b c d e f : Int) (g : Bool) (t : TypeId) (hd : drawnA acc ⟨a, b, c, d, e, f, g⟩) :
    Lies C p len cap m acc W2 (.pointer (some ⟨w.heap.size, 0, none⟩)) (w.alloc (.cells #[.int .i64 a, .int .i64 b, .int .i64 c, .int .i64 d, .int .i64 e, .int .i64 f, .bool g] t)) :=
  ⟨_, _, rfl, hd, cells7_new w a b c d e f g t, by have := hC.lt; omega, hS.2.size, (hC.mono hm).below (bone _ _), hS.2.alloc _⟩
theorem lies_sets {C : Nat} {p : Option Addr} {len cap : Nat} {m m' acc : Int} {W2 w : World} {n N : Nat} {v : Value} (hr : Bytes C p len W2) (hN : New7 C W2.heap.size N w) (hS : w.cell? ⟨n, 3, none⟩ = some v ∧ But C W2 w) (hC : Cur C p len cap m' w) (hm : m' ≤ m) (a b c d e f : Int) (g : Bool) (hd : drawnA acc ⟨a, b, c, d, e, f, g⟩) :
    Lies C p len cap m acc W2 (.pointer (some ⟨N, 0, none⟩)) (((((((w.setCell ⟨N, 0, none⟩ (.int .i64 a)).setCell ⟨N, 1, none⟩ (.int .i64 b)).setCell ⟨N, 2, none⟩ (.int .i64 c)).setCell ⟨N, 3, none⟩ (.int .i64 d)).setCell ⟨N, 4, none⟩ (.int .i64 e)).setCell ⟨N, 5, none⟩ (.int .i64 f)).setCell ⟨N, 6, none⟩ (.bool g)) :=
  have hB := But.sets hS.2 hN.le (.int .i64 a) (.int .i64 b) (.int .i64 c) (.int .i64 d) (.int .i64 e) (.int .i64 f) (.bool g)
  ⟨_, _, rfl, hd, cells7_sets hN a b c d e f g, hN.ne, hN.le, (hC.mono hm).move (heap_sets (Ne.symm hN.ne) _ _ _ _ _ _ _) (hr.keep hB), hB⟩
theorem drawn_of {a en x1 x2 x3 x4 x5 x6 x7 : Int} (b : Bool) (ha : 0 ≤ a) (ha' : a ≤ 11) (he : 0 ≤ en) (he' : en ≤ 1000000) (l1 : 0 ≤ x1) (u1 : x1 < 30) (l2 : 0 ≤ x2) (u2 : x2 < 2) (l3 : 0 ≤ x3) (u3 : x3 < 20) (l4 : 0 ≤ x4) (u4 : x4 < 4) (l5 : 0 ≤ x5) (u5 : x5 < 3) (l6 : 0 ≤ x6) (u6 : x6 < 9) (l7 : 0 ≤ x7) (u7 : x7 < 400) :
    drawnA a ⟨IntKind.i64.wrap (a - IntKind.i64.wrap (x1 * x2)), x3, x4, IntKind.i64.wrap (x5 * x6), en, IntKind.i64.wrap (20 + x7), b⟩ := by
  have p1 : 0 ≤ x1 * x2 := Int.mul_nonneg l1 l2
  have p2 : x1 * x2 ≤ 29 * 1 := Int.mul_le_mul (by omega) (by omega) l2 (by omega)
  have p3 : 0 ≤ x5 * x6 := Int.mul_nonneg l5 l6
  have p4 : x5 * x6 ≤ 2 * 8 := Int.mul_le_mul (by omega) (by omega) l6 (by omega)
  unfold drawnA
  simp only
  rw [wrap_in (x := x1 * x2) (by omega) (by omega), wrap_in (x := x5 * x6) (by omega) (by omega), wrap_in (x := 20 + x7) (by omega) (by omega), wrap_in (x := a - x1 * x2) (by omega) (by omega)]
  omega

set_option maxHeartbeats 3200000 in
theorem act_any {C : Nat} {p : Option Addr} {len cap : Nat} {m : Int} {W : World} (s h d a k en : Int) (hC : Cur C p len cap m W) (hm : m ≤ 800000) (hd : drawnB s h d a k) (he : 0 ≤ en) (he' : en ≤ 1000000) :
    Calls Try.prog 71 #[.pointer (some ⟨C, 0, none⟩), .agg #[.int .i64 s, .int .i64 h, .int .i64 d, .int .i64 a, .int .i64 k], .int .i64 en] W fun e W' => ∃ x : Act7, e = .returned (.agg x.vals.toArray) ∧ drawnA a x ∧ Cur C p len cap (m + 9) W' ∧ But C W W' := by
  have hlt := hC.lt
  obtain ⟨W2, hW2⟩ : ∃ W2, W2 = (W.alloc (.cells #[.int .i64 s, .int .i64 h, .int .i64 d, .int .i64 a, .int .i64 k] 24)).alloc (.cells #[.int .i64 0, .int .i64 0, .int .i64 0, .int .i64 0, .int .i64 0, .int .i64 0, .bool false] 96) := ⟨_, rfl⟩
  have hB0 : But C W2 ((W.alloc (.cells #[.int .i64 s, .int .i64 h, .int .i64 d, .int .i64 a, .int .i64 k] 24)).alloc (.cells #[.int .i64 0, .int .i64 0, .int .i64 0, .int .i64 0, .int .i64 0, .int .i64 0, .bool false] 96)).drew := by rw [hW2]; exact (But.refl _ _).drew
  have hB1 : But C W2 (((W.alloc (.cells #[.int .i64 s, .int .i64 h, .int .i64 d, .int .i64 a, .int .i64 k] 24)).alloc (.cells #[.int .i64 0, .int .i64 0, .int .i64 0, .int .i64 0, .int .i64 0, .int .i64 0, .bool false] 96)).alloc (.cells #[.int .i64 0, .int .i64 0, .int .i64 0, .int .i64 0, .int .i64 0, .int .i64 0, .bool false] 96)).drew := by rw [hW2]; exact ((But.refl _ _).alloc _).drew
  have hBW : But C W W2 := by rw [hW2]; exact (But.of (bone W _)).alloc _
  have hC0 : Cur C p len cap m ((W.alloc (.cells #[.int .i64 s, .int .i64 h, .int .i64 d, .int .i64 a, .int .i64 k] 24)).alloc (.cells #[.int .i64 0, .int .i64 0, .int .i64 0, .int .i64 0, .int .i64 0, .int .i64 0, .bool false] 96)).drew := ((hC.below (bone W _)).below (bone _ _)).drew
  have hC01 : Cur C p len cap m (((W.alloc (.cells #[.int .i64 s, .int .i64 h, .int .i64 d, .int .i64 a, .int .i64 k] 24)).alloc (.cells #[.int .i64 0, .int .i64 0, .int .i64 0, .int .i64 0, .int .i64 0, .int .i64 0, .bool false] 96)).alloc (.cells #[.int .i64 0, .int .i64 0, .int .i64 0, .int .i64 0, .int .i64 0, .int .i64 0, .bool false] 96)).drew := (((hC.below (bone W _)).below (bone _ _)).below (bone _ _)).drew
  have hne : W.heap.size ≠ C := by omega
  have hn0 : W.heap.size < W2.heap.size := by rw [hW2, World.size_alloc, World.size_alloc]; omega
  have hN1 : New7 C W2.heap.size (W.heap.size + 1 + 1) (((W.alloc (.cells #[.int .i64 s, .int .i64 h, .int .i64 d, .int .i64 a, .int .i64 k] 24)).alloc (.cells #[.int .i64 0, .int .i64 0, .int .i64 0, .int .i64 0, .int .i64 0, .int .i64 0, .bool false] 96)).alloc (.cells #[.int .i64 0, .int .i64 0, .int .i64 0, .int .i64 0, .int .i64 0, .int .i64 0, .bool false] 96)).drew := by
    have h7 := New7.first (C := C) (B := W2.heap.size) (w := (W.alloc (.cells #[.int .i64 s, .int .i64 h, .int .i64 d, .int .i64 a, .int .i64 k] 24)).alloc (.cells #[.int .i64 0, .int .i64 0, .int .i64 0, .int .i64 0, .int .i64 0, .int .i64 0, .bool false] 96)) (by rw [hW2]; exact Nat.le_refl _) (by rw [World.size_alloc, World.size_alloc]; omega)
    rw [World.size_alloc, World.size_alloc] at h7
    exact ⟨h7.lt, h7.ne, h7.le, h7.c0, h7.c1, h7.c2, h7.c3, h7.c4, h7.c5, h7.c6, h7.fr⟩
  have hR : New7 C 0 (W.heap.size + 1) W2 := by
    have := New7.first (C := C) (B := 0) (w := W.alloc (.cells #[.int .i64 s, .int .i64 h, .int .i64 d, .int .i64 a, .int .i64 k] 24)) (Nat.zero_le _) (by rw [World.size_alloc]; omega)
    rw [World.size_alloc] at this
    rw [hW2]; exact this
  clear hW2
  go_enter Try.func71, Try.ntmps71
  have hrow : Bytes C p len W2 := hC.row.keep hBW
  have hab : 0 ≤ a ∧ a ≤ 11 := by unfold drawnB at hd; omega
  go_wp2
  go_cut [7] from 8 (fun t7 wx => Lies C p len cap (m + 9) a W2 t7 wx)
  case first =>
   go_region_held3 (fun w' => w'.cell? ⟨W.heap.size, 3, none⟩ = some (.int .i64 a) ∧ But C W2 w')
    (first | with_reducible assumption | (with_reducible (refine keepAlloc hn0 hne ?_); with_reducible assumption) | (with_reducible (refine keepSets hn0 ?_ ?_ _ _ _ _ _ _ _); with_reducible assumption; with_reducible assumption) | (with_reducible exact ⟨by simp, hB0⟩) | (with_reducible refine ⟨?_, hB1⟩; rw [World.cell?_drew]; refine cellStay _ (cellStay _ ?_); simp))
    (first
      | (go_at_call 34; refine (pick_any _ (by first | with_reducible assumption | exact Cur.below (by assumption) (bone _ _)) ?_ ?_ ?_).mono ?_; omega; omega; omega; rintro e w' ⟨x, rfl, lx, ux, hC1, hb1⟩; have hS1 := keepAct hn0 hne ‹_ ∧ But C W2 _› hb1; try (have hN := New7.step (C := C) (B := W2.heap.size) (by first | with_reducible assumption | with_reducible exact New7.first (But.size (C := C) (And.right (by assumption))) (Cur.lt (by assumption))) hb1; have hN2 := hN; obtain ⟨_, _, _, g0, g1, g2, g3, g4, g5, g6, gf⟩ := hN2))
      | (go_at_call 63; refine (wide_any _ (by first | with_reducible assumption | exact Cur.below (by assumption) (bone _ _)) ?_ ?_ ?_).mono ?_; omega; omega; omega; rintro e w' ⟨x, rfl, lx, ux, hC1, hb1⟩; have hS1 := keepAct hn0 hne ‹_ ∧ But C W2 _› hb1; try (have hN := New7.step (C := C) (B := W2.heap.size) (by first | with_reducible assumption | with_reducible exact New7.first (But.size (C := C) (And.right (by assumption))) (Cur.lt (by assumption))) hb1; have hN2 := hN; obtain ⟨_, _, _, g0, g1, g2, g3, g4, g5, g6, gf⟩ := hN2)))
   all_goals go_wp2_with fail
   all_goals go_meet
   · exact lies_new (n := W.heap.size) (v := .int .i64 a) (by with_reducible assumption) (by with_reducible assumption) (by omega) _ _ _ _ _ _ _ _ (drawn_of _ hab.1 hab.2 he he' (by assumption) (by assumption) (by assumption) (by assumption) (by assumption) (by assumption) (by assumption) (by assumption) (by assumption) (by assumption) (by assumption) (by assumption) (by assumption) (by assumption))
   all_goals exact lies_sets (n := W.heap.size) (v := .int .i64 a) hrow (by with_reducible assumption) (by with_reducible assumption) (by with_reducible assumption) (by omega) _ _ _ _ _ _ _ (drawn_of _ hab.1 hab.2 he he' (by assumption) (by assumption) (by assumption) (by assumption) (by assumption) (by assumption) (by assumption) (by assumption) (by assumption) (by assumption) (by assumption) (by assumption) (by assumption) (by assumption))
  case rest =>
   obtain ⟨N, x, rfl, hdr, hce, hNC, hle, hCur, hBut⟩ := hcut
   have hR2 := hR.step hBut
   have hr2 := hR2
   obtain ⟨n0, n1, n2, n3, n4, n5, n6⟩ := hce
   obtain ⟨_, _, _, r0, r1, r2, r3, r4, r5, r6, rf⟩ := hr2
   have hw : ¬ x.want < -1000 := by unfold drawnA at hdr; omega
   clear hB0 hB1 hC0 hC01 hN1 hR
   go_wp2
   refine bodyPost_ret (v := .agg x.vals.toArray) (by simp [results, Try.results71, go_sem, Act7.vals, r0, r1, r2, r3, r4, r5, r6]) rfl ?_
   have hle2 : W.heap.size ≤ W.heap.size + 1 := Nat.le_succ _
   have hB := But.sets (hBW.trans hBut) hle2 (.int .i64 x.want) (.int .i64 x.off) (.int .i64 x.fast) (.int .i64 x.more) (.int .i64 x.en) (.int .i64 x.lim) (.bool x.ack)
   exact ⟨x, rfl, hdr, hCur.move (heap_sets (by omega) _ _ _ _ _ _ _) (hC.row.keep hB), hB⟩

end Go.Proofs.Ytgpphkjdmonkaaa
