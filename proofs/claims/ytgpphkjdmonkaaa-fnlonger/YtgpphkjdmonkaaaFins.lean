/-
  The model's cursor, and what a call that draws leaves: the cursor has gone on, and of what was there nothing has turned but its block.
-/
import Derived.Test.YtgpphkjdmonkaaaDraws
import Derived.Test.YtgpphkjdmonkaaaLays
namespace Go.Proofs.Ytgpphkjdmonkaaa
open Go.RowKit
attribute [local go_sem ↓] Go.wp_at_zero Go.wp_at_succ

structure Fin (C : Nat) (p : Option Addr) (len cap : Nat) (m : Int) (W W' : World) : Prop where
  cur : Cur C p len cap m W'
  but : But C W W'
  row : Bytes C p len W
  lt : C < W.heap.size
theorem Fin.first {C : Nat} {p : Option Addr} {len cap : Nat} {m : Int} {W : World} (h : Cur C p len cap m W) : Fin C p len cap m W W := ⟨h, But.refl _ _, h.row, h.lt⟩
theorem Fin.mono {C : Nat} {p : Option Addr} {len cap : Nat} {m m' : Int} {W W' : World} (h : Fin C p len cap m W W') (hm : m ≤ m') : Fin C p len cap m' W W' := ⟨h.cur.mono hm, h.but, h.row, h.lt⟩
theorem Fin.call {C : Nat} {p : Option Addr} {len cap : Nat} {m m' : Int} {W W1 W2 : World} (h : Fin C p len cap m W W1) (hC : Cur C p len cap m' W2) (hb : But C W1 W2) : Fin C p len cap m' W W2 := ⟨hC, h.but.trans hb, h.row, h.lt⟩
theorem Fin.then {C : Nat} {p : Option Addr} {len cap : Nat} {m m' : Int} {W W1 W2 : World} (h : Fin C p len cap m W W1) (k : Fin C p len cap m' W1 W2) : Fin C p len cap m' W W2 := ⟨k.cur, h.but.trans k.but, h.row, h.lt⟩
theorem Fin.below {C : Nat} {p : Option Addr} {len cap : Nat} {m : Int} {W W1 W2 : World} (h : Fin C p len cap m W W1) (hb : Below W1.heap.size W1 W2) : Fin C p len cap m W W2 := ⟨h.cur.below hb, h.but.trans (But.of hb), h.row, h.lt⟩
theorem Fin.alloc {C : Nat} {p : Option Addr} {len cap : Nat} {m : Int} {W W1 : World} (h : Fin C p len cap m W W1) (o : Obj) : Fin C p len cap m W (W1.alloc o) := h.below (bone _ _)
theorem Fin.drew {C : Nat} {p : Option Addr} {len cap : Nat} {m : Int} {W W1 : World} (h : Fin C p len cap m W W1) : Fin C p len cap m W W1.drew := ⟨h.cur.drew, h.but.drew, h.row, h.lt⟩
theorem Fin.set {C : Nat} {p : Option Addr} {len cap : Nat} {m : Int} {W W1 : World} (h : Fin C p len cap m W W1) {N : Nat} (hN : W.heap.size ≤ N) (i : Nat) (v : Value) : Fin C p len cap m W (W1.setCell ⟨N, i, none⟩ v) := by
  have hB : But C W (W1.setCell ⟨N, i, none⟩ v) := h.but.setNew hN _
  exact ⟨h.cur.move (Below.heap_setCell _ _ _ _ (by have := h.lt; show C ≠ N; omega)) (h.row.keep hB), hB, h.row, h.lt⟩
/-- A block beside the cursor's stays as it was. -/
theorem Fin.cells {C : Nat} {p : Option Addr} {len cap : Nat} {m : Int} {W W1 : World} (h : Fin C p len cap m W W1) {N : Nat} (hN : N < W.heap.size) (hne : N ≠ C) : (∀ o, W1.cell? ⟨N, o, none⟩ = W.cell? ⟨N, o, none⟩) ∧ (∀ o, W1.frozen? ⟨N, o, none⟩ = W.frozen? ⟨N, o, none⟩) :=
  ⟨fun _ => h.but.cell hN hne, fun _ => h.but.frozen hN hne⟩
theorem pick_fin {C : Nat} {a : Option Addr} {len cap : Nat} {m : Int} {W : World} (n : Int) (hC : Cur C a len cap m W) (hm : m ≤ 1000000) (hn : 2 ≤ n) (hn' : n ≤ 200) :
    Calls Try.prog 34 #[.pointer (some ⟨C, 0, none⟩), .int .i64 n] W fun e W' => ∃ x : Int, e = .returned (.int .i64 x) ∧ 0 ≤ x ∧ x < n ∧ Fin C a len cap (m + 1) W W' :=
  (pick_any n hC hm hn hn').mono fun _ _ ⟨x, he, h0, h1, hc, hb⟩ => ⟨x, he, h0, h1, (Fin.first hC).call hc hb⟩
theorem wide_fin {C : Nat} {a : Option Addr} {len cap : Nat} {m : Int} {W : World} (n : Int) (hC : Cur C a len cap m W) (hm : m ≤ 900000) (hn : 2 ≤ n) (hn' : n ≤ 1000000) :
    Calls Try.prog 63 #[.pointer (some ⟨C, 0, none⟩), .int .i64 n] W fun e W' => ∃ x : Int, e = .returned (.int .i64 x) ∧ 0 ≤ x ∧ x < n ∧ Fin C a len cap (m + 1 + 1) W W' :=
  (wide_any n hC hm hn hn').mono fun _ _ ⟨x, he, h0, h1, hc, hb⟩ => ⟨x, he, h0, h1, (Fin.first hC).call hc hb⟩

theorem Lay.fin {N : Nat} {vs : List Value} {C : Nat} {p : Option Addr} {len cap : Nat} {m : Int} {W W' : World} (h : Lay N vs W) (hF : Fin C p len cap m W W') (hne : N ≠ C) : Lay N vs W' := h.of (hF.but.block N h.lt hne)

set_option maxRecDepth 100000 in
set_option maxHeartbeats 1600000 in
theorem drawSpeed_any {C : Nat} {p : Option Addr} {len cap : Nat} {m : Int} {W : World} (hC : Cur C p len cap m W) (hm : m ≤ 800000) :
    Calls Try.prog 64 #[.pointer (some ⟨C, 0, none⟩)] W fun e W' => ∃ x : Int, e = .returned (.int .i64 x) ∧ Fin C p len cap (m + 3) W W' := by
  go_enter Try.func64, Try.ntmps64
  go_wp2_with fail
  refine (pick_fin 14 hC (by omega) (by omega) (by omega)).mono ?_; rintro e w1 ⟨x, rfl, l1, u1, hF1⟩
  by_cases hx0 : x = 0
  · subst hx0
    go_wp2_with fail
    refine (pick_fin 4 (hF1.cur.below (bone _ _)) (by omega) (by omega) (by omega)).mono ?_; rintro e w2 ⟨y, rfl, l2, u2, hF2⟩
    have hlt := hF1.cur.lt
    have hc := (hF2.cells (N := w1.heap.size) (by simp) (by omega)).1
    have hF := (((hF1.alloc _).then hF2).mono (m' := m + 3) (by omega))
    have hy : y = 0 ∨ y = 1 ∨ y = 2 ∨ y = 3 := by omega
    rcases hy with rfl | rfl | rfl | rfl
    all_goals
      go_wp2
      go_ret
      exact ⟨_, rfl, hF⟩
  · have hx0' : (x == 0) = false := by simp [hx0]
    by_cases hx1 : x = 1
    · subst hx1
      go_wp2_with fail
      refine (wide_fin 10000 hF1.cur (by omega) (by omega) (by omega)).mono ?_; rintro e w2 ⟨y, rfl, l2, u2, hF2⟩
      go_wp2
      go_ret
      exact ⟨_, rfl, (hF1.then hF2).mono (by omega)⟩
    · have hx1' : (x == 1) = false := by simp [hx1]
      go_wp2_with fail
      refine (wide_fin 400 hF1.cur (by omega) (by omega) (by omega)).mono ?_; rintro e w2 ⟨y, rfl, l2, u2, hF2⟩
      go_wp2
      go_ret
      exact ⟨_, rfl, (hF1.then hF2).mono (by omega)⟩

end Go.Proofs.Ytgpphkjdmonkaaa
