/-
  The model's drawing for a law as a whole: brakes that are right, and a list of what happens.
-/
import Derived.Test.YtgpphkjdmonkaaaList
namespace Go.Proofs.Ytgpphkjdmonkaaa
open Go.RowKit
attribute [local go_sem ↓] Go.wp_at_zero Go.wp_at_succ

/-- Bytes that came in. -/
def Came (a : Option Addr) (len : Nat) (W : World) : Prop :=
  len ≤ 140737488355328 ∧ (len = 0 ∨ ∃ b off, a = some ⟨b, off, none⟩ ∧ b < W.heap.size ∧ ∀ i, i < len → ∃ z : Int, 0 ≤ z ∧ z ≤ 255 ∧ W.cell? ⟨b, off + i, none⟩ = some (.int .u8 z))
theorem Came.keep {a : Option Addr} {len : Nat} {W W' : World} (h : Came a len W) (hb : Below W.heap.size W W') : Came a len W' := by
  obtain ⟨h0, h | ⟨b, off, e, hl, hz⟩⟩ := h
  · exact ⟨h0, .inl h⟩
  · refine ⟨h0, .inr ⟨b, off, e, Nat.lt_of_lt_of_le hl hb.size, fun i hi => ?_⟩⟩
    obtain ⟨z, z0, z1, hc⟩ := hz i hi
    exact ⟨z, z0, z1, ((bcell hb).1 _ _ hl).trans hc⟩
/-- A new cursor over them. -/
theorem cur_new {a : Option Addr} {len cap : Nat} {W : World} (h : Came a len W) (o : Obj) :
    Cur (W.heap.size + 1) a len cap 0 ((W.alloc o).alloc (.cells #[.slice a len cap, .int .i64 0, .int .u64 0] 57)) := by
  have e : W.heap.size + 1 = (W.alloc o).heap.size := by rw [World.size_alloc]
  refine ⟨by rw [World.size_alloc, World.size_alloc]; omega, h.1, ?_, ⟨0, by omega, by omega, ?_⟩, ⟨0, ?_⟩, ?_, ?_, ?_⟩
  · rw [e, World.cell?_alloc_new]; rfl
  · rw [e, World.cell?_alloc_new]; rfl
  · rw [e, World.cell?_alloc_new]; rfl
  · rw [e]; simp
  · rw [e]; simp
  · rcases h.2 with h | ⟨b, off, e, hl, hz⟩
    · exact .inl h
    · refine .inr ⟨b, off, e, by omega, by rw [World.size_alloc, World.size_alloc]; omega, fun i hi => ?_⟩
      obtain ⟨z, z0, z1, hc⟩ := hz i hi
      exact ⟨z, z0, z1, cellStay _ (cellStay _ hc)⟩
theorem keep5 {C n : Nat} {W w1 w' : World} {c0 c1 c2 c3 c4 : Value} (hn : n < w1.heap.size) (hne : n ≠ C) (hC : W.heap.size ≤ C) (h : w1.cell? ⟨n, 0, none⟩ = some c0 ∧ w1.cell? ⟨n, 1, none⟩ = some c1 ∧ w1.cell? ⟨n, 2, none⟩ = some c2 ∧ w1.cell? ⟨n, 3, none⟩ = some c3 ∧ w1.cell? ⟨n, 4, none⟩ = some c4 ∧ Below W.heap.size W w1) (hb : But C w1 w') :
    w'.cell? ⟨n, 0, none⟩ = some c0 ∧ w'.cell? ⟨n, 1, none⟩ = some c1 ∧ w'.cell? ⟨n, 2, none⟩ = some c2 ∧ w'.cell? ⟨n, 3, none⟩ = some c3 ∧ w'.cell? ⟨n, 4, none⟩ = some c4 ∧ Below W.heap.size W w' := by
  obtain ⟨h0, h1, h2, h3, h4, hB⟩ := h
  exact ⟨(hb.cell hn hne).trans h0, (hb.cell hn hne).trans h1, (hb.cell hn hne).trans h2, (hb.cell hn hne).trans h3, (hb.cell hn hne).trans h4, hB.trans (hb.below hC hB.size)⟩
theorem keepStore {n R : Nat} {W w : World} {c0 c1 c2 c3 c4 : Value} (hne : R ≠ n) (hR : W.heap.size ≤ R) (h : w.cell? ⟨n, 0, none⟩ = some c0 ∧ w.cell? ⟨n, 1, none⟩ = some c1 ∧ w.cell? ⟨n, 2, none⟩ = some c2 ∧ w.cell? ⟨n, 3, none⟩ = some c3 ∧ w.cell? ⟨n, 4, none⟩ = some c4 ∧ Below W.heap.size W w) (a b c d e : Value) :
    (((((w.setCell ⟨R, 0, none⟩ a).setCell ⟨R, 1, none⟩ b).setCell ⟨R, 2, none⟩ c).setCell ⟨R, 3, none⟩ d).setCell ⟨R, 4, none⟩ e).cell? ⟨n, 0, none⟩ = some c0 ∧
    (((((w.setCell ⟨R, 0, none⟩ a).setCell ⟨R, 1, none⟩ b).setCell ⟨R, 2, none⟩ c).setCell ⟨R, 3, none⟩ d).setCell ⟨R, 4, none⟩ e).cell? ⟨n, 1, none⟩ = some c1 ∧
    (((((w.setCell ⟨R, 0, none⟩ a).setCell ⟨R, 1, none⟩ b).setCell ⟨R, 2, none⟩ c).setCell ⟨R, 3, none⟩ d).setCell ⟨R, 4, none⟩ e).cell? ⟨n, 2, none⟩ = some c2 ∧
    (((((w.setCell ⟨R, 0, none⟩ a).setCell ⟨R, 1, none⟩ b).setCell ⟨R, 2, none⟩ c).setCell ⟨R, 3, none⟩ d).setCell ⟨R, 4, none⟩ e).cell? ⟨n, 3, none⟩ = some c3 ∧
    (((((w.setCell ⟨R, 0, none⟩ a).setCell ⟨R, 1, none⟩ b).setCell ⟨R, 2, none⟩ c).setCell ⟨R, 3, none⟩ d).setCell ⟨R, 4, none⟩ e).cell? ⟨n, 4, none⟩ = some c4 ∧
    Below W.heap.size W (((((w.setCell ⟨R, 0, none⟩ a).setCell ⟨R, 1, none⟩ b).setCell ⟨R, 2, none⟩ c).setCell ⟨R, 3, none⟩ d).setCell ⟨R, 4, none⟩ e) := by
  have hx : ∀ o, (((((w.setCell ⟨R, 0, none⟩ a).setCell ⟨R, 1, none⟩ b).setCell ⟨R, 2, none⟩ c).setCell ⟨R, 3, none⟩ d).setCell ⟨R, 4, none⟩ e).cell? ⟨n, o, none⟩ = w.cell? ⟨n, o, none⟩ := fun o => by
    rw [World.cell?_setCell_far _ _ _ _ hne, World.cell?_setCell_far _ _ _ _ hne, World.cell?_setCell_far _ _ _ _ hne, World.cell?_setCell_far _ _ _ _ hne, World.cell?_setCell_far _ _ _ _ hne]
  obtain ⟨h0, h1, h2, h3, h4, hB⟩ := h
  exact ⟨(hx _).trans h0, (hx _).trans h1, (hx _).trans h2, (hx _).trans h3, (hx _).trans h4, ((((hB.setCell hR _).setCell hR _).setCell hR _).setCell hR _).setCell hR _⟩
theorem ownsRow_sets {base R : Nat} {ty : TypeId} {size n : Nat} {v : Value} {xs : List Value} {w : World} (h : w.ownsRow base ty size v n xs) (hR : R < base) (a b c d e : Value) : (((((w.setCell ⟨R, 0, none⟩ a).setCell ⟨R, 1, none⟩ b).setCell ⟨R, 2, none⟩ c).setCell ⟨R, 3, none⟩ d).setCell ⟨R, 4, none⟩ e).ownsRow base ty size v n xs :=
  ownsRow_setCell_below (ownsRow_setCell_below (ownsRow_setCell_below (ownsRow_setCell_below (ownsRow_setCell_below h hR _) hR _) hR _) hR _) hR _

set_option maxHeartbeats 1600000 in
theorem drives_any {a : Option Addr} {len cap : Nat} {W : World} (hin : Came a len W) :
    Calls Try.prog 17 #[.slice a len cap] W fun e W' => ∃ (s h d ac k : Int) (v : Value) (xs : List Act7), e = .returned (.tuple #[.agg #[.int .i64 s, .int .i64 h, .int .i64 d, .int .i64 ac, .int .i64 k], v]) ∧ drawnB s h d ac k ∧ (∀ x ∈ xs, drawnA ac x) ∧ xs.length ≤ 69 ∧ W'.ownsRow (W.heap.size + 1) 96 7 v xs.length (xs.flatMap Act7.vals) ∧ Below W.heap.size W W' := by
  have hC0 := cur_new (cap := cap) hin (.cells #[.int .i64 0, .int .i64 0, .int .i64 0, .int .i64 0, .int .i64 0] 24)
  go_enter Try.func17, Try.ntmps17
  go_wp2_with fail
  refine (brakes_any hC0 (by omega)).mono ?_; rintro e w1 ⟨s, h, d, ac, k, rfl, hd, hC1, hb1⟩
  have hs1 := hb1.size
  rw [World.size_alloc, World.size_alloc] at hs1
  have hRc : ∀ o, w1.cell? ⟨W.heap.size, o, none⟩ = _ := fun o => hb1.cell (k := W.heap.size) (o := o) (by rw [World.size_alloc, World.size_alloc]; omega) (by omega)
  have hRf : ∀ o, w1.frozen? ⟨W.heap.size, o, none⟩ = _ := fun o => hb1.frozen (k := W.heap.size) (o := o) (by rw [World.size_alloc, World.size_alloc]; omega) (by omega)
  have q0 : w1.cell? ⟨W.heap.size, 0, none⟩ = some (.int .i64 0) := by rw [hRc]; exact cellStay _ (by simp)
  have q1 : w1.cell? ⟨W.heap.size, 1, none⟩ = some (.int .i64 0) := by rw [hRc]; exact cellStay _ (by simp)
  have q2 : w1.cell? ⟨W.heap.size, 2, none⟩ = some (.int .i64 0) := by rw [hRc]; exact cellStay _ (by simp)
  have q3 : w1.cell? ⟨W.heap.size, 3, none⟩ = some (.int .i64 0) := by rw [hRc]; exact cellStay _ (by simp)
  have q4 : w1.cell? ⟨W.heap.size, 4, none⟩ = some (.int .i64 0) := by rw [hRc]; exact cellStay _ (by simp)
  have qf : ∀ o, w1.frozen? ⟨W.heap.size, o, none⟩ = false := fun o => by rw [hRf]; simp
  have hBW : Below W.heap.size W w1 := ((((Below.refl _ W).alloc (Nat.le_refl _) _).alloc (by simp) _).trans (hb1.below (by omega) (by rw [World.size_alloc, World.size_alloc]; omega)))
  clear hRc hRf hC0
  have hC2 : Cur (W.heap.size + 1) a len cap 5 (w1.alloc (.cells #[.int .i64 s, .int .i64 h, .int .i64 d, .int .i64 ac, .int .i64 k] 24)).drew := ((hC1.mono (by omega)).below (bone _ _)).drew
  have hBW2 : Below W.heap.size W (w1.alloc (.cells #[.int .i64 s, .int .i64 h, .int .i64 d, .int .i64 ac, .int .i64 k] 24)).drew := (bstep hBW (bone _ _)).drew
  have hz : w1.heap.size < (w1.alloc (.cells #[.int .i64 s, .int .i64 h, .int .i64 d, .int .i64 ac, .int .i64 k] 24)).drew.heap.size := by show _ < (w1.alloc _).heap.size; rw [World.size_alloc]; omega
  have hne : w1.heap.size ≠ W.heap.size + 1 := by omega
  have hne2 : W.heap.size ≠ w1.heap.size := by omega
  have hx0 := fun o v (hc : w1.cell? ⟨W.heap.size, o, none⟩ = some v) => cellStay (.cells #[.int .i64 s, .int .i64 h, .int .i64 d, .int .i64 ac, .int .i64 k] 24) hc
  clear hb1 hC1 hBW
  go_wp2_with fail
  go_region_held3 (fun w' => w'.cell? ⟨w1.heap.size, 0, none⟩ = some (.int .i64 s) ∧ w'.cell? ⟨w1.heap.size, 1, none⟩ = some (.int .i64 h) ∧ w'.cell? ⟨w1.heap.size, 2, none⟩ = some (.int .i64 d) ∧ w'.cell? ⟨w1.heap.size, 3, none⟩ = some (.int .i64 ac) ∧ w'.cell? ⟨w1.heap.size, 4, none⟩ = some (.int .i64 k) ∧ Below W.heap.size W w')
    (first | with_reducible assumption | (with_reducible (refine keepStore hne2 (Nat.le_refl _) ?_ _ _ _ _ _); with_reducible assumption) | (with_reducible exact ⟨by simp, by simp, by simp, by simp, by simp, hBW2⟩))
    (first | (go_at_call 52; refine (acts_any s h d ac k hC2 ?_ hd).mono ?_; omega; rintro e w' ⟨v, xs, rfl, hxs, hlen, hown, hC3, hb3⟩; have hS1 := keep5 hz hne (Nat.le_succ _) ‹_ ∧ _ ∧ _ ∧ _ ∧ _ ∧ Below W.heap.size W _› hb3; have p0 : w'.cell? ⟨W.heap.size, 0, none⟩ = some (.int .i64 0) := (hb3.cell (Nat.lt_of_lt_of_le (by omega) (Nat.le_of_lt hz)) (by omega)).trans (hx0 0 _ q0); have p1 : w'.cell? ⟨W.heap.size, 1, none⟩ = some (.int .i64 0) := (hb3.cell (Nat.lt_of_lt_of_le (by omega) (Nat.le_of_lt hz)) (by omega)).trans (hx0 1 _ q1); have p2 : w'.cell? ⟨W.heap.size, 2, none⟩ = some (.int .i64 0) := (hb3.cell (Nat.lt_of_lt_of_le (by omega) (Nat.le_of_lt hz)) (by omega)).trans (hx0 2 _ q2); have p3 : w'.cell? ⟨W.heap.size, 3, none⟩ = some (.int .i64 0) := (hb3.cell (Nat.lt_of_lt_of_le (by omega) (Nat.le_of_lt hz)) (by omega)).trans (hx0 3 _ q3); have p4 : w'.cell? ⟨W.heap.size, 4, none⟩ = some (.int .i64 0) := (hb3.cell (Nat.lt_of_lt_of_le (by omega) (Nat.le_of_lt hz)) (by omega)).trans (hx0 4 _ q4); have pf : ∀ o, w'.frozen? ⟨W.heap.size, o, none⟩ = false := fun o => (hb3.frozen (Nat.lt_of_lt_of_le (by omega) (Nat.le_of_lt hz)) (by omega)).trans (((bcell (bone w1 _)).2 _ _ (by omega)).trans (qf o))))
  rename_i hH
  go_wp2
  refine bodyPost_ret (v := .tuple #[.agg #[.int .i64 s, .int .i64 h, .int .i64 d, .int .i64 ac, .int .i64 k], v]) (by simp [results, Try.results17, go_sem, p0, p1, p2, p3, p4]) rfl ⟨s, h, d, ac, k, v, xs, rfl, hd, hxs, hlen, ?_, hH.2.2.2.2.2⟩
  exact ownsRow_sets (ownsRow_base hown (by show _ ≤ (w1.alloc _).heap.size + 1; rw [World.size_alloc]; omega)) (by omega) _ _ _ _ _

end Go.Proofs.Ytgpphkjdmonkaaa
