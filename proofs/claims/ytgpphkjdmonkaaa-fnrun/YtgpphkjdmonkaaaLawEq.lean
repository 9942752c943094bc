/-
  The laws hold two rows against one another: what is the same is found the same.
-/
import Derived.Test.YtgpphkjdmonkaaaLawFelts
namespace Go.Proofs.Ytgpphkjdmonkaaa
open Go.RowKit
attribute [local go_sem ↓] Go.wp_at_zero Go.wp_at_succ

/-- A row of them lies there. -/
def SaidsAt (ad : Option Addr) (fs : List Said6) (W : World) : Prop :=
  fs = [] ∨ ∃ b off, ad = some ⟨b, off, none⟩ ∧ b < W.heap.size ∧ ∀ i f, fs[i]? = some f → W.cell? ⟨b, off + i * 6, none⟩ = some (.bool f.ok) ∧ W.cell? ⟨b, off + i * 6 + 1, none⟩ = some (.int .i64 f.st) ∧ W.cell? ⟨b, off + i * 6 + 2, none⟩ = some (.int .i64 f.en) ∧ W.cell? ⟨b, off + i * 6 + 3, none⟩ = some (.int .i64 f.sp) ∧ W.cell? ⟨b, off + i * 6 + 4, none⟩ = some (.bool f.kept) ∧ W.cell? ⟨b, off + i * 6 + 5, none⟩ = some (.bool f.change)
theorem SaidsAt.keep {ad : Option Addr} {fs : List Said6} {W W' : World} (h : SaidsAt ad fs W) (hb : Below W.heap.size W W') : SaidsAt ad fs W' := by
  rcases h with h | ⟨b, off, e, hl, hc⟩
  · exact .inl h
  · refine .inr ⟨b, off, e, Nat.lt_of_lt_of_le hl hb.size, fun i f hf => ?_⟩
    obtain ⟨c0, c1, c2, c3, c4, c5⟩ := hc i f hf
    have hx := (bcell hb).1
    exact ⟨(hx _ _ hl).trans c0, (hx _ _ hl).trans c1, (hx _ _ hl).trans c2, (hx _ _ hl).trans c3, (hx _ _ hl).trans c4, (hx _ _ hl).trans c5⟩

theorem keep_eqSaidS {W w' : World} {b1 b2 o1 o2 j : Nat} {x : Said6} (h1 : b1 < W.heap.size) (h2 : b2 < W.heap.size) (hp : W.cell? ⟨b1, o1 + j * 6, none⟩ = some (.bool x.ok) ∧ W.cell? ⟨b1, o1 + j * 6 + 1, none⟩ = some (.int .i64 x.st) ∧ W.cell? ⟨b1, o1 + j * 6 + 2, none⟩ = some (.int .i64 x.en) ∧ W.cell? ⟨b1, o1 + j * 6 + 3, none⟩ = some (.int .i64 x.sp) ∧ W.cell? ⟨b1, o1 + j * 6 + 4, none⟩ = some (.bool x.kept) ∧ W.cell? ⟨b1, o1 + j * 6 + 5, none⟩ = some (.bool x.change)) (hq : W.cell? ⟨b2, o2 + j * 6, none⟩ = some (.bool x.ok) ∧ W.cell? ⟨b2, o2 + j * 6 + 1, none⟩ = some (.int .i64 x.st) ∧ W.cell? ⟨b2, o2 + j * 6 + 2, none⟩ = some (.int .i64 x.en) ∧ W.cell? ⟨b2, o2 + j * 6 + 3, none⟩ = some (.int .i64 x.sp) ∧ W.cell? ⟨b2, o2 + j * 6 + 4, none⟩ = some (.bool x.kept) ∧ W.cell? ⟨b2, o2 + j * 6 + 5, none⟩ = some (.bool x.change)) (hB : Below W.heap.size W w') : w'.cell? ⟨b1, o1 + j * 6, none⟩ = some (.bool x.ok) ∧ w'.cell? ⟨b1, o1 + j * 6 + 1, none⟩ = some (.int .i64 x.st) ∧ w'.cell? ⟨b1, o1 + j * 6 + 2, none⟩ = some (.int .i64 x.en) ∧ w'.cell? ⟨b1, o1 + j * 6 + 3, none⟩ = some (.int .i64 x.sp) ∧ w'.cell? ⟨b1, o1 + j * 6 + 4, none⟩ = some (.bool x.kept) ∧ w'.cell? ⟨b1, o1 + j * 6 + 5, none⟩ = some (.bool x.change) ∧ w'.cell? ⟨b2, o2 + j * 6, none⟩ = some (.bool x.ok) ∧ w'.cell? ⟨b2, o2 + j * 6 + 1, none⟩ = some (.int .i64 x.st) ∧ w'.cell? ⟨b2, o2 + j * 6 + 2, none⟩ = some (.int .i64 x.en) ∧ w'.cell? ⟨b2, o2 + j * 6 + 3, none⟩ = some (.int .i64 x.sp) ∧ w'.cell? ⟨b2, o2 + j * 6 + 4, none⟩ = some (.bool x.kept) ∧ w'.cell? ⟨b2, o2 + j * 6 + 5, none⟩ = some (.bool x.change) ∧ Below W.heap.size W w' := by
  obtain ⟨p0, p1, p2, p3, p4, p5⟩ := hp
  obtain ⟨q0, q1, q2, q3, q4, q5⟩ := hq
  have hx := (bcell hB).1
  exact ⟨(hx _ _ h1).trans p0, (hx _ _ h1).trans p1, (hx _ _ h1).trans p2, (hx _ _ h1).trans p3, (hx _ _ h1).trans p4, (hx _ _ h1).trans p5, (hx _ _ h2).trans q0, (hx _ _ h2).trans q1, (hx _ _ h2).trans q2, (hx _ _ h2).trans q3, (hx _ _ h2).trans q4, (hx _ _ h2).trans q5, hB⟩

theorem keep_eqFeltS {W w' : World} {b1 b2 o1 o2 j : Nat} {x : Felt5} (h1 : b1 < W.heap.size) (h2 : b2 < W.heap.size) (hp : W.cell? ⟨b1, o1 + j * 5, none⟩ = some (.int .i64 x.high) ∧ W.cell? ⟨b1, o1 + j * 5 + 1, none⟩ = some (.int .i64 x.speed) ∧ W.cell? ⟨b1, o1 + j * 5 + 2, none⟩ = some (.int .i64 x.en) ∧ W.cell? ⟨b1, o1 + j * 5 + 3, none⟩ = some (.int .i64 x.lim) ∧ W.cell? ⟨b1, o1 + j * 5 + 4, none⟩ = some (.bool x.ack)) (hq : W.cell? ⟨b2, o2 + j * 5, none⟩ = some (.int .i64 x.high) ∧ W.cell? ⟨b2, o2 + j * 5 + 1, none⟩ = some (.int .i64 x.speed) ∧ W.cell? ⟨b2, o2 + j * 5 + 2, none⟩ = some (.int .i64 x.en) ∧ W.cell? ⟨b2, o2 + j * 5 + 3, none⟩ = some (.int .i64 x.lim) ∧ W.cell? ⟨b2, o2 + j * 5 + 4, none⟩ = some (.bool x.ack)) (hB : Below W.heap.size W w') : w'.cell? ⟨b1, o1 + j * 5, none⟩ = some (.int .i64 x.high) ∧ w'.cell? ⟨b1, o1 + j * 5 + 1, none⟩ = some (.int .i64 x.speed) ∧ w'.cell? ⟨b1, o1 + j * 5 + 2, none⟩ = some (.int .i64 x.en) ∧ w'.cell? ⟨b1, o1 + j * 5 + 3, none⟩ = some (.int .i64 x.lim) ∧ w'.cell? ⟨b1, o1 + j * 5 + 4, none⟩ = some (.bool x.ack) ∧ w'.cell? ⟨b2, o2 + j * 5, none⟩ = some (.int .i64 x.high) ∧ w'.cell? ⟨b2, o2 + j * 5 + 1, none⟩ = some (.int .i64 x.speed) ∧ w'.cell? ⟨b2, o2 + j * 5 + 2, none⟩ = some (.int .i64 x.en) ∧ w'.cell? ⟨b2, o2 + j * 5 + 3, none⟩ = some (.int .i64 x.lim) ∧ w'.cell? ⟨b2, o2 + j * 5 + 4, none⟩ = some (.bool x.ack) ∧ Below W.heap.size W w' := by
  obtain ⟨p0, p1, p2, p3, p4⟩ := hp
  obtain ⟨q0, q1, q2, q3, q4⟩ := hq
  have hx := (bcell hB).1
  exact ⟨(hx _ _ h1).trans p0, (hx _ _ h1).trans p1, (hx _ _ h1).trans p2, (hx _ _ h1).trans p3, (hx _ _ h1).trans p4, (hx _ _ h2).trans q0, (hx _ _ h2).trans q1, (hx _ _ h2).trans q2, (hx _ _ h2).trans q3, (hx _ _ h2).trans q4, hB⟩

end Go.Proofs.Ytgpphkjdmonkaaa
