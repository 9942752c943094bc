/-
  What the model draws for a run.
-/
import Derived.Test.YtgpphkjdmonkaaaDrawTick
import Derived.Test.YtgpphkjdmonkaaaRunSpec
import Derived.Deep.CutRange
namespace Go.Proofs.Ytgpphkjdmonkaaa
open Go.RowKit
attribute [local go_sem ↓] Go.wp_at_zero Go.wp_at_succ

theorem Fin.grown {C : Nat} {p : Option Addr} {len cap : Nat} {m : Int} {W W1 W2 : World} {row : Option Nat} (h : Fin C p len cap m W W1) (hg : W1.grownBy W2 row) (hr : ∀ k, row = some k → W.heap.size ≤ k) : Fin C p len cap m W W2 := by
  have hB : But C W W2 := h.but.grown hg hr
  exact ⟨h.cur.move (hg.block C h.cur.lt (fun e => by have := hr C e.symm; have := h.lt; omega)) (h.row.keep hB), hB, h.row, h.lt⟩
theorem Lay.grown {N : Nat} {vs : List Value} {W1 W2 : World} {row : Option Nat} (h : Lay N vs W1) (hg : W1.grownBy W2 row) (hr : row ≠ some N) : Lay N vs W2 := h.of (hg.block N h.lt (fun e => hr e.symm))
theorem own_far {w : World} {base N i : Nat} {e : TypeId} {size n : Nat} {v x : Value} {xs : List Value} (h : w.ownsRow base e size v n xs) (hN : ∀ k, v.ownBlock = some k → k ≠ N) : (w.setCell ⟨N, i, none⟩ x).ownsRow base e size v n xs := by
  obtain ⟨h1, h2⟩ := h
  refine ⟨h1, ?_⟩
  rcases h2 with h2 | ⟨g, cap, cur, e1, e2, e3, e4⟩
  · exact .inl h2
  · refine .inr ⟨g, cap, cur, e1, e2, ?_, e4⟩
    rw [Below.heap_setCell _ _ _ _ (by show g ≠ N; exact hN g (by rw [e1]; rfl))]
    exact e3
theorem own_fin {C base : Nat} {p : Option Addr} {len cap : Nat} {m : Int} {W W' : World} {e : TypeId} {size n : Nat} {v : Value} {xs : List Value} (h : W.ownsRow base e size v n xs) (hC : C < base) (hF : Fin C p len cap m W W') : W'.ownsRow base e size v n xs := ownsRow_but h hC hF.but
theorem new_felt (Y : World) (n : Nat) (hn : Y.heap.size = n) (x : Felt5) (t : TypeId) : ∀ j u, x.vals[j]? = some u → (Y.alloc (.cells #[.int .i64 x.high, .int .i64 x.speed, .int .i64 x.en, .int .i64 x.lim, .bool x.ack] t)).cell? ((⟨n, 0, none⟩ : Addr).add j) = some u := by
  intro j u hj
  have e : ((⟨n, 0, none⟩ : Addr).add j) = ⟨Y.heap.size, j, none⟩ := by rw [hn]; simp [Addr.add]; omega
  rw [e, World.cell?_alloc_new]
  simpa [Felt5.vals] using hj
theorem felt_one (x : Felt5) : ∀ u ∈ x.vals, u.oneCell' = true := by
  intro u hu
  simp only [Felt5.vals, List.mem_cons, List.not_mem_nil, or_false] at hu
  rcases hu with rfl | rfl | rfl | rfl | rfl <;> rfl
theorem range5 {α : Type} (f : Nat → α) (n : Nat) : (List.range ((n + 1) * 5)).map f = (List.range (n * 5)).map f ++ [f (n * 5), f (n * 5 + 1), f (n * 5 + 2), f (n * 5 + 3), f (n * 5 + 4)] := by
  have e : (n + 1) * 5 = n * 5 + 1 + 1 + 1 + 1 + 1 := by omega
  rw [e, List.range_succ, List.range_succ, List.range_succ, List.range_succ, List.range_succ]
  simp
theorem made_felts (n : Nat) : (madeCells #[.int .i64 0, .int .i64 0, .int .i64 0, .int .i64 0, .bool false] (n * 5)).toList = (List.replicate n (⟨0, 0, 0, 0, false⟩ : Felt5)).flatMap Felt5.vals := by
  have hm : ∀ k, (madeCells #[.int .i64 0, .int .i64 0, .int .i64 0, .int .i64 0, .bool false] k).toList = (List.range k).map (fun i => (#[.int .i64 0, .int .i64 0, .int .i64 0, .int .i64 0, .bool false] : Array Value)[i % 5]!) := fun k => by simp [madeCells]
  rw [hm]
  induction n with
  | zero => simp
  | succ n ih =>
    rw [range5, ih, List.replicate_succ', List.flatMap_append]
    congr 1
    have e0 : n * 5 % 5 = 0 := by omega
    have e1 : (n * 5 + 1) % 5 = 1 := by omega
    have e2 : (n * 5 + 2) % 5 = 2 := by omega
    have e3 : (n * 5 + 3) % 5 = 3 := by omega
    have e4 : (n * 5 + 4) % 5 = 4 := by omega
    simp only [e0, e1, e2, e3, e4]
    rfl

theorem infoFelt5 : (Try.prog.info? 28).map (fun i => (i.zero, i.size, i.bytes)) = some (some (.agg #[.int .i64 0, .int .i64 0, .int .i64 0, .int .i64 0, .bool false]), 5, 40) := by kernel_rfl
set_option maxRecDepth 100000 in
set_option maxHeartbeats 6400000 in
theorem drawRun_any {a : Option Addr} {len cap : Nat} {W : World} (hin : Came a len W) :
    Calls Try.prog 25 #[.slice a len cap] W fun e W' => ∃ (s h d ac k : Int) (v : Value) (fs : List Felt5), e = .returned (.tuple #[.agg #[.int .i64 s, .int .i64 h, .int .i64 d, .int .i64 ac, .int .i64 k], v]) ∧ fs.length ≤ 1001 ∧ W'.ownsRow (W.heap.size + 1) 28 5 v fs.length (fs.flatMap Felt5.vals) ∧ Below W.heap.size W W' := by
  obtain ⟨i0, hi, hz0, hz1, hz2⟩ := info_parts infoFelt5
  have hC0 : Cur (W.heap.size + 1) a len cap 0 ((W.alloc (.cells #[.int .i64 0, .int .i64 0, .int .i64 0, .int .i64 0, .int .i64 0] 24)).alloc (.cells #[.slice a len cap, .int .i64 0, .int .u64 0] 57)) := by
    have := cur_box (cap := cap) (hin.keep (bone W (.cells #[.int .i64 0, .int .i64 0, .int .i64 0, .int .i64 0, .int .i64 0] 24))) 57
    rw [World.size_alloc] at this
    exact this
  have hL0 := (Lay.new W #[.int .i64 0, .int .i64 0, .int .i64 0, .int .i64 0, .int .i64 0] 24).alloc (.cells #[.slice a len cap, .int .i64 0, .int .u64 0] 57)
  have hBW : Below W.heap.size W ((W.alloc (.cells #[.int .i64 0, .int .i64 0, .int .i64 0, .int .i64 0, .int .i64 0] 24)).alloc (.cells #[.slice a len cap, .int .i64 0, .int .u64 0] 57)) := bstep (bone _ _) (bone _ _)
  have hsz : ((W.alloc (.cells #[.int .i64 0, .int .i64 0, .int .i64 0, .int .i64 0, .int .i64 0] 24)).alloc (.cells #[.slice a len cap, .int .i64 0, .int .u64 0] 57)).heap.size = W.heap.size + 1 + 1 := by rw [World.size_alloc, World.size_alloc]
  have hF0 := Fin.first hC0
  have hn0 : W.heap.size ≠ (W.heap.size + 1) := by omega
  go_enter Try.func25, Try.ntmps25
  go_wp2_with fail
  refine (l4brakes_any hC0 (by omega)).mono ?_; rintro e w1 ⟨s, hh, d, ac, k, rfl, hP1⟩
  obtain ⟨W4, hW4⟩ : ∃ W4, W4 = ((W.alloc (.cells #[.int .i64 0, .int .i64 0, .int .i64 0, .int .i64 0, .int .i64 0] 24)).alloc (.cells #[.slice a len cap, .int .i64 0, .int .u64 0] 57)) := ⟨_, rfl⟩
  rw [← hW4] at hC0 hL0 hBW hF0 hsz hP1
  clear hW4
  have hs1 := hP1.but.size
  have hle4 : W4.heap.size ≤ w1.heap.size := hs1
  have hW2 : W.heap.size + 1 < W4.heap.size := by omega
  have hB1 := Lay.new w1 #[.int .i64 s, .int .i64 hh, .int .i64 d, .int .i64 ac, .int .i64 k] 24
  have hM0 := (hL0.fin hP1 hn0).alloc (.cells #[.int .i64 s, .int .i64 hh, .int .i64 d, .int .i64 ac, .int .i64 k] 24)
  have hG1 := (hF0.then hP1).alloc (.cells #[.int .i64 s, .int .i64 hh, .int .i64 d, .int .i64 ac, .int .i64 k] 24)
  clear hL0 hF0 hP1 hC0 hsz hs1
  have hb4 : w1.heap.size ≠ (W.heap.size + 1) := by omega
  have hCb : (W.heap.size + 1) < w1.heap.size + 1 := by omega
  go_wp2_with fail
  refine (pick_fin 14 hG1.cur (by omega) (by omega) (by omega)).mono ?_; rintro e w2 ⟨n0, rfl, l0, u0, hP2⟩
  have hB2 := hB1.fin hP2 hb4
  have hM2 := hM0.fin hP2 hn0
  have hG2 := hG1.then hP2
  clear hB1 hM0 hG1 hP2
  go_wp2
  go_loopw [6, 7] (fun so sn wr => ∃ (v0 : Value) (xs : List Felt5) (n : Int), v0 = so ∧ sn = .int .i64 n ∧ 0 ≤ n ∧ n + xs.length = n0 ∧ wr.ownsRow (w1.heap.size + 1) 28 5 v0 xs.length (xs.flatMap Felt5.vals) ∧ Lay w1.heap.size [.int .i64 s, .int .i64 hh, .int .i64 d, .int .i64 ac, .int .i64 k] wr ∧ Lay W.heap.size [.int .i64 0, .int .i64 0, .int .i64 0, .int .i64 0, .int .i64 0] wr ∧ Fin (W.heap.size + 1) a len cap (20 + 20 * (xs.length : Int)) W4 wr) (fun _ sn _ => (intOf sn).toNat)
  case atStart => exact ⟨_, [], n0, rfl, rfl, l0, by simp, World.ownsRow_nil _ _ _ _, hB2, hM2, hG2.mono (by simp)⟩
  case round =>
    obtain ⟨v0, xs, n, rfl, rfl, hn, hnl, hown, hB, hM, hG⟩ := hrel
    clear hB2 hM2 hG2
    have hlen : (xs.length : Int) ≤ 13 := by omega
    have hlen2 : xs.length ≤ 1000 := by omega
    have hnu : n ≤ 13 := by omega
    have HNL : Hid (n + xs.length = n0) := hnl
    clear hnl
    by_cases hpos : 0 < n
    · go_wp2_with fail
      refine (drawFelt_any hG.cur (by omega)).mono ?_; rintro e w3 ⟨f, rfl, hP3⟩
      have hs3 := hP3.but.size
      have hltr : w1.heap.size < wr.heap.size := hB.lt
      have hb5 : w3.heap.size ≠ (W.heap.size + 1) := by omega
      have hne1 : w3.heap.size ≠ w1.heap.size := by omega
      have hne2 : w3.heap.size ≠ W.heap.size := by omega
      have hrow : ∀ k, v0.ownBlock = some k → k ≠ w3.heap.size := fun k hk => by have := (World.ownsRow.lt hown k hk).2; omega
      have hB3 := (hB.fin hP3 hb4).alloc (.cells #[.int .i64 f.high, .int .i64 f.speed, .int .i64 f.en, .int .i64 f.lim, .bool f.ack] 28)
      have hM3 := (hM.fin hP3 hn0).alloc (.cells #[.int .i64 f.high, .int .i64 f.speed, .int .i64 f.en, .int .i64 f.lim, .bool f.ack] 28)
      have hF3 := Lay.new w3 #[.int .i64 f.high, .int .i64 f.speed, .int .i64 f.en, .int .i64 f.lim, .bool f.ack] 28
      have hO3 := (own_fin hown hCb hP3).alloc (.cells #[.int .i64 f.high, .int .i64 f.speed, .int .i64 f.en, .int .i64 f.lim, .bool f.ack] 28)
      have hG3 := (hG.then hP3).alloc (.cells #[.int .i64 f.high, .int .i64 f.speed, .int .i64 f.en, .int .i64 f.lim, .bool f.ack] 28)
      clear hB hM hG hP3
      go_wp2_with fail
      refine (pick_fin 3 hG3.cur (by omega) (by omega) (by omega)).mono ?_; rintro e w4 ⟨x, rfl, l4, u4, hP4⟩
      have hB4 := hB3.fin hP4 hb4
      have hM4 := hM3.fin hP4 hn0
      have hF4 := hF3.fin hP4 hb5
      have hO4 := own_fin hO3 hCb hP4
      have hG4 := hG3.then hP4
      clear hB3 hM3 hF3 hO3 hG3 hP4
      go_upto_if 24 with fail
      go_cut [] from 16 to 32 (fun wx => ∃ (w6 : World) (f2 : Felt5), w6 = wx ∧ Lay w1.heap.size [.int .i64 s, .int .i64 hh, .int .i64 d, .int .i64 ac, .int .i64 k] wx ∧ Lay w3.heap.size [.int .i64 f2.high, .int .i64 f2.speed, .int .i64 f2.en, .int .i64 f2.lim, .bool f2.ack] wx ∧ Lay W.heap.size [.int .i64 0, .int .i64 0, .int .i64 0, .int .i64 0, .int .i64 0] wx ∧ wx.ownsRow (w1.heap.size + 1) 28 5 v0 xs.length (xs.flatMap Felt5.vals) ∧ Fin (W.heap.size + 1) a len cap (40 + 20 * (xs.length : Int)) W4 wx)
      case first =>
        by_cases hx : x = 0
        · subst hx
          obtain ⟨b0, b1, b2, b3, b4, bf, _⟩ := hB4.five
          obtain ⟨c0, c1, c2, c3, c4, cf, _⟩ := hF4.five
          go_wp2_with fail
          refine (edge_any s hh d ac k f hG4.cur (by omega)).mono ?_; rintro e w5 ⟨f2, rfl, hP5⟩
          have hB5 := hB4.fin hP5 hb4
          have hF5 := hF4.fin hP5 hb5
          have hM5 := hM4.fin hP5 hn0
          have hO5 := own_fin hO4 hCb hP5
          have hG5 := (hG4.then hP5).mono (m' := 40 + 20 * (xs.length : Int)) (by omega)
          clear b0 b1 b2 b3 b4 bf c0 c1 c2 c3 c4 cf hB4 hF4 hM4 hO4 hG4 hP5
          obtain ⟨c0, c1, c2, c3, c4, cf, _⟩ := hF5.five
          go_wp2_with fail
          go_meet
          refine ⟨_, f2, rfl, ?_, ?_, ?_, ?_, ?_⟩
          · repeat (first | with_reducible exact hB5 | refine Lay.far ?_ hne1 _ _)
          · exact ((((hF5.set 0 (.int .i64 f2.high) (by simp)).set 1 (.int .i64 f2.speed) (by simp)).set 2 (.int .i64 f2.en) (by simp)).set 3 (.int .i64 f2.lim) (by simp)).set 4 (.bool f2.ack) (by simp)
          · repeat (first | with_reducible exact hM5 | refine Lay.far ?_ hne2 _ _)
          · repeat (first | with_reducible exact hO5 | refine own_far ?_ hrow)
          · repeat (first | with_reducible exact hG5 | refine Fin.set ?_ (by omega) _ _)
        · have hx' : (x == 0) = false := by simp [hx]
          go_wp2_with fail
          go_meet
          exact ⟨_, f, rfl, hB4, hF4, hM4, hO4, hG4.mono (by omega)⟩
      case rest =>
        obtain ⟨w6, f2, rfl, hB6, hF6, hM6, hO6, hG6⟩ := hcut
        clear hB4 hF4 hM4 hO4 hG4
        obtain ⟨c0, c1, c2, c3, c4, cf, clt⟩ := hF6.five
        have hbase : w1.heap.size + 1 ≤ w6.heap.size := hB6.lt
        go_wp2_with (at_builtin; refine wpList_append_own _ rfl _ _ 42 rfl (w1.heap.size + 1) 28 i0 (.agg #[.int .i64 0, .int .i64 0, .int .i64 0, .int .i64 0, .bool false]) 5 40 Try.underlying42 hi hz0 hz1 hz2 rfl (by decide) _ _ _ rfl (hO6.alloc _) ⟨w6.heap.size, 0, none⟩ 1 1 f2.vals rfl rfl (new_felt w6 _ rfl f2 _) (felt_one f2) (len_ok1 hlen2) (by omega) (by rw [World.size_alloc]; omega) ?_; intro v2 w10 hown2 hgrow _)
        have hrow2 : ∀ k, v0.ownBlock = some k → w1.heap.size + 1 ≤ k := own_ge hown
        have R1 := (hB6.alloc _).grown hgrow (fun e => by have := hrow2 _ e; omega)
        have R2 := (hM6.alloc _).grown hgrow (fun e => by have := hrow2 _ e; omega)
        have R3 := ((hG6.alloc _).grown hgrow (fun k hk => by have := hrow2 _ hk; omega)).mono (m' := 20 + 20 * ((xs ++ [f2]).length : Int)) (by rw [List.length_append, List.length_singleton]; omega)
        have HO : Hid (w10.ownsRow (w1.heap.size + 1) 28 5 v2 (xs ++ [f2]).length ((xs ++ [f2]).flatMap Felt5.vals)) := by
          show World.ownsRow _ _ _ _ _ _ _
          simpa using hown2
        have HN2 : Hid (n - 1 + ((xs ++ [f2]).length : Int) = n0) := by have := HNL.out; show _ = _; rw [List.length_append, List.length_singleton]; omega
        clear hown2 hgrow hown hO6 c0 c1 c2 c3 c4 cf
        go_wp2
        go_roundw
        case rel => exact ⟨_, xs ++ [f2], n - 1, rfl, rfl, by omega, HN2.out, HO.out, R1, R2, R3⟩
        case measure => simp [intOf]; omega
    · go_wp2_with fail
      refine (pick_fin 60 hG.cur (by omega) (by omega) (by omega)).mono ?_; rintro e w5 ⟨x, rfl, l5, u5, hP5⟩
      have hB5 := hB.fin hP5 hb4
      have hM5 := hM.fin hP5 hn0
      have hG5 := hG.then hP5
      have hO5 := own_fin hown hCb hP5
      clear hB hM hG hown hP5
      by_cases hx : x = 0
      · subst hx
        go_wp2_with fail
        refine (pick_fin 2 hG5.cur (by omega) (by omega) (by omega)).mono ?_; rintro e w6 ⟨y, rfl, l6, u6, hP6⟩
        have hB6 := hB5.fin hP6 hb4
        have hM6 := hM5.fin hP6 hn0
        have hG6 := hG5.then hP6
        clear hB5 hM5 hG5 hO5 hP6
        have hy : y = 0 ∨ y = 1 := by omega
        rcases hy with rfl | rfl
        · go_wp2_with (at_make; refine wpList_make_full _ rfl _ _ 42 rfl (w1.heap.size + 1) 28 i0 (.agg #[.int .i64 0, .int .i64 0, .int .i64 0, .int .i64 0, .bool false]) 5 Try.underlying42 hi hz0 hz1 .i64 .i64 _ _ 1000 rfl rfl rfl rfl (by rw [hz2]; omega) (by unfold maxLen; omega) (by have := hB6.lt; omega) ?_; intro w7 hown7 hgrow7; have hB9 := hB6.grown hgrow7 (by simp); have hM9 := hM6.grown hgrow7 (by simp); have hG9 := hG6.grown hgrow7 (by simp); have hO9 : w7.ownsRow (w1.heap.size + 1) 28 5 (.slice (some ⟨w6.heap.size, 0, none⟩) 1000 1000) (List.replicate 1000 (⟨0, 0, 0, 0, false⟩ : Felt5)).length ((List.replicate 1000 (⟨0, 0, 0, 0, false⟩ : Felt5)).flatMap Felt5.vals) := (by rw [← made_felts, List.length_replicate]; exact hown7); clear hown7; obtain ⟨b0, b1, b2, b3, b4, bf, _⟩ := hB9.five; obtain ⟨r0, r1, r2, r3, r4, rf, _⟩ := hM9.five)
          have hBel : Below W.heap.size W w7 := hBW.trans (hG9.but.below (by omega) (by omega))
          refine bodyPost_ret (v := .tuple #[.agg #[.int .i64 s, .int .i64 hh, .int .i64 d, .int .i64 ac, .int .i64 k], .slice (some ⟨w6.heap.size, 0, none⟩) 1000 1000]) (by simp [results, Try.results25, go_sem, r0, r1, r2, r3, r4]) rfl ⟨s, hh, d, ac, k, _, List.replicate 1000 ⟨0, 0, 0, 0, false⟩, rfl, by rw [List.length_replicate]; omega, ?_, ?_⟩
          · exact ownsRow_sets (ownsRow_base hO9 (by omega)) (by omega) _ _ _ _ _
          · repeat (first | with_reducible exact hBel | refine Below.setCell ?_ (by show W.heap.size ≤ W.heap.size; omega) _)
        · go_wp2_with (at_make; refine wpList_make_full _ rfl _ _ 42 rfl (w1.heap.size + 1) 28 i0 (.agg #[.int .i64 0, .int .i64 0, .int .i64 0, .int .i64 0, .bool false]) 5 Try.underlying42 hi hz0 hz1 .i64 .i64 _ _ 1001 rfl rfl rfl rfl (by rw [hz2]; omega) (by unfold maxLen; omega) (by have := hB6.lt; omega) ?_; intro w7 hown7 hgrow7; have hB9 := hB6.grown hgrow7 (by simp); have hM9 := hM6.grown hgrow7 (by simp); have hG9 := hG6.grown hgrow7 (by simp); have hO9 : w7.ownsRow (w1.heap.size + 1) 28 5 (.slice (some ⟨w6.heap.size, 0, none⟩) 1001 1001) (List.replicate 1001 (⟨0, 0, 0, 0, false⟩ : Felt5)).length ((List.replicate 1001 (⟨0, 0, 0, 0, false⟩ : Felt5)).flatMap Felt5.vals) := (by rw [← made_felts, List.length_replicate]; exact hown7); clear hown7; obtain ⟨b0, b1, b2, b3, b4, bf, _⟩ := hB9.five; obtain ⟨r0, r1, r2, r3, r4, rf, _⟩ := hM9.five)
          have hBel : Below W.heap.size W w7 := hBW.trans (hG9.but.below (by omega) (by omega))
          refine bodyPost_ret (v := .tuple #[.agg #[.int .i64 s, .int .i64 hh, .int .i64 d, .int .i64 ac, .int .i64 k], .slice (some ⟨w6.heap.size, 0, none⟩) 1001 1001]) (by simp [results, Try.results25, go_sem, r0, r1, r2, r3, r4]) rfl ⟨s, hh, d, ac, k, _, List.replicate 1001 ⟨0, 0, 0, 0, false⟩, rfl, by rw [List.length_replicate]; omega, ?_, ?_⟩
          · exact ownsRow_sets (ownsRow_base hO9 (by omega)) (by omega) _ _ _ _ _
          · repeat (first | with_reducible exact hBel | refine Below.setCell ?_ (by show W.heap.size ≤ W.heap.size; omega) _)
      · have hB9 := hB5
        have hM9 := hM5
        have hG9 := hG5
        have hO9 := hO5
        have hx' : (x == 0) = false := by simp [hx]
        clear hB5 hM5 hG5 hO5
        obtain ⟨b0, b1, b2, b3, b4, bf, _⟩ := hB9.five
        obtain ⟨r0, r1, r2, r3, r4, rf, _⟩ := hM9.five
        have hBel : Below W.heap.size W w5 := hBW.trans (hG9.but.below (by omega) (by omega))
        go_wp2
        refine bodyPost_ret (v := .tuple #[.agg #[.int .i64 s, .int .i64 hh, .int .i64 d, .int .i64 ac, .int .i64 k], v0]) (by simp [results, Try.results25, go_sem, r0, r1, r2, r3, r4]) rfl ⟨s, hh, d, ac, k, v0, xs, rfl, by omega, ?_, ?_⟩
        · exact ownsRow_sets (ownsRow_base hO9 (by omega)) (by omega) _ _ _ _ _
        · repeat (first | with_reducible exact hBel | refine Below.setCell ?_ (by show W.heap.size ≤ W.heap.size; omega) _)

end Go.Proofs.Ytgpphkjdmonkaaa
