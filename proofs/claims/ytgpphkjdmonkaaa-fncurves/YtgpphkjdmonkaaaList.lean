/-
  The list of what happens that the model draws for a law; the drawing as a whole.
-/
import Derived.Test.YtgpphkjdmonkaaaActs
namespace Go.Proofs.Ytgpphkjdmonkaaa
open Go.RowKit
attribute [local go_sem ↓] Go.wp_at_zero Go.wp_at_succ

theorem infoAct : (Try.prog.info? 96).map (fun i => (i.zero, i.size, i.bytes)) = some (some (.agg #[.int .i64 0, .int .i64 0, .int .i64 0, .int .i64 0, .int .i64 0, .int .i64 0, .bool false]), 7, 56) := by kernel_rfl

theorem act_at {C : Nat} {p : Option Addr} {len cap : Nat} {m : Int} {W : World} (s h d a k en : Int) (hC : Cur C p len cap m W) (hm : m ≤ 800000) (hd : drawnB s h d a k) (he : 0 ≤ en) (he' : en ≤ 1000000) :
    Calls Try.prog 71 #[.pointer (some ⟨C, 0, none⟩), .agg #[.int .i64 s, .int .i64 h, .int .i64 d, .int .i64 a, .int .i64 k], .int .i64 en] W fun e W' => ∃ x : Act7, e = .returned (.agg #[.int .i64 x.want, .int .i64 x.off, .int .i64 x.fast, .int .i64 x.more, .int .i64 x.en, .int .i64 x.lim, .bool x.ack]) ∧ drawnA a x ∧ Cur C p len cap (m + 9) W' ∧ But C W W' :=
  act_any s h d a k en hC hm hd he he'
theorem new_vals (w : World) (x : Act7) : ∀ j u, x.vals[j]? = some u → (w.alloc (.cells #[.int .i64 x.want, .int .i64 x.off, .int .i64 x.fast, .int .i64 x.more, .int .i64 x.en, .int .i64 x.lim, .bool x.ack] 96)).cell? ((⟨w.heap.size, 0, none⟩ : Addr).add j) = some u := by
  intro j u hj
  have e : ((⟨w.heap.size, 0, none⟩ : Addr).add j) = ⟨w.heap.size, j, none⟩ := by simp [Addr.add]; omega
  rw [e, World.cell?_alloc_new]
  simpa [Act7.vals] using hj
theorem vals_one (x : Act7) : ∀ u ∈ x.vals, u.oneCell' = true := by
  intro u hu
  simp only [Act7.vals, List.mem_cons, List.not_mem_nil, or_false] at hu
  rcases hu with rfl | rfl | rfl | rfl | rfl | rfl | rfl <;> rfl
theorem len_ok {n : Nat} (h : n ≤ 69) : n + 1 ≤ maxLen := by unfold maxLen; omega
theorem base_ok {C b : Nat} {W1 wr w9 : World} (h1 : W1.heap.size = b) (h : But C W1 wr) (h9 : But C wr w9) (o : Obj) : b ≤ (w9.alloc o).heap.size := by
  have := h.size; have := h9.size; rw [World.size_alloc]; omega
theorem box_at {C n o : Nat} {W1 w : World} {v : Value} (h : But C W1 w) (hn : n < W1.heap.size) (hne : n ≠ C) (hc : W1.cell? ⟨n, o, none⟩ = some v) : w.cell? ⟨n, o, none⟩ = some v := (h.cell hn hne).trans hc
/-- What a round does to the list that it lengthens. -/
theorem acts_step {C : Nat} {p : Option Addr} {len cap : Nat} {m0 m : Int} {W W1 wr w9 w10 : World} {v v2 : Value} {xs : List Act7} {x : Act7} {o : Obj} (hC : Cur C p len cap m0 W) (hCb : C < W.heap.size + 1) (hB : But C W1 wr) (hC9 : Cur C p len cap m w9) (hB9 : But C wr w9)
    (hW1 : But C W W1 ∧ W1.heap.size = W.heap.size + 1) (hown : wr.ownsRow (W.heap.size + 1) 96 7 v xs.length (xs.flatMap Act7.vals)) (hown2 : w10.ownsRow (W.heap.size + 1) 96 7 v2 (xs.length + 1) (xs.flatMap Act7.vals ++ x.vals)) (hgrow : (w9.alloc o).grownBy w10 v.ownBlock) :
    w10.ownsRow (W.heap.size + 1) 96 7 v2 (xs ++ [x]).length ((xs ++ [x]).flatMap Act7.vals) ∧ Cur C p len cap m w10 ∧ But C W1 w10 := by
  have hb : But C W1 w10 := ((hB.trans hB9).alloc o).grown hgrow (fun k hk => by rw [hW1.2]; exact own_ge hown k hk)
  refine ⟨by simpa using hown2, (hC9.below (bone _ o)).move (hgrow.block C (by have := hC9.lt; rw [World.size_alloc]; omega) (fun e => by have := own_ge hown C e.symm; omega)) (hC.row.keep (hW1.1.trans hb)), hb⟩

set_option maxRecDepth 100000 in
set_option maxHeartbeats 6400000 in
theorem acts_any {C : Nat} {p : Option Addr} {len cap : Nat} {m : Int} {W : World} (s h d a k : Int) (hC : Cur C p len cap m W) (hm : m ≤ 700000) (hd : drawnB s h d a k) :
    Calls Try.prog 52 #[.pointer (some ⟨C, 0, none⟩), .agg #[.int .i64 s, .int .i64 h, .int .i64 d, .int .i64 a, .int .i64 k]] W fun e W' => ∃ (v : Value) (xs : List Act7), e = .returned v ∧ (∀ x ∈ xs, drawnA a x) ∧ xs.length ≤ 69 ∧ W'.ownsRow (W.heap.size + 1) 96 7 v xs.length (xs.flatMap Act7.vals) ∧ Cur C p len cap (m + 1000) W' ∧ But C W W' := by
  have hlt := hC.lt
  have hne : W.heap.size ≠ C := by omega
  have hCb : C < W.heap.size + 1 := by omega
  obtain ⟨i0, hi, hz0, hz1, hz2⟩ := info_parts infoAct
  obtain ⟨W1, hW1⟩ : ∃ W1, W1 = W.alloc (.cells #[.int .i64 s, .int .i64 h, .int .i64 d, .int .i64 a, .int .i64 k] 24) := ⟨_, rfl⟩
  have hWW : But C W W1 ∧ W1.heap.size = W.heap.size + 1 := by rw [hW1]; exact ⟨But.of (bone _ _), by rw [World.size_alloc]⟩
  have b0 : W1.cell? ⟨W.heap.size, 0, none⟩ = some (.int .i64 s) := by rw [hW1]; simp
  have b1 : W1.cell? ⟨W.heap.size, 1, none⟩ = some (.int .i64 h) := by rw [hW1]; simp
  have b2 : W1.cell? ⟨W.heap.size, 2, none⟩ = some (.int .i64 d) := by rw [hW1]; simp
  have b3 : W1.cell? ⟨W.heap.size, 3, none⟩ = some (.int .i64 a) := by rw [hW1]; simp
  have b4 : W1.cell? ⟨W.heap.size, 4, none⟩ = some (.int .i64 k) := by rw [hW1]; simp
  have hC1 : Cur C p len cap m (W.alloc (.cells #[.int .i64 s, .int .i64 h, .int .i64 d, .int .i64 a, .int .i64 k] 24)) := hC.below (bone _ _)
  have hB1 : But C W1 (W.alloc (.cells #[.int .i64 s, .int .i64 h, .int .i64 d, .int .i64 a, .int .i64 k] 24)) := by rw [hW1]; exact But.refl _ _
  clear hW1
  go_enter Try.func52, Try.ntmps52
  go_wp2_with fail
  refine (wide_any 3000 hC1 (by omega) (by omega) (by omega)).mono ?_; rintro e w1 ⟨e0, rfl, le0, ue0, hC2, hb1⟩
  go_wp2_with fail
  refine (pick_any 60 hC2 (by omega) (by omega) (by omega)).mono ?_; rintro e w2 ⟨n0, rfl, ln0, un0, hC3, hb2⟩
  have hB2 : But C W1 w2 := (hB1.trans hb1).trans hb2
  clear hC1 hB1 hC2 hb1 hb2
  go_wp2
  go_loopw [5, 6, 7] (fun so se sn wr => ∃ (xs : List Act7) (en n : Int), wr.ownsRow (W.heap.size + 1) 96 7 so xs.length (xs.flatMap Act7.vals) ∧ se = .int .i64 en ∧ sn = .int .i64 n ∧ 0 ≤ n ∧ n + xs.length = 10 + n0 ∧ 0 ≤ en ∧ en ≤ 3000 + 2000 * (xs.length : Int) ∧ (∀ x ∈ xs, drawnA a x) ∧ Cur C p len cap (m + 3 + 13 * (xs.length : Int)) wr ∧ But C W1 wr) (fun _ _ sn _ => (intOf sn).toNat)
  case atStart => exact ⟨[], e0, 10 + n0, World.ownsRow_nil _ _ _ _, rfl, rfl, by omega, by simp, by omega, by simp; omega, by simp, hC3.mono (by simp; omega), hB2⟩
  case round =>
    obtain ⟨xs, en, n, hown, rfl, rfl, hn, hnl, he0, he1, hxs, hCr, hB⟩ := hrel
    clear hC3 hB2
    have hlen : (xs.length : Int) ≤ 69 := by omega
    have hlen2 : xs.length ≤ 69 := by omega
    have hnu : n ≤ 69 := by omega
    have HNL : Hid (n + xs.length = 10 + n0) := hnl
    clear hnl
    by_cases hpos : 0 < n
    · go_wp2_with fail
      refine (pick_any 12 hCr (by omega) (by omega) (by omega)).mono ?_; rintro e w3 ⟨x0, rfl, lx0, ux0, hC4, hb4⟩
      have hBw3 := hB.trans hb4
      by_cases hx0 : x0 = 0
      · subst hx0
        go_wp2_with fail
        refine (wide_any 2000 hC4 (by omega) (by omega) (by omega)).mono ?_; rintro e w4 ⟨y, rfl, ly, uy, hC5, hb5⟩
        have c0a := box_at (hBw3.trans hb5) (o := 0) (by omega) hne b0
        have c1a := box_at (hBw3.trans hb5) (o := 1) (by omega) hne b1
        have c2a := box_at (hBw3.trans hb5) (o := 2) (by omega) hne b2
        have c3a := box_at (hBw3.trans hb5) (o := 3) (by omega) hne b3
        have c4a := box_at (hBw3.trans hb5) (o := 4) (by omega) hne b4
        go_wp2_with fail
        refine (act_at s h d a k (en + y) hC5 (by omega) hd (by omega) (by omega)).mono ?_; rintro e w9 ⟨x, rfl, hdx, hC9, hb9⟩
        have hB9 : But C wr w9 := (hb4.trans hb5).trans hb9
        have hown9 := ownsRow_but hown hCb hB9
        go_wp2_with (at_builtin; refine wpList_append_own _ rfl _ _ 37 rfl (W.heap.size + 1) 96 i0 (.agg #[.int .i64 0, .int .i64 0, .int .i64 0, .int .i64 0, .int .i64 0, .int .i64 0, .bool false]) 7 56 Try.underlying37 hi hz0 hz1 hz2 rfl (by decide) _ _ _ rfl (hown9.alloc _) ⟨w9.heap.size, 0, none⟩ 1 1 x.vals rfl rfl (new_vals w9 x) (vals_one x) (len_ok hlen2) (by omega) (base_ok hWW.2 hB hB9 _) ?_; intro v2 w10 hown2 hgrow _)
        have R := acts_step hC hCb hB (hC9.mono (m' := m + 3 + 13 * ((xs ++ [x]).length : Int)) (by rw [List.length_append, List.length_singleton]; omega)) hB9 hWW hown hown2 hgrow
        have HN2 : Hid (n - 1 + ((xs ++ [x]).length : Int) = 10 + n0) := by have := HNL.out; show _ = _; rw [List.length_append, List.length_singleton]; omega
        have HE2 : Hid ((en + y) ≤ 3000 + 2000 * ((xs ++ [x]).length : Int)) := by show _ ≤ _; rw [List.length_append, List.length_singleton]; omega
        clear hown9 hown2 hgrow hown hC9 hb9
        go_wp2
        go_roundw
        case rel => exact ⟨xs ++ [x], (en + y), n - 1, R.1, rfl, rfl, by omega, HN2.out, by omega, HE2.out, forall_snoc hxs hdx, R.2.1, R.2.2⟩
        case measure => simp [intOf]; omega
      · by_cases hx1 : x0 = 1
        · subst hx1
          go_wp2_with fail
          refine (pick_any 3 hC4 (by omega) (by omega) (by omega)).mono ?_; rintro e w4 ⟨y, rfl, ly, uy, hC5, hb5⟩
          by_cases hy : y = 0
          · subst hy
            go_wp2_with fail
            refine (wide_any 600 hC5 (by omega) (by omega) (by omega)).mono ?_; rintro e w5 ⟨z, rfl, lz, uz, hC6, hb6⟩
            have c0b := box_at ((hBw3.trans hb5).trans hb6) (o := 0) (by omega) hne b0
            have c1b := box_at ((hBw3.trans hb5).trans hb6) (o := 1) (by omega) hne b1
            have c2b := box_at ((hBw3.trans hb5).trans hb6) (o := 2) (by omega) hne b2
            have c3b := box_at ((hBw3.trans hb5).trans hb6) (o := 3) (by omega) hne b3
            have c4b := box_at ((hBw3.trans hb5).trans hb6) (o := 4) (by omega) hne b4
            by_cases hneg : en - z < 0
            · go_wp2_with fail
              refine (act_at s h d a k 0 hC6 (by omega) hd (by omega) (by omega)).mono ?_; rintro e w9 ⟨x, rfl, hdx, hC9, hb9⟩
              have hB9 : But C wr w9 := ((hb4.trans hb5).trans hb6).trans hb9
              have hown9 := ownsRow_but hown hCb hB9
              go_wp2_with (at_builtin; refine wpList_append_own _ rfl _ _ 37 rfl (W.heap.size + 1) 96 i0 (.agg #[.int .i64 0, .int .i64 0, .int .i64 0, .int .i64 0, .int .i64 0, .int .i64 0, .bool false]) 7 56 Try.underlying37 hi hz0 hz1 hz2 rfl (by decide) _ _ _ rfl (hown9.alloc _) ⟨w9.heap.size, 0, none⟩ 1 1 x.vals rfl rfl (new_vals w9 x) (vals_one x) (len_ok hlen2) (by omega) (base_ok hWW.2 hB hB9 _) ?_; intro v2 w10 hown2 hgrow _)
              have R := acts_step hC hCb hB (hC9.mono (m' := m + 3 + 13 * ((xs ++ [x]).length : Int)) (by rw [List.length_append, List.length_singleton]; omega)) hB9 hWW hown hown2 hgrow
              have HN2 : Hid (n - 1 + ((xs ++ [x]).length : Int) = 10 + n0) := by have := HNL.out; show _ = _; rw [List.length_append, List.length_singleton]; omega
              have HE2 : Hid (0 ≤ 3000 + 2000 * ((xs ++ [x]).length : Int)) := by show _ ≤ _; rw [List.length_append, List.length_singleton]; omega
              clear hown9 hown2 hgrow hown hC9 hb9
              go_wp2
              go_roundw
              case rel => exact ⟨xs ++ [x], 0, n - 1, R.1, rfl, rfl, by omega, HN2.out, by omega, HE2.out, forall_snoc hxs hdx, R.2.1, R.2.2⟩
              case measure => simp [intOf]; omega
            · go_wp2_with fail
              refine (act_at s h d a k (en - z) hC6 (by omega) hd (by omega) (by omega)).mono ?_; rintro e w9 ⟨x, rfl, hdx, hC9, hb9⟩
              have hB9 : But C wr w9 := ((hb4.trans hb5).trans hb6).trans hb9
              have hown9 := ownsRow_but hown hCb hB9
              go_wp2_with (at_builtin; refine wpList_append_own _ rfl _ _ 37 rfl (W.heap.size + 1) 96 i0 (.agg #[.int .i64 0, .int .i64 0, .int .i64 0, .int .i64 0, .int .i64 0, .int .i64 0, .bool false]) 7 56 Try.underlying37 hi hz0 hz1 hz2 rfl (by decide) _ _ _ rfl (hown9.alloc _) ⟨w9.heap.size, 0, none⟩ 1 1 x.vals rfl rfl (new_vals w9 x) (vals_one x) (len_ok hlen2) (by omega) (base_ok hWW.2 hB hB9 _) ?_; intro v2 w10 hown2 hgrow _)
              have R := acts_step hC hCb hB (hC9.mono (m' := m + 3 + 13 * ((xs ++ [x]).length : Int)) (by rw [List.length_append, List.length_singleton]; omega)) hB9 hWW hown hown2 hgrow
              have HN2 : Hid (n - 1 + ((xs ++ [x]).length : Int) = 10 + n0) := by have := HNL.out; show _ = _; rw [List.length_append, List.length_singleton]; omega
              have HE2 : Hid ((en - z) ≤ 3000 + 2000 * ((xs ++ [x]).length : Int)) := by show _ ≤ _; rw [List.length_append, List.length_singleton]; omega
              clear hown9 hown2 hgrow hown hC9 hb9
              go_wp2
              go_roundw
              case rel => exact ⟨xs ++ [x], (en - z), n - 1, R.1, rfl, rfl, by omega, HN2.out, by omega, HE2.out, forall_snoc hxs hdx, R.2.1, R.2.2⟩
              case measure => simp [intOf]; omega
          · have hy2 : (y == 0) = false := by simp [hy]
            have c0c := box_at (hBw3.trans hb5) (o := 0) (by omega) hne b0
            have c1c := box_at (hBw3.trans hb5) (o := 1) (by omega) hne b1
            have c2c := box_at (hBw3.trans hb5) (o := 2) (by omega) hne b2
            have c3c := box_at (hBw3.trans hb5) (o := 3) (by omega) hne b3
            have c4c := box_at (hBw3.trans hb5) (o := 4) (by omega) hne b4
            go_wp2_with fail
            refine (act_at s h d a k en hC5 (by omega) hd (by omega) (by omega)).mono ?_; rintro e w9 ⟨x, rfl, hdx, hC9, hb9⟩
            have hB9 : But C wr w9 := (hb4.trans hb5).trans hb9
            have hown9 := ownsRow_but hown hCb hB9
            go_wp2_with (at_builtin; refine wpList_append_own _ rfl _ _ 37 rfl (W.heap.size + 1) 96 i0 (.agg #[.int .i64 0, .int .i64 0, .int .i64 0, .int .i64 0, .int .i64 0, .int .i64 0, .bool false]) 7 56 Try.underlying37 hi hz0 hz1 hz2 rfl (by decide) _ _ _ rfl (hown9.alloc _) ⟨w9.heap.size, 0, none⟩ 1 1 x.vals rfl rfl (new_vals w9 x) (vals_one x) (len_ok hlen2) (by omega) (base_ok hWW.2 hB hB9 _) ?_; intro v2 w10 hown2 hgrow _)
            have R := acts_step hC hCb hB (hC9.mono (m' := m + 3 + 13 * ((xs ++ [x]).length : Int)) (by rw [List.length_append, List.length_singleton]; omega)) hB9 hWW hown hown2 hgrow
            have HN2 : Hid (n - 1 + ((xs ++ [x]).length : Int) = 10 + n0) := by have := HNL.out; show _ = _; rw [List.length_append, List.length_singleton]; omega
            have HE2 : Hid (en ≤ 3000 + 2000 * ((xs ++ [x]).length : Int)) := by show _ ≤ _; rw [List.length_append, List.length_singleton]; omega
            clear hown9 hown2 hgrow hown hC9 hb9
            go_wp2
            go_roundw
            case rel => exact ⟨xs ++ [x], en, n - 1, R.1, rfl, rfl, by omega, HN2.out, by omega, HE2.out, forall_snoc hxs hdx, R.2.1, R.2.2⟩
            case measure => simp [intOf]; omega
        · have g0 : (x0 == 0) = false := by simp [hx0]
          have g1 : (x0 == 1) = false := by simp [hx1]
          have c0d := box_at hBw3 (o := 0) (by omega) hne b0
          have c1d := box_at hBw3 (o := 1) (by omega) hne b1
          have c2d := box_at hBw3 (o := 2) (by omega) hne b2
          have c3d := box_at hBw3 (o := 3) (by omega) hne b3
          have c4d := box_at hBw3 (o := 4) (by omega) hne b4
          go_wp2_with fail
          refine (act_at s h d a k en hC4 (by omega) hd (by omega) (by omega)).mono ?_; rintro e w9 ⟨x, rfl, hdx, hC9, hb9⟩
          have hB9 : But C wr w9 := hb4.trans hb9
          have hown9 := ownsRow_but hown hCb hB9
          go_wp2_with (at_builtin; refine wpList_append_own _ rfl _ _ 37 rfl (W.heap.size + 1) 96 i0 (.agg #[.int .i64 0, .int .i64 0, .int .i64 0, .int .i64 0, .int .i64 0, .int .i64 0, .bool false]) 7 56 Try.underlying37 hi hz0 hz1 hz2 rfl (by decide) _ _ _ rfl (hown9.alloc _) ⟨w9.heap.size, 0, none⟩ 1 1 x.vals rfl rfl (new_vals w9 x) (vals_one x) (len_ok hlen2) (by omega) (base_ok hWW.2 hB hB9 _) ?_; intro v2 w10 hown2 hgrow _)
          have R := acts_step hC hCb hB (hC9.mono (m' := m + 3 + 13 * ((xs ++ [x]).length : Int)) (by rw [List.length_append, List.length_singleton]; omega)) hB9 hWW hown hown2 hgrow
          have HN2 : Hid (n - 1 + ((xs ++ [x]).length : Int) = 10 + n0) := by have := HNL.out; show _ = _; rw [List.length_append, List.length_singleton]; omega
          have HE2 : Hid (en ≤ 3000 + 2000 * ((xs ++ [x]).length : Int)) := by show _ ≤ _; rw [List.length_append, List.length_singleton]; omega
          clear hown9 hown2 hgrow hown hC9 hb9
          go_wp2
          go_roundw
          case rel => exact ⟨xs ++ [x], en, n - 1, R.1, rfl, rfl, by omega, HN2.out, by omega, HE2.out, forall_snoc hxs hdx, R.2.1, R.2.2⟩
          case measure => simp [intOf]; omega
    · go_wp2
      go_ret
      exact ⟨_, rfl, xs, hxs, by omega, hown, hCr.mono (by omega), hWW.1.trans hB⟩

end Go.Proofs.Ytgpphkjdmonkaaa
