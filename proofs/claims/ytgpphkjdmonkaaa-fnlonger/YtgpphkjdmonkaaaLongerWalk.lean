/-
  The law that what is longer, slower, less far brakes nobody: the walk.
-/
import Derived.Test.YtgpphkjdmonkaaaEvenWalk
namespace Go.Proofs.Ytgpphkjdmonkaaa
open Go.RowKit
attribute [local go_sem ↓] Go.wp_at_zero Go.wp_at_succ

theorem worstP_up {s hh d a k v u : Int} (h1 : okB s hh d a k = true) (h0 : 0 ≤ v) (hv : v ≤ u) : worstP hh d a v ≤ worstP hh d a u := by
  obtain ⟨a1, a2, a3, a4, a5, a6, a7, a8, a9, a10⟩ := okB_iff.1 h1
  exact crv_up (t := d + 1) (g := a) (b := hh) (by omega) a7 (by omega) h0 hv
/-- A tick that is right, of a guard that is not hard, of a train that can be kept. -/
theorem tick_free {s hh d a k st en : Int} {f : Felt5} (h1 : okB s hh d a k = true) (h2 : guardB st en = true) (h3 : f.okB = true) (hst : st ≠ 3) (hk : keepsB hh d a f f.en = true) :
    (tickF s hh d a k st en f).ok = true ∧ (tickF s hh d a k st en f).st ≠ 3 := by
  refine ⟨by rw [tickF_ok, h1, h2, h3]; rfl, ?_⟩
  unfold tickF
  rw [h1, h2, h3]
  simp only [Bool.and_self, if_true, hk]
  rw [if_neg (by simp [hst]), if_neg (by simp)]
  split
  · split <;> simp
  · simp
theorem tick_kept {s hh d a k st en : Int} {f : Felt5} (h1 : okB s hh d a k = true) (h2 : guardB st en = true) (h3 : f.okB = true) (hx : (tickF s hh d a k st en f).st ≠ 3) : keepsB hh d a f f.en = true := by
  rcases Bool.eq_false_or_eq_true (keepsB hh d a f f.en) with hk | hk
  · exact hk
  · exfalso
    apply hx
    unfold tickF
    rw [h1, h2, h3]
    simp [hk]
/-- What is felt is right and the train can be kept, or its end is no place. -/
def Good (hh d a : Int) (f : Felt5) : Prop := (f.okB = true ∧ keepsB hh d a f f.en = true) ∨ (f.okB = false ∧ 100000000 < f.en)
theorem good_end {hh d a z : Int} {f : Felt5} (h3 : f.okB = true) (hk : keepsB hh d a f f.en = true) (hz : 0 ≤ z) : Good hh d a ⟨f.high, f.speed, f.en + z, f.lim, f.ack⟩ := by
  have hk2 : worstP hh d a f.speed ≤ f.en - f.high := of_decide_eq_true hk
  have hF := h3
  simp only [Felt5.okB, Bool.and_eq_true, inB_iff] at hF
  by_cases hb : f.en + z ≤ 100000000
  · left
    refine ⟨?_, decide_eq_true (by show worstP hh d a f.speed ≤ f.en + z - f.high; omega)⟩
    simp only [Felt5.okB, Bool.and_eq_true, inB_iff]
    omega
  · right
    refine ⟨?_, by show 100000000 < f.en + z; omega⟩
    have : inB (f.en + z) (-1) 100000000 = false := by
      rcases Bool.eq_false_or_eq_true (inB (f.en + z) (-1) 100000000) with e | e
      · have := inB_iff.1 e; omega
      · exact e
    simp [Felt5.okB, this]
theorem good_speed {s hh d a k z : Int} {f : Felt5} (h1 : okB s hh d a k = true) (h3 : f.okB = true) (hk : keepsB hh d a f f.en = true) (hz : 0 ≤ z) (hz' : z ≤ f.speed) : Good hh d a ⟨f.high, f.speed - z, f.en, f.lim, f.ack⟩ := by
  have hk2 : worstP hh d a f.speed ≤ f.en - f.high := of_decide_eq_true hk
  have hF := h3
  simp only [Felt5.okB, Bool.and_eq_true, inB_iff] at hF
  have hup := worstP_up (v := f.speed - z) (u := f.speed) h1 (by omega) (by omega)
  refine .inl ⟨?_, decide_eq_true (by show worstP hh d a (f.speed - z) ≤ f.en - f.high; omega)⟩
  simp only [Felt5.okB, Bool.and_eq_true, inB_iff]
  omega
theorem good_high {hh d a z : Int} {f : Felt5} (h3 : f.okB = true) (hk : keepsB hh d a f f.en = true) (hz : 0 ≤ z) (hz' : z ≤ f.high) : Good hh d a ⟨f.high - z, f.speed, f.en, f.lim, f.ack⟩ := by
  have hk2 : worstP hh d a f.speed ≤ f.en - f.high := of_decide_eq_true hk
  have hF := h3
  simp only [Felt5.okB, Bool.and_eq_true, inB_iff] at hF
  refine .inl ⟨?_, decide_eq_true (by show worstP hh d a f.speed ≤ f.en - (f.high - z); omega)⟩
  simp only [Felt5.okB, Bool.and_eq_true, inB_iff]
  omega

set_option maxRecDepth 100000 in
set_option maxHeartbeats 12800000 in
theorem longerLaw_any (a0 a1 : Option Addr) (len0 cap0 len1 cap1 : Nat) (w : World) (s0 : len0 ≤ 9223372036854775807) (s1 : len1 ≤ 9223372036854775807) (k0 : Lie a0 len0 w) (k1 : Lie a1 len1 w) :
    Calls Try.prog 5 #[.slice a0 len0 cap0, .slice a1 len1 cap1] w fun e w' => e = .returned (.bool true) ∧ Below w.heap.size w w' := by
  by_cases hbig : (1048576 : Int) < len0
  · go_enter Try.func5, Try.ntmps5
    go_wp2
    go_ret
    exact ⟨rfl, Below.refl _ _⟩
  · by_cases hbig1 : (1048576 : Int) < len1
    · go_enter Try.func5, Try.ntmps5
      go_wp2
      go_ret
      exact ⟨rfl, Below.refl _ _⟩
    · have hin : Came a0 len0 w := ⟨by omega, k0⟩
      have hmore : Came a1 len1 w := ⟨by omega, k1⟩
      go_enter Try.func5, Try.ntmps5
      go_wp2_with fail
      refine (drawTick_any hin).mono ?_; rintro e w1 ⟨s, hh, d, a, k, st, en, f, rfl, hb1⟩
      have hSpec := tick_spec s hh d a k st en f
      have hb := (((Lay.new w1 #[.int .i64 s, .int .i64 hh, .int .i64 d, .int .i64 a, .int .i64 k] 24).alloc (.cells #[.int .i64 st, .int .i64 en] 26)).alloc (.cells #[.int .i64 f.high, .int .i64 f.speed, .int .i64 f.en, .int .i64 f.lim, .bool f.ack] 28))
      have hg := (Lay.new (w1.alloc (.cells #[.int .i64 s, .int .i64 hh, .int .i64 d, .int .i64 a, .int .i64 k] 24)) #[.int .i64 st, .int .i64 en] 26).alloc (.cells #[.int .i64 f.high, .int .i64 f.speed, .int .i64 f.en, .int .i64 f.lim, .bool f.ack] 28)
      have hf := Lay.new ((w1.alloc (.cells #[.int .i64 s, .int .i64 hh, .int .i64 d, .int .i64 a, .int .i64 k] 24)).alloc (.cells #[.int .i64 st, .int .i64 en] 26)) #[.int .i64 f.high, .int .i64 f.speed, .int .i64 f.en, .int .i64 f.lim, .bool f.ack] 28
      rw [World.size_alloc] at hg
      rw [World.size_alloc, World.size_alloc] at hf
      have hbel := bstep (bstep (bstep hb1 (bone w1 (.cells #[.int .i64 s, .int .i64 hh, .int .i64 d, .int .i64 a, .int .i64 k] 24))) (bone _ (.cells #[.int .i64 st, .int .i64 en] 26))) (bone _ (.cells #[.int .i64 f.high, .int .i64 f.speed, .int .i64 f.en, .int .i64 f.lim, .bool f.ack] 28))
      go_wp2_with fail
      refine (tick_impl s hh d a k st en f _).mono ?_; rintro e w2 ⟨rfl, hb2⟩
      obtain ⟨x, hx⟩ : ∃ x, x = tickF s hh d a k st en f := ⟨_, rfl⟩
      rw [← hx] at hSpec ⊢
      have HX : Hid (x = tickF s hh d a k st en f) := hx
      clear hx
      have hsz : w1.heap.size + 1 + 1 + 1 ≤ w2.heap.size := by have := hb2.size; rw [World.size_alloc, World.size_alloc, World.size_alloc] at this; exact this
      have hJ : Four w w1.heap.size (w1.heap.size + 1) (w1.heap.size + 1 + 1) w2.heap.size s hh d a k st en f x (w2.alloc (.cells #[.bool x.ok, .int .i64 x.st, .int .i64 x.en, .int .i64 x.sp, .bool x.kept, .bool x.change] 32)) :=
        ⟨(hb.below hb2).alloc _, (hg.below hb2).alloc _, (hf.below hb2).alloc _, Lay.new w2 #[.bool x.ok, .int .i64 x.st, .int .i64 x.en, .int .i64 x.sp, .bool x.kept, .bool x.change] 32, bstep (bstep hbel hb2) (bone _ _)⟩
      clear hb hg hf hbel hb1 hb2
      go_upto_region 5 with fail
      obtain ⟨W5, hW5⟩ : ∃ W5, w2.alloc (.cells #[.bool x.ok, .int .i64 x.st, .int .i64 x.en, .int .i64 x.sp, .bool x.kept, .bool x.change] 32) = W5 := ⟨_, rfl⟩
      have hsz5 : w2.heap.size < W5.heap.size := by rw [← hW5, World.size_alloc]; omega
      rw [hW5] at hJ ⊢
      clear hW5
      rcases Bool.eq_false_or_eq_true x.ok with hx | hx
      · by_cases hst : st = 3
        · have hst2 : (st == 3) = true := by simp [hst]
          clear hst
          obtain ⟨b0, b1, b2, b3, b4, g0, g1, c0, c1, c2, c3, c4, x0, x1, x2, x3, x4, x5⟩ := hJ.cells
          go_wp2
          clear b0 b1 b2 b3 b4 g0 g1 c0 c1 c2 c3 c4 x0 x1 x2 x3 x4 x5
          refine wp_region_held_drew (S := fun w' => w'.cell? ⟨w1.heap.size, 0, none⟩ = some (.int .i64 s) ∧ w'.cell? ⟨w1.heap.size, 1, none⟩ = some (.int .i64 hh) ∧ w'.cell? ⟨w1.heap.size, 2, none⟩ = some (.int .i64 d) ∧ w'.cell? ⟨w1.heap.size, 3, none⟩ = some (.int .i64 a) ∧ w'.cell? ⟨w1.heap.size, 4, none⟩ = some (.int .i64 k) ∧ w'.cell? ⟨w1.heap.size + 1, 0, none⟩ = some (.int .i64 st) ∧ w'.cell? ⟨w1.heap.size + 1, 1, none⟩ = some (.int .i64 en) ∧ w'.cell? ⟨w1.heap.size + 1 + 1, 0, none⟩ = some (.int .i64 f.high) ∧ w'.cell? ⟨w1.heap.size + 1 + 1, 1, none⟩ = some (.int .i64 f.speed) ∧ w'.cell? ⟨w1.heap.size + 1 + 1, 2, none⟩ = some (.int .i64 f.en) ∧ w'.cell? ⟨w1.heap.size + 1 + 1, 3, none⟩ = some (.int .i64 f.lim) ∧ w'.cell? ⟨w1.heap.size + 1 + 1, 4, none⟩ = some (.bool f.ack) ∧ w'.cell? ⟨w2.heap.size, 0, none⟩ = some (.bool x.ok) ∧ w'.cell? ⟨w2.heap.size, 1, none⟩ = some (.int .i64 x.st) ∧ w'.cell? ⟨w2.heap.size, 2, none⟩ = some (.int .i64 x.en) ∧ w'.cell? ⟨w2.heap.size, 3, none⟩ = some (.int .i64 x.sp) ∧ w'.cell? ⟨w2.heap.size, 4, none⟩ = some (.bool x.kept) ∧ w'.cell? ⟨w2.heap.size, 5, none⟩ = some (.bool x.change)) (by kernel_rfl) (Four.cells hJ.drew) (fun hHeld => ?_)
          refine wpAnyH_take (i := 0) (v := ?v14) rfl (by kernel_rfl) (by decide +kernel) (by decide +kernel) (fun _ _ _ h => h) (Or.inl ⟨by rfl, ?hy14⟩) (by assumption) ?rest14
          case hy14 => (intro w hSw; (try dsimp only at hSw); go_simp; (try with_reducible rfl))
          try simp only [Act.put, List.getElem_toArray, List.getElem_cons_zero, List.setIfInBounds_toArray, List.set_cons_zero, List.set_cons_succ]
          refine wpAnyH_take (i := 1) (v := ?v15) rfl (by kernel_rfl) (by decide +kernel) (by decide +kernel) (fun _ _ _ h => h) (Or.inl ⟨by rfl, ?hy15⟩) (by assumption) ?rest15
          case hy15 => (intro w hSw; (try dsimp only at hSw); go_simp; (try with_reducible rfl))
          try simp only [Act.put, List.getElem_toArray, List.getElem_cons_succ, List.getElem_cons_zero, List.setIfInBounds_toArray, List.set_cons_zero, List.set_cons_succ]
          refine wpAnyH_take (i := 2) (v := ?v16) rfl (by kernel_rfl) (by decide +kernel) (by decide +kernel) (fun _ _ _ h => h) (Or.inl ⟨by rfl, ?hy16⟩) (by assumption) ?rest16
          case hy16 => (intro w hSw; (try dsimp only at hSw); go_simp; (try with_reducible rfl))
          try simp only [Act.put, List.getElem_toArray, List.getElem_cons_succ, List.getElem_cons_zero, List.setIfInBounds_toArray, List.set_cons_zero, List.set_cons_succ]
          refine wpAnyH_take (i := 3) (v := ?v17) rfl (by kernel_rfl) (by decide +kernel) (by decide +kernel) (fun _ _ _ h => h) (Or.inl ⟨by rfl, ?hy17⟩) (by assumption) ?rest17
          case hy17 => (intro w hSw; (try dsimp only at hSw); go_simp; (try with_reducible rfl))
          try simp only [Act.put, List.getElem_toArray, List.getElem_cons_succ, List.getElem_cons_zero, List.setIfInBounds_toArray, List.set_cons_zero, List.set_cons_succ]
          refine wpAnyH_ready (rs := [4]) (by decide +kernel) (by simp) ?_
          refine AllReadyH.cons rfl (fun K hK => ?_) AllReadyH.nil
          go_simp
          go_wp2_with (go_at_call 14; refine (hSpec _).mono ?_; rintro e w11 ⟨rfl, hb11⟩; have hI11 := hJ.drew.step hb11)
          refine hK.out _ _ (Four.cells hI11) (fun hHeld => ?_)
          clear hK K
          try simp only [Act.put, List.getElem_toArray, List.getElem_cons_succ, List.getElem_cons_zero, List.setIfInBounds_toArray, List.set_cons_zero, List.set_cons_succ]
          refine wpAnyH_ready (rs := [5]) (by decide +kernel) (by simp) ?_
          refine AllReadyH.cons rfl (fun K hK => ?_) AllReadyH.nil
          go_simp
          refine hK.out _ _ (hHeld) (fun hHeld => ?_)
          clear hK K
          try simp only [Act.put, List.getElem_toArray, List.getElem_cons_succ, List.getElem_cons_zero, List.setIfInBounds_toArray, List.set_cons_zero, List.set_cons_succ]
          refine wpAnyH_take (i := 6) (v := ?v18) rfl (by kernel_rfl) (by decide +kernel) (by decide +kernel) (fun _ _ _ h => h) (Or.inl ⟨by rfl, ?hy18⟩) (by assumption) ?rest18
          case hy18 => (intro w hSw; (try dsimp only at hSw); go_simp; (try with_reducible rfl))
          try simp only [Act.put, List.getElem_toArray, List.getElem_cons_succ, List.getElem_cons_zero, List.setIfInBounds_toArray, List.set_cons_zero, List.set_cons_succ]
          refine wpAnyH_done (by kernel_rfl) ?_ _
          go_wp2
          go_ret
          exact ⟨rfl, hI11.bel⟩
        · by_cases hx3 : x.st = 3
          · have hst2 : (st == 3) = false := by simp [hst]
            have hx4 : (x.st == 3) = true := by simp [hx3]
            clear hx3
            obtain ⟨b0, b1, b2, b3, b4, g0, g1, c0, c1, c2, c3, c4, x0, x1, x2, x3, x4, x5⟩ := hJ.cells
            go_wp2
            clear b0 b1 b2 b3 b4 g0 g1 c0 c1 c2 c3 c4 x0 x1 x2 x3 x4 x5
            refine wp_region_held_drew (S := fun w' => w'.cell? ⟨w1.heap.size, 0, none⟩ = some (.int .i64 s) ∧ w'.cell? ⟨w1.heap.size, 1, none⟩ = some (.int .i64 hh) ∧ w'.cell? ⟨w1.heap.size, 2, none⟩ = some (.int .i64 d) ∧ w'.cell? ⟨w1.heap.size, 3, none⟩ = some (.int .i64 a) ∧ w'.cell? ⟨w1.heap.size, 4, none⟩ = some (.int .i64 k) ∧ w'.cell? ⟨w1.heap.size + 1, 0, none⟩ = some (.int .i64 st) ∧ w'.cell? ⟨w1.heap.size + 1, 1, none⟩ = some (.int .i64 en) ∧ w'.cell? ⟨w1.heap.size + 1 + 1, 0, none⟩ = some (.int .i64 f.high) ∧ w'.cell? ⟨w1.heap.size + 1 + 1, 1, none⟩ = some (.int .i64 f.speed) ∧ w'.cell? ⟨w1.heap.size + 1 + 1, 2, none⟩ = some (.int .i64 f.en) ∧ w'.cell? ⟨w1.heap.size + 1 + 1, 3, none⟩ = some (.int .i64 f.lim) ∧ w'.cell? ⟨w1.heap.size + 1 + 1, 4, none⟩ = some (.bool f.ack) ∧ w'.cell? ⟨w2.heap.size, 0, none⟩ = some (.bool x.ok) ∧ w'.cell? ⟨w2.heap.size, 1, none⟩ = some (.int .i64 x.st) ∧ w'.cell? ⟨w2.heap.size, 2, none⟩ = some (.int .i64 x.en) ∧ w'.cell? ⟨w2.heap.size, 3, none⟩ = some (.int .i64 x.sp) ∧ w'.cell? ⟨w2.heap.size, 4, none⟩ = some (.bool x.kept) ∧ w'.cell? ⟨w2.heap.size, 5, none⟩ = some (.bool x.change)) (by kernel_rfl) (Four.cells hJ.drew) (fun hHeld => ?_)
            refine wpAnyH_take (i := 0) (v := ?v19) rfl (by kernel_rfl) (by decide +kernel) (by decide +kernel) (fun _ _ _ h => h) (Or.inl ⟨by rfl, ?hy19⟩) (by assumption) ?rest19
            case hy19 => (intro w hSw; (try dsimp only at hSw); go_simp; (try with_reducible rfl))
            try simp only [Act.put, List.getElem_toArray, List.getElem_cons_zero, List.setIfInBounds_toArray, List.set_cons_zero, List.set_cons_succ]
            refine wpAnyH_take (i := 1) (v := ?v20) rfl (by kernel_rfl) (by decide +kernel) (by decide +kernel) (fun _ _ _ h => h) (Or.inl ⟨by rfl, ?hy20⟩) (by assumption) ?rest20
            case hy20 => (intro w hSw; (try dsimp only at hSw); go_simp; (try with_reducible rfl))
            try simp only [Act.put, List.getElem_toArray, List.getElem_cons_succ, List.getElem_cons_zero, List.setIfInBounds_toArray, List.set_cons_zero, List.set_cons_succ]
            refine wpAnyH_take (i := 2) (v := ?v21) rfl (by kernel_rfl) (by decide +kernel) (by decide +kernel) (fun _ _ _ h => h) (Or.inl ⟨by rfl, ?hy21⟩) (by assumption) ?rest21
            case hy21 => (intro w hSw; (try dsimp only at hSw); go_simp; (try with_reducible rfl))
            try simp only [Act.put, List.getElem_toArray, List.getElem_cons_succ, List.getElem_cons_zero, List.setIfInBounds_toArray, List.set_cons_zero, List.set_cons_succ]
            refine wpAnyH_take (i := 3) (v := ?v22) rfl (by kernel_rfl) (by decide +kernel) (by decide +kernel) (fun _ _ _ h => h) (Or.inl ⟨by rfl, ?hy22⟩) (by assumption) ?rest22
            case hy22 => (intro w hSw; (try dsimp only at hSw); go_simp; (try with_reducible rfl))
            try simp only [Act.put, List.getElem_toArray, List.getElem_cons_succ, List.getElem_cons_zero, List.setIfInBounds_toArray, List.set_cons_zero, List.set_cons_succ]
            refine wpAnyH_ready (rs := [4]) (by decide +kernel) (by simp) ?_
            refine AllReadyH.cons rfl (fun K hK => ?_) AllReadyH.nil
            go_simp
            go_wp2_with (go_at_call 14; refine (hSpec _).mono ?_; rintro e w12 ⟨rfl, hb12⟩; have hI12 := hJ.drew.step hb12)
            refine hK.out _ _ (Four.cells hI12) (fun hHeld => ?_)
            clear hK K
            try simp only [Act.put, List.getElem_toArray, List.getElem_cons_succ, List.getElem_cons_zero, List.setIfInBounds_toArray, List.set_cons_zero, List.set_cons_succ]
            refine wpAnyH_ready (rs := [5]) (by decide +kernel) (by simp) ?_
            refine AllReadyH.cons rfl (fun K hK => ?_) AllReadyH.nil
            go_simp
            refine hK.out _ _ (hHeld) (fun hHeld => ?_)
            clear hK K
            try simp only [Act.put, List.getElem_toArray, List.getElem_cons_succ, List.getElem_cons_zero, List.setIfInBounds_toArray, List.set_cons_zero, List.set_cons_succ]
            refine wpAnyH_take (i := 6) (v := ?v23) rfl (by kernel_rfl) (by decide +kernel) (by decide +kernel) (fun _ _ _ h => h) (Or.inl ⟨by rfl, ?hy23⟩) (by assumption) ?rest23
            case hy23 => (intro w hSw; (try dsimp only at hSw); go_simp; (try with_reducible rfl))
            try simp only [Act.put, List.getElem_toArray, List.getElem_cons_succ, List.getElem_cons_zero, List.setIfInBounds_toArray, List.set_cons_zero, List.set_cons_succ]
            refine wpAnyH_done (by kernel_rfl) ?_ _
            go_wp2
            go_ret
            exact ⟨rfl, hI12.bel⟩
          · have hw5 : w.heap.size ≤ W5.heap.size := hJ.bel.size
            have h0 : okB s hh d a k = true ∧ guardB st en = true ∧ f.okB = true := by
              have := hx
              rw [HX.out, tickF_ok, Bool.and_eq_true, Bool.and_eq_true] at this
              exact this
            obtain ⟨h1, h2, h3⟩ := h0
            have hk : keepsB hh d a f f.en = true := tick_kept h1 h2 h3 (by rw [← HX.out]; exact hx3)
            have hF := h3
            simp only [Felt5.okB, Bool.and_eq_true, inB_iff] at hF
            obtain ⟨⟨fh1, fh2⟩, ⟨fs1, fs2⟩, ⟨fe1, fe2⟩, ⟨fl1, fl2⟩⟩ := hF
            have HK : Hid (keepsB hh d a f f.en = true) := hk
            have ew1 : IntKind.i64.wrap (f.speed + 1) = f.speed + 1 := wrap_in (by omega) (by omega)
            have ew2 : IntKind.i64.wrap (f.high + 1) = f.high + 1 := wrap_in (by omega) (by omega)
            clear hk
            have hst2 : (st == 3) = false := by simp [hst]
            have hx4 : (x.st == 3) = false := by simp [hx3]
            have hK : Four w w1.heap.size (w1.heap.size + 1) (w1.heap.size + 1 + 1) w2.heap.size s hh d a k st en f x (W5.alloc (.cells #[.int .i64 f.high, .int .i64 f.speed, .int .i64 f.en, .int .i64 f.lim, .bool f.ack] 28)) := hJ.step (bone _ _)
            have hH := Lay.new W5 #[.int .i64 f.high, .int .i64 f.speed, .int .i64 f.en, .int .i64 f.lim, .bool f.ack] 28
            obtain ⟨b0, b1, b2, b3, b4, g0, g1, c0, c1, c2, c3, c4, x0, x1, x2, x3, x4, x5⟩ := hJ.cells
            go_upto_region 8 with fail
            clear b0 b1 b2 b3 b4 g0 g1 c0 c1 c2 c3 c4 x0 x1 x2 x3 x4 x5
            obtain ⟨W6, hW6⟩ : ∃ W6, W5.alloc (.cells #[.int .i64 f.high, .int .i64 f.speed, .int .i64 f.en, .int .i64 f.lim, .bool f.ack] 28) = W6 := ⟨_, rfl⟩
            rw [hW6] at hK hH ⊢
            clear hW6
            have hM2 := hmore.keep hK.bel
            have hMd : Came a1 len1 W6.drew := hmore.keep hK.bel.drew
            go_wp2_with fail
            refine (wByte_any 0 hM2 (by omega) (by omega)).mono ?_; rintro e w5 ⟨y, rfl, l4, u4, rfl⟩
            have hy : y % 3 = 0 ∨ y % 3 = 1 ∨ y % 3 = 2 := by omega
            rcases hy with hy | hy | hy
            · go_wp2
              obtain ⟨o0, o1, o2, o3, o4, of, _⟩ := hH.drew.five
              refine wp_region_held_drew (S := fun _ => True) (by kernel_rfl) (trivial) (fun hHeld => ?_)
              refine wpAnyH_take (i := 0) (v := ?v0) rfl (by kernel_rfl) (by decide +kernel) (by decide +kernel) (fun _ _ _ h => h) (Or.inl ⟨by rfl, ?hy0⟩) (by assumption) ?rest0
              case hy0 => (intro w hSw; (try dsimp only at hSw); go_simp; (try with_reducible rfl))
              try simp only [Act.put, List.getElem_toArray, List.getElem_cons_zero, List.setIfInBounds_toArray, List.set_cons_zero, List.set_cons_succ]
              refine wpAnyH_take (i := 2) (v := ?v1) rfl (by kernel_rfl) (by decide +kernel) (by decide +kernel) (fun _ _ _ h => h) (Or.inl ⟨by rfl, ?hy1⟩) (by assumption) ?rest1
              case hy1 => (intro w hSw; (try dsimp only at hSw); go_simp; (try with_reducible rfl))
              try simp only [Act.put, List.getElem_toArray, List.getElem_cons_succ, List.getElem_cons_zero, List.setIfInBounds_toArray, List.set_cons_zero, List.set_cons_succ]
              refine wpAnyH_ready (rs := [1, 3]) (by decide +kernel) (by simp) ?_
              refine AllReadyH.cons rfl (fun K hQ => ?_) (AllReadyH.cons rfl (fun K hQ => ?_) AllReadyH.nil)
              · go_simp
                refine hQ.out _ _ (hHeld) (fun hHeld => ?_)
                clear hQ K
                try simp only [Act.put, List.getElem_toArray, List.getElem_cons_succ, List.getElem_cons_zero, List.setIfInBounds_toArray, List.set_cons_zero, List.set_cons_succ]
                refine wpAnyH_ready (rs := [3]) (by decide +kernel) (by simp) ?_
                refine AllReadyH.cons rfl (fun K hQ => ?_) AllReadyH.nil
                go_simp
                go_wp2_with (go_at_call 18; refine (wByte_any 1 hMd (by omega) (by omega)).mono ?_; rintro e w6 ⟨z, rfl, l5, u5, rfl⟩; have ez : IntKind.i64.wrap (f.en + z) = f.en + z := wrap_in (by omega) (by omega))
                refine hQ.out _ _ (hHeld) (fun hHeld => ?_)
                clear hQ K
                try simp only [Act.put, List.getElem_toArray, List.getElem_cons_succ, List.getElem_cons_zero, List.setIfInBounds_toArray, List.set_cons_zero, List.set_cons_succ]
                refine wpAnyH_ready (rs := [4]) (by decide +kernel) (by simp) ?_
                refine AllReadyH.cons rfl (fun K hQ => ?_) AllReadyH.nil
                go_simp
                refine hQ.out _ _ (hHeld) (fun hHeld => ?_)
                clear hQ K
                try simp only [Act.put, List.getElem_toArray, List.getElem_cons_succ, List.getElem_cons_zero, List.setIfInBounds_toArray, List.set_cons_zero, List.set_cons_succ]
                refine wpAnyH_ready (rs := [5]) (by decide +kernel) (by simp) ?_
                refine AllReadyH.cons rfl (fun K hQ => ?_) AllReadyH.nil
                go_simp
                refine hQ.out _ _ (hHeld) (fun hHeld => ?_)
                clear hQ K
                try simp only [Act.put, List.getElem_toArray, List.getElem_cons_succ, List.getElem_cons_zero, List.setIfInBounds_toArray, List.set_cons_zero, List.set_cons_succ]
                refine wpAnyH_ready (rs := [6]) (by decide +kernel) (by simp) ?_
                refine AllReadyH.cons rfl (fun K hQ => ?_) AllReadyH.nil
                go_simp
                refine hQ.out _ _ (trivial) (fun hHeld => ?_)
                clear hQ K
                try simp only [Act.put, List.getElem_toArray, List.getElem_cons_succ, List.getElem_cons_zero, List.setIfInBounds_toArray, List.set_cons_zero, List.set_cons_succ]
                refine wpAnyH_done (by kernel_rfl) ?_ _
                have hHH := (hH.set 2 (.int .i64 (f.en + z)) (by simp)).drew
                have hB6 := (hK.b.far (M := W5.heap.size) (by omega) 2 (.int .i64 (f.en + z))).drew
                have hG6 := (hK.g.far (M := W5.heap.size) (by omega) 2 (.int .i64 (f.en + z))).drew
                have hbel6 : Below w.heap.size w (W6.setCell ⟨W5.heap.size, 2, none⟩ (.int .i64 (f.en + z))).drew := (hK.bel.setCell (by show w.heap.size ≤ W5.heap.size; omega) _).drew
                obtain ⟨b0, b1, b2, b3, b4, _, _⟩ := hB6.five
                obtain ⟨g0, g1, _, _⟩ := hG6.two
                obtain ⟨c0, c1, c2, c3, c4, _, _⟩ := hHH.five
                have hTick := tick_impl s hh d a k st en ⟨f.high, f.speed, f.en + z, f.lim, f.ack⟩
                have hgood : Good hh d a ⟨f.high, f.speed, f.en + z, f.lim, f.ack⟩ := good_end h3 HK.out l5
                go_wp2_with fail
                refine (hTick _).mono ?_; rintro e w7 ⟨rfl, hb7⟩
                clear b0 b1 b2 b3 b4 g0 g1 c0 c1 c2 c3 c4 hTick
                have hH7 := hHH.below hb7
                have hbel7 := bstep hbel6 hb7
                obtain ⟨t, ht⟩ : ∃ t, t = tickF s hh d a k st en ⟨f.high, f.speed, f.en + z, f.lim, f.ack⟩ := ⟨_, rfl⟩
                rw [← ht]
                have hfin : Hid ((t.ok = true ∧ t.st ≠ 3) ∨ (t.ok = false ∧ 100000000 < f.en + z)) := by
                  rcases hgood with ⟨g1, g2⟩ | ⟨g1, g2⟩
                  · left
                    rw [ht]
                    exact tick_free h1 h2 g1 hst g2
                  · right
                    refine ⟨?_, g2⟩
                    rw [ht, tickF_ok, g1, Bool.and_false, Bool.and_false]
                clear ht hgood
                obtain ⟨c0, c1, c2, c3, c4, _, _⟩ := (hH7.alloc (.cells #[.bool t.ok, .int .i64 t.st, .int .i64 t.en, .int .i64 t.sp, .bool t.kept, .bool t.change] 32)).five
                go_upto_region 15 with fail
                obtain ⟨t0, t1, t2, t3, t4, t5⟩ := t
                rcases hfin.out with ⟨j1, j2⟩ | ⟨j1, j2⟩
                · obtain rfl : t0 = true := j1
                  have j3 : (t1 != 3) = true := by simpa using j2
                  go_wp2
                  go_ret
                  exact ⟨rfl, bstep hbel7 (bone _ _)⟩
                · obtain rfl : t0 = false := j1
                  have j3 : 100000000 < f.en + z := j2
                  go_wp2
                  go_ret
                  exact ⟨rfl, bstep hbel7 (bone _ _)⟩
              · go_simp
                go_wp2_with (go_at_call 18; refine (wByte_any 1 hMd (by omega) (by omega)).mono ?_; rintro e w6 ⟨z, rfl, l5, u5, rfl⟩; have ez : IntKind.i64.wrap (f.en + z) = f.en + z := wrap_in (by omega) (by omega))
                refine hQ.out _ _ (hHeld) (fun hHeld => ?_)
                clear hQ K
                try simp only [Act.put, List.getElem_toArray, List.getElem_cons_succ, List.getElem_cons_zero, List.setIfInBounds_toArray, List.set_cons_zero, List.set_cons_succ]
                refine wpAnyH_ready (rs := [1]) (by decide +kernel) (by simp) ?_
                refine AllReadyH.cons rfl (fun K hQ => ?_) AllReadyH.nil
                go_simp
                refine hQ.out _ _ (hHeld) (fun hHeld => ?_)
                clear hQ K
                try simp only [Act.put, List.getElem_toArray, List.getElem_cons_succ, List.getElem_cons_zero, List.setIfInBounds_toArray, List.set_cons_zero, List.set_cons_succ]
                refine wpAnyH_ready (rs := [4]) (by decide +kernel) (by simp) ?_
                refine AllReadyH.cons rfl (fun K hQ => ?_) AllReadyH.nil
                go_simp
                refine hQ.out _ _ (hHeld) (fun hHeld => ?_)
                clear hQ K
                try simp only [Act.put, List.getElem_toArray, List.getElem_cons_succ, List.getElem_cons_zero, List.setIfInBounds_toArray, List.set_cons_zero, List.set_cons_succ]
                refine wpAnyH_ready (rs := [5]) (by decide +kernel) (by simp) ?_
                refine AllReadyH.cons rfl (fun K hQ => ?_) AllReadyH.nil
                go_simp
                refine hQ.out _ _ (hHeld) (fun hHeld => ?_)
                clear hQ K
                try simp only [Act.put, List.getElem_toArray, List.getElem_cons_succ, List.getElem_cons_zero, List.setIfInBounds_toArray, List.set_cons_zero, List.set_cons_succ]
                refine wpAnyH_ready (rs := [6]) (by decide +kernel) (by simp) ?_
                refine AllReadyH.cons rfl (fun K hQ => ?_) AllReadyH.nil
                go_simp
                refine hQ.out _ _ (trivial) (fun hHeld => ?_)
                clear hQ K
                try simp only [Act.put, List.getElem_toArray, List.getElem_cons_succ, List.getElem_cons_zero, List.setIfInBounds_toArray, List.set_cons_zero, List.set_cons_succ]
                refine wpAnyH_done (by kernel_rfl) ?_ _
                have hHH := (hH.set 2 (.int .i64 (f.en + z)) (by simp)).drew
                have hB6 := (hK.b.far (M := W5.heap.size) (by omega) 2 (.int .i64 (f.en + z))).drew
                have hG6 := (hK.g.far (M := W5.heap.size) (by omega) 2 (.int .i64 (f.en + z))).drew
                have hbel6 : Below w.heap.size w (W6.setCell ⟨W5.heap.size, 2, none⟩ (.int .i64 (f.en + z))).drew := (hK.bel.setCell (by show w.heap.size ≤ W5.heap.size; omega) _).drew
                obtain ⟨b0, b1, b2, b3, b4, _, _⟩ := hB6.five
                obtain ⟨g0, g1, _, _⟩ := hG6.two
                obtain ⟨c0, c1, c2, c3, c4, _, _⟩ := hHH.five
                have hTick := tick_impl s hh d a k st en ⟨f.high, f.speed, f.en + z, f.lim, f.ack⟩
                have hgood : Good hh d a ⟨f.high, f.speed, f.en + z, f.lim, f.ack⟩ := good_end h3 HK.out l5
                go_wp2_with fail
                refine (hTick _).mono ?_; rintro e w7 ⟨rfl, hb7⟩
                clear b0 b1 b2 b3 b4 g0 g1 c0 c1 c2 c3 c4 hTick
                have hH7 := hHH.below hb7
                have hbel7 := bstep hbel6 hb7
                obtain ⟨t, ht⟩ : ∃ t, t = tickF s hh d a k st en ⟨f.high, f.speed, f.en + z, f.lim, f.ack⟩ := ⟨_, rfl⟩
                rw [← ht]
                have hfin : Hid ((t.ok = true ∧ t.st ≠ 3) ∨ (t.ok = false ∧ 100000000 < f.en + z)) := by
                  rcases hgood with ⟨g1, g2⟩ | ⟨g1, g2⟩
                  · left
                    rw [ht]
                    exact tick_free h1 h2 g1 hst g2
                  · right
                    refine ⟨?_, g2⟩
                    rw [ht, tickF_ok, g1, Bool.and_false, Bool.and_false]
                clear ht hgood
                obtain ⟨c0, c1, c2, c3, c4, _, _⟩ := (hH7.alloc (.cells #[.bool t.ok, .int .i64 t.st, .int .i64 t.en, .int .i64 t.sp, .bool t.kept, .bool t.change] 32)).five
                go_upto_region 15 with fail
                obtain ⟨t0, t1, t2, t3, t4, t5⟩ := t
                rcases hfin.out with ⟨j1, j2⟩ | ⟨j1, j2⟩
                · obtain rfl : t0 = true := j1
                  have j3 : (t1 != 3) = true := by simpa using j2
                  go_wp2
                  go_ret
                  exact ⟨rfl, bstep hbel7 (bone _ _)⟩
                · obtain rfl : t0 = false := j1
                  have j3 : 100000000 < f.en + z := j2
                  go_wp2
                  go_ret
                  exact ⟨rfl, bstep hbel7 (bone _ _)⟩
            · go_wp2
              obtain ⟨o0, o1, o2, o3, o4, of, _⟩ := hH.drew.five
              refine wp_region_held_drew (S := fun w' => w'.cell? ⟨w1.heap.size + 1 + 1, 1, none⟩ = some (.int .i64 f.speed)) (by kernel_rfl) (hK.f.drew.cell 1 _ rfl) (fun hHeld => ?_)
              refine wpAnyH_take (i := 0) (v := ?v2) rfl (by kernel_rfl) (by decide +kernel) (by decide +kernel) (fun _ _ _ h => h) (Or.inl ⟨by rfl, ?hy2⟩) (by assumption) ?rest2
              case hy2 => (intro w hSw; (try dsimp only at hSw); go_simp; (try with_reducible rfl))
              try simp only [Act.put, List.getElem_toArray, List.getElem_cons_zero, List.setIfInBounds_toArray, List.set_cons_zero, List.set_cons_succ]
              refine wpAnyH_take (i := 2) (v := ?v3) rfl (by kernel_rfl) (by decide +kernel) (by decide +kernel) (fun _ _ _ h => h) (Or.inl ⟨by rfl, ?hy3⟩) (by assumption) ?rest3
              case hy3 => (intro w hSw; (try dsimp only at hSw); go_simp; (try with_reducible rfl))
              try simp only [Act.put, List.getElem_toArray, List.getElem_cons_succ, List.getElem_cons_zero, List.setIfInBounds_toArray, List.set_cons_zero, List.set_cons_succ]
              refine wpAnyH_take (i := 4) (v := ?v4) rfl (by kernel_rfl) (by decide +kernel) (by decide +kernel) (fun _ _ _ h => h) (Or.inl ⟨by rfl, ?hy4⟩) (by assumption) ?rest4
              case hy4 => (intro w hSw; (try dsimp only at hSw); go_simp; (try with_reducible rfl))
              try simp only [Act.put, List.getElem_toArray, List.getElem_cons_succ, List.getElem_cons_zero, List.setIfInBounds_toArray, List.set_cons_zero, List.set_cons_succ]
              refine wpAnyH_take (i := 5) (v := ?v5) rfl (by kernel_rfl) (by decide +kernel) (by decide +kernel) (fun _ _ _ h => h) (Or.inl ⟨by rfl, ?hy5⟩) (by assumption) ?rest5
              case hy5 => (intro w hSw; (try dsimp only at hSw); go_simp; (try with_reducible rfl))
              try simp only [Act.put, List.getElem_toArray, List.getElem_cons_succ, List.getElem_cons_zero, List.setIfInBounds_toArray, List.set_cons_zero, List.set_cons_succ]
              refine wpAnyH_take (i := 6) (v := ?v6) rfl (by kernel_rfl) (by decide +kernel) (by decide +kernel) (fun _ _ _ h => h) (Or.inl ⟨by rfl, ?hy6⟩) (by assumption) ?rest6
              case hy6 => (intro w hSw; (try dsimp only at hSw); go_simp; (try with_reducible rfl))
              try simp only [Act.put, List.getElem_toArray, List.getElem_cons_succ, List.getElem_cons_zero, List.setIfInBounds_toArray, List.set_cons_zero, List.set_cons_succ]
              refine wpAnyH_ready (rs := [1, 3]) (by decide +kernel) (by simp) ?_
              refine AllReadyH.cons rfl (fun K hQ => ?_) (AllReadyH.cons rfl (fun K hQ => ?_) AllReadyH.nil)
              · go_simp
                refine hQ.out _ _ (hHeld) (fun hHeld => ?_)
                clear hQ K
                try simp only [Act.put, List.getElem_toArray, List.getElem_cons_succ, List.getElem_cons_zero, List.setIfInBounds_toArray, List.set_cons_zero, List.set_cons_succ]
                refine wpAnyH_ready (rs := [3]) (by decide +kernel) (by simp) ?_
                refine AllReadyH.cons rfl (fun K hQ => ?_) AllReadyH.nil
                go_simp
                go_wp2_with (go_at_call 18; refine (wByte_any 1 hMd (by omega) (by omega)).mono ?_; rintro e w6 ⟨z, rfl, l5, u5, rfl⟩; have q1 : 0 ≤ z % (f.speed + 1) := Int.emod_nonneg _ (by omega); have q2 : z % (f.speed + 1) < f.speed + 1 := Int.emod_lt_of_pos _ (by omega); have hnz : ¬ f.speed + 1 = 0 := (by omega); have et : z.tmod (f.speed + 1) = z % (f.speed + 1) := Int.tmod_eq_emod_of_nonneg l5; have ez : IntKind.i64.wrap (f.speed - z % (f.speed + 1)) = f.speed - z % (f.speed + 1) := wrap_in (by omega) (by omega))
                refine hQ.out _ _ (hHeld) (fun hHeld => ?_)
                clear hQ K
                try simp only [Act.put, List.getElem_toArray, List.getElem_cons_succ, List.getElem_cons_zero, List.setIfInBounds_toArray, List.set_cons_zero, List.set_cons_succ]
                refine wpAnyH_ready (rs := [7]) (by decide +kernel) (by simp) ?_
                refine AllReadyH.cons rfl (fun K hQ => ?_) AllReadyH.nil
                go_simp
                refine hQ.out _ _ (hHeld) (fun hHeld => ?_)
                clear hQ K
                try simp only [Act.put, List.getElem_toArray, List.getElem_cons_succ, List.getElem_cons_zero, List.setIfInBounds_toArray, List.set_cons_zero, List.set_cons_succ]
                refine wpAnyH_ready (rs := [8]) (by decide +kernel) (by simp) ?_
                refine AllReadyH.cons rfl (fun K hQ => ?_) AllReadyH.nil
                go_simp
                refine hQ.out _ _ (hHeld) (fun hHeld => ?_)
                clear hQ K
                try simp only [Act.put, List.getElem_toArray, List.getElem_cons_succ, List.getElem_cons_zero, List.setIfInBounds_toArray, List.set_cons_zero, List.set_cons_succ]
                refine wpAnyH_ready (rs := [9]) (by decide +kernel) (by simp) ?_
                refine AllReadyH.cons rfl (fun K hQ => ?_) AllReadyH.nil
                go_simp
                refine hQ.out _ _ (hHeld) (fun hHeld => ?_)
                clear hQ K
                try simp only [Act.put, List.getElem_toArray, List.getElem_cons_succ, List.getElem_cons_zero, List.setIfInBounds_toArray, List.set_cons_zero, List.set_cons_succ]
                refine wpAnyH_ready (rs := [10]) (by decide +kernel) (by simp) ?_
                refine AllReadyH.cons rfl (fun K hQ => ?_) AllReadyH.nil
                go_simp
                refine hQ.out _ _ ((hK.f.drew.far (M := W5.heap.size) (by omega) 1 _).cell 1 _ rfl) (fun hHeld => ?_)
                clear hQ K
                try simp only [Act.put, List.getElem_toArray, List.getElem_cons_succ, List.getElem_cons_zero, List.setIfInBounds_toArray, List.set_cons_zero, List.set_cons_succ]
                refine wpAnyH_done (by kernel_rfl) ?_ _
                have hHH := (hH.set 1 (.int .i64 (f.speed - z % (f.speed + 1))) (by simp)).drew
                have hB6 := (hK.b.far (M := W5.heap.size) (by omega) 1 (.int .i64 (f.speed - z % (f.speed + 1)))).drew
                have hG6 := (hK.g.far (M := W5.heap.size) (by omega) 1 (.int .i64 (f.speed - z % (f.speed + 1)))).drew
                have hbel6 : Below w.heap.size w (W6.setCell ⟨W5.heap.size, 1, none⟩ (.int .i64 (f.speed - z % (f.speed + 1)))).drew := (hK.bel.setCell (by show w.heap.size ≤ W5.heap.size; omega) _).drew
                obtain ⟨b0, b1, b2, b3, b4, _, _⟩ := hB6.five
                obtain ⟨g0, g1, _, _⟩ := hG6.two
                obtain ⟨c0, c1, c2, c3, c4, _, _⟩ := hHH.five
                have hTick := tick_impl s hh d a k st en ⟨f.high, f.speed - z % (f.speed + 1), f.en, f.lim, f.ack⟩
                have hgood : Good hh d a ⟨f.high, f.speed - z % (f.speed + 1), f.en, f.lim, f.ack⟩ := good_speed h1 h3 HK.out q1 (by omega)
                go_wp2_with fail
                refine (hTick _).mono ?_; rintro e w7 ⟨rfl, hb7⟩
                clear b0 b1 b2 b3 b4 g0 g1 c0 c1 c2 c3 c4 hTick
                have hH7 := hHH.below hb7
                have hbel7 := bstep hbel6 hb7
                obtain ⟨t, ht⟩ : ∃ t, t = tickF s hh d a k st en ⟨f.high, f.speed - z % (f.speed + 1), f.en, f.lim, f.ack⟩ := ⟨_, rfl⟩
                rw [← ht]
                have hfin : Hid ((t.ok = true ∧ t.st ≠ 3) ∨ (t.ok = false ∧ 100000000 < f.en)) := by
                  rcases hgood with ⟨g1, g2⟩ | ⟨g1, g2⟩
                  · left
                    rw [ht]
                    exact tick_free h1 h2 g1 hst g2
                  · right
                    refine ⟨?_, g2⟩
                    rw [ht, tickF_ok, g1, Bool.and_false, Bool.and_false]
                clear ht hgood
                obtain ⟨c0, c1, c2, c3, c4, _, _⟩ := (hH7.alloc (.cells #[.bool t.ok, .int .i64 t.st, .int .i64 t.en, .int .i64 t.sp, .bool t.kept, .bool t.change] 32)).five
                go_upto_region 15 with fail
                obtain ⟨t0, t1, t2, t3, t4, t5⟩ := t
                rcases hfin.out with ⟨j1, j2⟩ | ⟨j1, j2⟩
                · obtain rfl : t0 = true := j1
                  have j3 : (t1 != 3) = true := by simpa using j2
                  go_wp2
                  go_ret
                  exact ⟨rfl, bstep hbel7 (bone _ _)⟩
                · exfalso
                  omega
              · go_simp
                go_wp2_with (go_at_call 18; refine (wByte_any 1 hMd (by omega) (by omega)).mono ?_; rintro e w6 ⟨z, rfl, l5, u5, rfl⟩; have q1 : 0 ≤ z % (f.speed + 1) := Int.emod_nonneg _ (by omega); have q2 : z % (f.speed + 1) < f.speed + 1 := Int.emod_lt_of_pos _ (by omega); have hnz : ¬ f.speed + 1 = 0 := (by omega); have et : z.tmod (f.speed + 1) = z % (f.speed + 1) := Int.tmod_eq_emod_of_nonneg l5; have ez : IntKind.i64.wrap (f.speed - z % (f.speed + 1)) = f.speed - z % (f.speed + 1) := wrap_in (by omega) (by omega))
                refine hQ.out _ _ (hHeld) (fun hHeld => ?_)
                clear hQ K
                try simp only [Act.put, List.getElem_toArray, List.getElem_cons_succ, List.getElem_cons_zero, List.setIfInBounds_toArray, List.set_cons_zero, List.set_cons_succ]
                refine wpAnyH_take (i := 7) (v := ?v7) rfl (by kernel_rfl) (by decide +kernel) (by decide +kernel) (fun _ _ _ h => h) (Or.inl ⟨by rfl, ?hy7⟩) (by assumption) ?rest7
                case hy7 => (intro w hSw; (try dsimp only at hSw); go_simp; (try with_reducible rfl))
                try simp only [Act.put, List.getElem_toArray, List.getElem_cons_succ, List.getElem_cons_zero, List.setIfInBounds_toArray, List.set_cons_zero, List.set_cons_succ]
                refine wpAnyH_ready (rs := [1]) (by decide +kernel) (by simp) ?_
                refine AllReadyH.cons rfl (fun K hQ => ?_) AllReadyH.nil
                go_simp
                refine hQ.out _ _ (hHeld) (fun hHeld => ?_)
                clear hQ K
                try simp only [Act.put, List.getElem_toArray, List.getElem_cons_succ, List.getElem_cons_zero, List.setIfInBounds_toArray, List.set_cons_zero, List.set_cons_succ]
                refine wpAnyH_ready (rs := [8]) (by decide +kernel) (by simp) ?_
                refine AllReadyH.cons rfl (fun K hQ => ?_) AllReadyH.nil
                go_simp
                refine hQ.out _ _ (hHeld) (fun hHeld => ?_)
                clear hQ K
                try simp only [Act.put, List.getElem_toArray, List.getElem_cons_succ, List.getElem_cons_zero, List.setIfInBounds_toArray, List.set_cons_zero, List.set_cons_succ]
                refine wpAnyH_ready (rs := [9]) (by decide +kernel) (by simp) ?_
                refine AllReadyH.cons rfl (fun K hQ => ?_) AllReadyH.nil
                go_simp
                refine hQ.out _ _ (hHeld) (fun hHeld => ?_)
                clear hQ K
                try simp only [Act.put, List.getElem_toArray, List.getElem_cons_succ, List.getElem_cons_zero, List.setIfInBounds_toArray, List.set_cons_zero, List.set_cons_succ]
                refine wpAnyH_ready (rs := [10]) (by decide +kernel) (by simp) ?_
                refine AllReadyH.cons rfl (fun K hQ => ?_) AllReadyH.nil
                go_simp
                refine hQ.out _ _ ((hK.f.drew.far (M := W5.heap.size) (by omega) 1 _).cell 1 _ rfl) (fun hHeld => ?_)
                clear hQ K
                try simp only [Act.put, List.getElem_toArray, List.getElem_cons_succ, List.getElem_cons_zero, List.setIfInBounds_toArray, List.set_cons_zero, List.set_cons_succ]
                refine wpAnyH_done (by kernel_rfl) ?_ _
                have hHH := (hH.set 1 (.int .i64 (f.speed - z % (f.speed + 1))) (by simp)).drew
                have hB6 := (hK.b.far (M := W5.heap.size) (by omega) 1 (.int .i64 (f.speed - z % (f.speed + 1)))).drew
                have hG6 := (hK.g.far (M := W5.heap.size) (by omega) 1 (.int .i64 (f.speed - z % (f.speed + 1)))).drew
                have hbel6 : Below w.heap.size w (W6.setCell ⟨W5.heap.size, 1, none⟩ (.int .i64 (f.speed - z % (f.speed + 1)))).drew := (hK.bel.setCell (by show w.heap.size ≤ W5.heap.size; omega) _).drew
                obtain ⟨b0, b1, b2, b3, b4, _, _⟩ := hB6.five
                obtain ⟨g0, g1, _, _⟩ := hG6.two
                obtain ⟨c0, c1, c2, c3, c4, _, _⟩ := hHH.five
                have hTick := tick_impl s hh d a k st en ⟨f.high, f.speed - z % (f.speed + 1), f.en, f.lim, f.ack⟩
                have hgood : Good hh d a ⟨f.high, f.speed - z % (f.speed + 1), f.en, f.lim, f.ack⟩ := good_speed h1 h3 HK.out q1 (by omega)
                go_wp2_with fail
                refine (hTick _).mono ?_; rintro e w7 ⟨rfl, hb7⟩
                clear b0 b1 b2 b3 b4 g0 g1 c0 c1 c2 c3 c4 hTick
                have hH7 := hHH.below hb7
                have hbel7 := bstep hbel6 hb7
                obtain ⟨t, ht⟩ : ∃ t, t = tickF s hh d a k st en ⟨f.high, f.speed - z % (f.speed + 1), f.en, f.lim, f.ack⟩ := ⟨_, rfl⟩
                rw [← ht]
                have hfin : Hid ((t.ok = true ∧ t.st ≠ 3) ∨ (t.ok = false ∧ 100000000 < f.en)) := by
                  rcases hgood with ⟨g1, g2⟩ | ⟨g1, g2⟩
                  · left
                    rw [ht]
                    exact tick_free h1 h2 g1 hst g2
                  · right
                    refine ⟨?_, g2⟩
                    rw [ht, tickF_ok, g1, Bool.and_false, Bool.and_false]
                clear ht hgood
                obtain ⟨c0, c1, c2, c3, c4, _, _⟩ := (hH7.alloc (.cells #[.bool t.ok, .int .i64 t.st, .int .i64 t.en, .int .i64 t.sp, .bool t.kept, .bool t.change] 32)).five
                go_upto_region 15 with fail
                obtain ⟨t0, t1, t2, t3, t4, t5⟩ := t
                rcases hfin.out with ⟨j1, j2⟩ | ⟨j1, j2⟩
                · obtain rfl : t0 = true := j1
                  have j3 : (t1 != 3) = true := by simpa using j2
                  go_wp2
                  go_ret
                  exact ⟨rfl, bstep hbel7 (bone _ _)⟩
                · exfalso
                  omega
            · go_wp2
              obtain ⟨o0, o1, o2, o3, o4, of, _⟩ := hH.drew.five
              refine wp_region_held_drew (S := fun w' => w'.cell? ⟨w1.heap.size + 1 + 1, 0, none⟩ = some (.int .i64 f.high)) (by kernel_rfl) (hK.f.drew.cell 0 _ rfl) (fun hHeld => ?_)
              refine wpAnyH_take (i := 0) (v := ?v8) rfl (by kernel_rfl) (by decide +kernel) (by decide +kernel) (fun _ _ _ h => h) (Or.inl ⟨by rfl, ?hy8⟩) (by assumption) ?rest8
              case hy8 => (intro w hSw; (try dsimp only at hSw); go_simp; (try with_reducible rfl))
              try simp only [Act.put, List.getElem_toArray, List.getElem_cons_zero, List.setIfInBounds_toArray, List.set_cons_zero, List.set_cons_succ]
              refine wpAnyH_take (i := 2) (v := ?v9) rfl (by kernel_rfl) (by decide +kernel) (by decide +kernel) (fun _ _ _ h => h) (Or.inl ⟨by rfl, ?hy9⟩) (by assumption) ?rest9
              case hy9 => (intro w hSw; (try dsimp only at hSw); go_simp; (try with_reducible rfl))
              try simp only [Act.put, List.getElem_toArray, List.getElem_cons_succ, List.getElem_cons_zero, List.setIfInBounds_toArray, List.set_cons_zero, List.set_cons_succ]
              refine wpAnyH_take (i := 4) (v := ?v10) rfl (by kernel_rfl) (by decide +kernel) (by decide +kernel) (fun _ _ _ h => h) (Or.inl ⟨by rfl, ?hy10⟩) (by assumption) ?rest10
              case hy10 => (intro w hSw; (try dsimp only at hSw); go_simp; (try with_reducible rfl))
              try simp only [Act.put, List.getElem_toArray, List.getElem_cons_succ, List.getElem_cons_zero, List.setIfInBounds_toArray, List.set_cons_zero, List.set_cons_succ]
              refine wpAnyH_take (i := 5) (v := ?v11) rfl (by kernel_rfl) (by decide +kernel) (by decide +kernel) (fun _ _ _ h => h) (Or.inl ⟨by rfl, ?hy11⟩) (by assumption) ?rest11
              case hy11 => (intro w hSw; (try dsimp only at hSw); go_simp; (try with_reducible rfl))
              try simp only [Act.put, List.getElem_toArray, List.getElem_cons_succ, List.getElem_cons_zero, List.setIfInBounds_toArray, List.set_cons_zero, List.set_cons_succ]
              refine wpAnyH_take (i := 6) (v := ?v12) rfl (by kernel_rfl) (by decide +kernel) (by decide +kernel) (fun _ _ _ h => h) (Or.inl ⟨by rfl, ?hy12⟩) (by assumption) ?rest12
              case hy12 => (intro w hSw; (try dsimp only at hSw); go_simp; (try with_reducible rfl))
              try simp only [Act.put, List.getElem_toArray, List.getElem_cons_succ, List.getElem_cons_zero, List.setIfInBounds_toArray, List.set_cons_zero, List.set_cons_succ]
              refine wpAnyH_ready (rs := [1, 3]) (by decide +kernel) (by simp) ?_
              refine AllReadyH.cons rfl (fun K hQ => ?_) (AllReadyH.cons rfl (fun K hQ => ?_) AllReadyH.nil)
              · go_simp
                refine hQ.out _ _ (hHeld) (fun hHeld => ?_)
                clear hQ K
                try simp only [Act.put, List.getElem_toArray, List.getElem_cons_succ, List.getElem_cons_zero, List.setIfInBounds_toArray, List.set_cons_zero, List.set_cons_succ]
                refine wpAnyH_ready (rs := [3]) (by decide +kernel) (by simp) ?_
                refine AllReadyH.cons rfl (fun K hQ => ?_) AllReadyH.nil
                go_simp
                go_wp2_with (go_at_call 18; refine (wByte_any 1 hMd (by omega) (by omega)).mono ?_; rintro e w6 ⟨z, rfl, l5, u5, rfl⟩; have q1 : 0 ≤ z % (f.high + 1) := Int.emod_nonneg _ (by omega); have q2 : z % (f.high + 1) < f.high + 1 := Int.emod_lt_of_pos _ (by omega); have hnz : ¬ f.high + 1 = 0 := (by omega); have et : z.tmod (f.high + 1) = z % (f.high + 1) := Int.tmod_eq_emod_of_nonneg l5; have ez : IntKind.i64.wrap (f.high - z % (f.high + 1)) = f.high - z % (f.high + 1) := wrap_in (by omega) (by omega))
                refine hQ.out _ _ (hHeld) (fun hHeld => ?_)
                clear hQ K
                try simp only [Act.put, List.getElem_toArray, List.getElem_cons_succ, List.getElem_cons_zero, List.setIfInBounds_toArray, List.set_cons_zero, List.set_cons_succ]
                refine wpAnyH_ready (rs := [7]) (by decide +kernel) (by simp) ?_
                refine AllReadyH.cons rfl (fun K hQ => ?_) AllReadyH.nil
                go_simp
                refine hQ.out _ _ (hHeld) (fun hHeld => ?_)
                clear hQ K
                try simp only [Act.put, List.getElem_toArray, List.getElem_cons_succ, List.getElem_cons_zero, List.setIfInBounds_toArray, List.set_cons_zero, List.set_cons_succ]
                refine wpAnyH_ready (rs := [8]) (by decide +kernel) (by simp) ?_
                refine AllReadyH.cons rfl (fun K hQ => ?_) AllReadyH.nil
                go_simp
                refine hQ.out _ _ (hHeld) (fun hHeld => ?_)
                clear hQ K
                try simp only [Act.put, List.getElem_toArray, List.getElem_cons_succ, List.getElem_cons_zero, List.setIfInBounds_toArray, List.set_cons_zero, List.set_cons_succ]
                refine wpAnyH_ready (rs := [9]) (by decide +kernel) (by simp) ?_
                refine AllReadyH.cons rfl (fun K hQ => ?_) AllReadyH.nil
                go_simp
                refine hQ.out _ _ (hHeld) (fun hHeld => ?_)
                clear hQ K
                try simp only [Act.put, List.getElem_toArray, List.getElem_cons_succ, List.getElem_cons_zero, List.setIfInBounds_toArray, List.set_cons_zero, List.set_cons_succ]
                refine wpAnyH_ready (rs := [10]) (by decide +kernel) (by simp) ?_
                refine AllReadyH.cons rfl (fun K hQ => ?_) AllReadyH.nil
                go_simp
                refine hQ.out _ _ ((hK.f.drew.far (M := W5.heap.size) (by omega) 0 _).cell 0 _ rfl) (fun hHeld => ?_)
                clear hQ K
                try simp only [Act.put, List.getElem_toArray, List.getElem_cons_succ, List.getElem_cons_zero, List.setIfInBounds_toArray, List.set_cons_zero, List.set_cons_succ]
                refine wpAnyH_done (by kernel_rfl) ?_ _
                have hHH := (hH.set 0 (.int .i64 (f.high - z % (f.high + 1))) (by simp)).drew
                have hB6 := (hK.b.far (M := W5.heap.size) (by omega) 0 (.int .i64 (f.high - z % (f.high + 1)))).drew
                have hG6 := (hK.g.far (M := W5.heap.size) (by omega) 0 (.int .i64 (f.high - z % (f.high + 1)))).drew
                have hbel6 : Below w.heap.size w (W6.setCell ⟨W5.heap.size, 0, none⟩ (.int .i64 (f.high - z % (f.high + 1)))).drew := (hK.bel.setCell (by show w.heap.size ≤ W5.heap.size; omega) _).drew
                obtain ⟨b0, b1, b2, b3, b4, _, _⟩ := hB6.five
                obtain ⟨g0, g1, _, _⟩ := hG6.two
                obtain ⟨c0, c1, c2, c3, c4, _, _⟩ := hHH.five
                have hTick := tick_impl s hh d a k st en ⟨f.high - z % (f.high + 1), f.speed, f.en, f.lim, f.ack⟩
                have hgood : Good hh d a ⟨f.high - z % (f.high + 1), f.speed, f.en, f.lim, f.ack⟩ := good_high h3 HK.out q1 (by omega)
                go_wp2_with fail
                refine (hTick _).mono ?_; rintro e w7 ⟨rfl, hb7⟩
                clear b0 b1 b2 b3 b4 g0 g1 c0 c1 c2 c3 c4 hTick
                have hH7 := hHH.below hb7
                have hbel7 := bstep hbel6 hb7
                obtain ⟨t, ht⟩ : ∃ t, t = tickF s hh d a k st en ⟨f.high - z % (f.high + 1), f.speed, f.en, f.lim, f.ack⟩ := ⟨_, rfl⟩
                rw [← ht]
                have hfin : Hid ((t.ok = true ∧ t.st ≠ 3) ∨ (t.ok = false ∧ 100000000 < f.en)) := by
                  rcases hgood with ⟨g1, g2⟩ | ⟨g1, g2⟩
                  · left
                    rw [ht]
                    exact tick_free h1 h2 g1 hst g2
                  · right
                    refine ⟨?_, g2⟩
                    rw [ht, tickF_ok, g1, Bool.and_false, Bool.and_false]
                clear ht hgood
                obtain ⟨c0, c1, c2, c3, c4, _, _⟩ := (hH7.alloc (.cells #[.bool t.ok, .int .i64 t.st, .int .i64 t.en, .int .i64 t.sp, .bool t.kept, .bool t.change] 32)).five
                go_upto_region 15 with fail
                obtain ⟨t0, t1, t2, t3, t4, t5⟩ := t
                rcases hfin.out with ⟨j1, j2⟩ | ⟨j1, j2⟩
                · obtain rfl : t0 = true := j1
                  have j3 : (t1 != 3) = true := by simpa using j2
                  go_wp2
                  go_ret
                  exact ⟨rfl, bstep hbel7 (bone _ _)⟩
                · exfalso
                  omega
              · go_simp
                go_wp2_with (go_at_call 18; refine (wByte_any 1 hMd (by omega) (by omega)).mono ?_; rintro e w6 ⟨z, rfl, l5, u5, rfl⟩; have q1 : 0 ≤ z % (f.high + 1) := Int.emod_nonneg _ (by omega); have q2 : z % (f.high + 1) < f.high + 1 := Int.emod_lt_of_pos _ (by omega); have hnz : ¬ f.high + 1 = 0 := (by omega); have et : z.tmod (f.high + 1) = z % (f.high + 1) := Int.tmod_eq_emod_of_nonneg l5; have ez : IntKind.i64.wrap (f.high - z % (f.high + 1)) = f.high - z % (f.high + 1) := wrap_in (by omega) (by omega))
                refine hQ.out _ _ (hHeld) (fun hHeld => ?_)
                clear hQ K
                try simp only [Act.put, List.getElem_toArray, List.getElem_cons_succ, List.getElem_cons_zero, List.setIfInBounds_toArray, List.set_cons_zero, List.set_cons_succ]
                refine wpAnyH_take (i := 7) (v := ?v13) rfl (by kernel_rfl) (by decide +kernel) (by decide +kernel) (fun _ _ _ h => h) (Or.inl ⟨by rfl, ?hy13⟩) (by assumption) ?rest13
                case hy13 => (intro w hSw; (try dsimp only at hSw); go_simp; (try with_reducible rfl))
                try simp only [Act.put, List.getElem_toArray, List.getElem_cons_succ, List.getElem_cons_zero, List.setIfInBounds_toArray, List.set_cons_zero, List.set_cons_succ]
                refine wpAnyH_ready (rs := [1]) (by decide +kernel) (by simp) ?_
                refine AllReadyH.cons rfl (fun K hQ => ?_) AllReadyH.nil
                go_simp
                refine hQ.out _ _ (hHeld) (fun hHeld => ?_)
                clear hQ K
                try simp only [Act.put, List.getElem_toArray, List.getElem_cons_succ, List.getElem_cons_zero, List.setIfInBounds_toArray, List.set_cons_zero, List.set_cons_succ]
                refine wpAnyH_ready (rs := [8]) (by decide +kernel) (by simp) ?_
                refine AllReadyH.cons rfl (fun K hQ => ?_) AllReadyH.nil
                go_simp
                refine hQ.out _ _ (hHeld) (fun hHeld => ?_)
                clear hQ K
                try simp only [Act.put, List.getElem_toArray, List.getElem_cons_succ, List.getElem_cons_zero, List.setIfInBounds_toArray, List.set_cons_zero, List.set_cons_succ]
                refine wpAnyH_ready (rs := [9]) (by decide +kernel) (by simp) ?_
                refine AllReadyH.cons rfl (fun K hQ => ?_) AllReadyH.nil
                go_simp
                refine hQ.out _ _ (hHeld) (fun hHeld => ?_)
                clear hQ K
                try simp only [Act.put, List.getElem_toArray, List.getElem_cons_succ, List.getElem_cons_zero, List.setIfInBounds_toArray, List.set_cons_zero, List.set_cons_succ]
                refine wpAnyH_ready (rs := [10]) (by decide +kernel) (by simp) ?_
                refine AllReadyH.cons rfl (fun K hQ => ?_) AllReadyH.nil
                go_simp
                refine hQ.out _ _ ((hK.f.drew.far (M := W5.heap.size) (by omega) 0 _).cell 0 _ rfl) (fun hHeld => ?_)
                clear hQ K
                try simp only [Act.put, List.getElem_toArray, List.getElem_cons_succ, List.getElem_cons_zero, List.setIfInBounds_toArray, List.set_cons_zero, List.set_cons_succ]
                refine wpAnyH_done (by kernel_rfl) ?_ _
                have hHH := (hH.set 0 (.int .i64 (f.high - z % (f.high + 1))) (by simp)).drew
                have hB6 := (hK.b.far (M := W5.heap.size) (by omega) 0 (.int .i64 (f.high - z % (f.high + 1)))).drew
                have hG6 := (hK.g.far (M := W5.heap.size) (by omega) 0 (.int .i64 (f.high - z % (f.high + 1)))).drew
                have hbel6 : Below w.heap.size w (W6.setCell ⟨W5.heap.size, 0, none⟩ (.int .i64 (f.high - z % (f.high + 1)))).drew := (hK.bel.setCell (by show w.heap.size ≤ W5.heap.size; omega) _).drew
                obtain ⟨b0, b1, b2, b3, b4, _, _⟩ := hB6.five
                obtain ⟨g0, g1, _, _⟩ := hG6.two
                obtain ⟨c0, c1, c2, c3, c4, _, _⟩ := hHH.five
                have hTick := tick_impl s hh d a k st en ⟨f.high - z % (f.high + 1), f.speed, f.en, f.lim, f.ack⟩
                have hgood : Good hh d a ⟨f.high - z % (f.high + 1), f.speed, f.en, f.lim, f.ack⟩ := good_high h3 HK.out q1 (by omega)
                go_wp2_with fail
                refine (hTick _).mono ?_; rintro e w7 ⟨rfl, hb7⟩
                clear b0 b1 b2 b3 b4 g0 g1 c0 c1 c2 c3 c4 hTick
                have hH7 := hHH.below hb7
                have hbel7 := bstep hbel6 hb7
                obtain ⟨t, ht⟩ : ∃ t, t = tickF s hh d a k st en ⟨f.high - z % (f.high + 1), f.speed, f.en, f.lim, f.ack⟩ := ⟨_, rfl⟩
                rw [← ht]
                have hfin : Hid ((t.ok = true ∧ t.st ≠ 3) ∨ (t.ok = false ∧ 100000000 < f.en)) := by
                  rcases hgood with ⟨g1, g2⟩ | ⟨g1, g2⟩
                  · left
                    rw [ht]
                    exact tick_free h1 h2 g1 hst g2
                  · right
                    refine ⟨?_, g2⟩
                    rw [ht, tickF_ok, g1, Bool.and_false, Bool.and_false]
                clear ht hgood
                obtain ⟨c0, c1, c2, c3, c4, _, _⟩ := (hH7.alloc (.cells #[.bool t.ok, .int .i64 t.st, .int .i64 t.en, .int .i64 t.sp, .bool t.kept, .bool t.change] 32)).five
                go_upto_region 15 with fail
                obtain ⟨t0, t1, t2, t3, t4, t5⟩ := t
                rcases hfin.out with ⟨j1, j2⟩ | ⟨j1, j2⟩
                · obtain rfl : t0 = true := j1
                  have j3 : (t1 != 3) = true := by simpa using j2
                  go_wp2
                  go_ret
                  exact ⟨rfl, bstep hbel7 (bone _ _)⟩
                · exfalso
                  omega
      · obtain ⟨b0, b1, b2, b3, b4, g0, g1, c0, c1, c2, c3, c4, x0, x1, x2, x3, x4, x5⟩ := hJ.cells
        go_wp2
        clear b0 b1 b2 b3 b4 g0 g1 c0 c1 c2 c3 c4 x0 x1 x2 x3 x4 x5
        refine wp_region_held_drew (S := fun w' => w'.cell? ⟨w1.heap.size, 0, none⟩ = some (.int .i64 s) ∧ w'.cell? ⟨w1.heap.size, 1, none⟩ = some (.int .i64 hh) ∧ w'.cell? ⟨w1.heap.size, 2, none⟩ = some (.int .i64 d) ∧ w'.cell? ⟨w1.heap.size, 3, none⟩ = some (.int .i64 a) ∧ w'.cell? ⟨w1.heap.size, 4, none⟩ = some (.int .i64 k) ∧ w'.cell? ⟨w1.heap.size + 1, 0, none⟩ = some (.int .i64 st) ∧ w'.cell? ⟨w1.heap.size + 1, 1, none⟩ = some (.int .i64 en) ∧ w'.cell? ⟨w1.heap.size + 1 + 1, 0, none⟩ = some (.int .i64 f.high) ∧ w'.cell? ⟨w1.heap.size + 1 + 1, 1, none⟩ = some (.int .i64 f.speed) ∧ w'.cell? ⟨w1.heap.size + 1 + 1, 2, none⟩ = some (.int .i64 f.en) ∧ w'.cell? ⟨w1.heap.size + 1 + 1, 3, none⟩ = some (.int .i64 f.lim) ∧ w'.cell? ⟨w1.heap.size + 1 + 1, 4, none⟩ = some (.bool f.ack) ∧ w'.cell? ⟨w2.heap.size, 0, none⟩ = some (.bool x.ok) ∧ w'.cell? ⟨w2.heap.size, 1, none⟩ = some (.int .i64 x.st) ∧ w'.cell? ⟨w2.heap.size, 2, none⟩ = some (.int .i64 x.en) ∧ w'.cell? ⟨w2.heap.size, 3, none⟩ = some (.int .i64 x.sp) ∧ w'.cell? ⟨w2.heap.size, 4, none⟩ = some (.bool x.kept) ∧ w'.cell? ⟨w2.heap.size, 5, none⟩ = some (.bool x.change)) (by kernel_rfl) (Four.cells hJ.drew) (fun hHeld => ?_)
        refine wpAnyH_take (i := 0) (v := ?v24) rfl (by kernel_rfl) (by decide +kernel) (by decide +kernel) (fun _ _ _ h => h) (Or.inl ⟨by rfl, ?hy24⟩) (by assumption) ?rest24
        case hy24 => (intro w hSw; (try dsimp only at hSw); go_simp; (try with_reducible rfl))
        try simp only [Act.put, List.getElem_toArray, List.getElem_cons_zero, List.setIfInBounds_toArray, List.set_cons_zero, List.set_cons_succ]
        refine wpAnyH_take (i := 1) (v := ?v25) rfl (by kernel_rfl) (by decide +kernel) (by decide +kernel) (fun _ _ _ h => h) (Or.inl ⟨by rfl, ?hy25⟩) (by assumption) ?rest25
        case hy25 => (intro w hSw; (try dsimp only at hSw); go_simp; (try with_reducible rfl))
        try simp only [Act.put, List.getElem_toArray, List.getElem_cons_succ, List.getElem_cons_zero, List.setIfInBounds_toArray, List.set_cons_zero, List.set_cons_succ]
        refine wpAnyH_take (i := 2) (v := ?v26) rfl (by kernel_rfl) (by decide +kernel) (by decide +kernel) (fun _ _ _ h => h) (Or.inl ⟨by rfl, ?hy26⟩) (by assumption) ?rest26
        case hy26 => (intro w hSw; (try dsimp only at hSw); go_simp; (try with_reducible rfl))
        try simp only [Act.put, List.getElem_toArray, List.getElem_cons_succ, List.getElem_cons_zero, List.setIfInBounds_toArray, List.set_cons_zero, List.set_cons_succ]
        refine wpAnyH_take (i := 3) (v := ?v27) rfl (by kernel_rfl) (by decide +kernel) (by decide +kernel) (fun _ _ _ h => h) (Or.inl ⟨by rfl, ?hy27⟩) (by assumption) ?rest27
        case hy27 => (intro w hSw; (try dsimp only at hSw); go_simp; (try with_reducible rfl))
        try simp only [Act.put, List.getElem_toArray, List.getElem_cons_succ, List.getElem_cons_zero, List.setIfInBounds_toArray, List.set_cons_zero, List.set_cons_succ]
        refine wpAnyH_ready (rs := [4]) (by decide +kernel) (by simp) ?_
        refine AllReadyH.cons rfl (fun K hK => ?_) AllReadyH.nil
        go_simp
        go_wp2_with (go_at_call 14; refine (hSpec _).mono ?_; rintro e w13 ⟨rfl, hb13⟩; have hI13 := hJ.drew.step hb13)
        refine hK.out _ _ (Four.cells hI13) (fun hHeld => ?_)
        clear hK K
        try simp only [Act.put, List.getElem_toArray, List.getElem_cons_succ, List.getElem_cons_zero, List.setIfInBounds_toArray, List.set_cons_zero, List.set_cons_succ]
        refine wpAnyH_ready (rs := [5]) (by decide +kernel) (by simp) ?_
        refine AllReadyH.cons rfl (fun K hK => ?_) AllReadyH.nil
        go_simp
        refine hK.out _ _ (hHeld) (fun hHeld => ?_)
        clear hK K
        try simp only [Act.put, List.getElem_toArray, List.getElem_cons_succ, List.getElem_cons_zero, List.setIfInBounds_toArray, List.set_cons_zero, List.set_cons_succ]
        refine wpAnyH_take (i := 6) (v := ?v28) rfl (by kernel_rfl) (by decide +kernel) (by decide +kernel) (fun _ _ _ h => h) (Or.inl ⟨by rfl, ?hy28⟩) (by assumption) ?rest28
        case hy28 => (intro w hSw; (try dsimp only at hSw); go_simp; (try with_reducible rfl))
        try simp only [Act.put, List.getElem_toArray, List.getElem_cons_succ, List.getElem_cons_zero, List.setIfInBounds_toArray, List.set_cons_zero, List.set_cons_succ]
        refine wpAnyH_done (by kernel_rfl) ?_ _
        go_wp2
        go_ret
        exact ⟨rfl, hI13.bel⟩

end Go.Proofs.Ytgpphkjdmonkaaa
