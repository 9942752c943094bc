/-
  Permitted, of the program and of the model.
-/
import Derived.Test.YtgpphkjdmonkaaaGreatest
namespace Go.Proofs.Ytgpphkjdmonkaaa
open Go.RowKit

theorem PermIs.no1 {s h d a k room limit : Int} (h1 : okB s h d a k = false) : PermIs s h d a k room limit (-1) := ⟨fun e => tf e h1, fun _ => rfl, fun _ => rfl, fun _ => rfl⟩
theorem PermIs.no2 {s h d a k room limit : Int} (h2 : inB room 0 100000000 = false) : PermIs s h d a k room limit (-1) := ⟨fun _ e => tf e h2, fun _ => rfl, fun _ => rfl, fun _ => rfl⟩
theorem PermIs.no3 {s h d a k room limit : Int} (h3 : inB limit 0 10000 = false) : PermIs s h d a k room limit (-1) := ⟨fun _ _ e => tf e h3, fun _ => rfl, fun _ => rfl, fun _ => rfl⟩
theorem PermIs.yes {s h d a k room limit q r : Int} (h1 : okB s h d a k = true) (h2 : inB room 0 100000000 = true) (h3 : inB limit 0 10000 = true) (ht : Top limit (fun v => ends (d + 1) a h room v && ends (d + k + 1) 0 s room v) q) (hr : r = max 0 q) : PermIs s h d a k room limit r :=
  ⟨fun _ _ _ => ⟨q, ht, hr⟩, fun e => tf h1 e, fun e => tf h2 e, fun e => tf h3 e⟩

set_option maxHeartbeats 1600000 in
theorem permitted_impl (s h d a k room limit : Int) (w : World) :
    Calls Try.prog 16 #[.agg #[.int .i64 s, .int .i64 h, .int .i64 d, .int .i64 a, .int .i64 k], .int .i64 room, .int .i64 limit] w fun e w' => ∃ r, e = .returned (.int .i64 r) ∧ PermIs s h d a k room limit r ∧ Below w.heap.size w w' := by
  have hmf : ∀ (fn : Fn) (first cap : Array Value) (w : World), (Instr.makeFunc fn first cap).run Try.prog w = .ok (.func fn first cap) w := fun _ _ _ _ => rfl
  rcases Bool.eq_false_or_eq_true (okB s h d a k) with h1 | h1
  · rcases Bool.eq_false_or_eq_true (inB room 0 100000000) with h2 | h2
    · rcases Bool.eq_false_or_eq_true (inB limit 0 10000) with h3 | h3
      · obtain ⟨a1, a2, a3, a4, a5, a6, a7, a8, a9, a10⟩ := okB_iff.1 h1
        obtain ⟨l1, l2⟩ := inB_iff.1 h3
        go_enter Try.func16, Try.ntmps16
        go_wp2_with fail
        refine (brakesOk_impl _ _ _ _ _ _).mono ?_; rintro e w1 ⟨rfl, hb1⟩
        obtain ⟨hc1, hf1⟩ := bcell hb1
        go_wp2_with (first | (go_at_call 47; refine (isPlace_any _ _).mono ?_; rintro e w' ⟨rfl, rfl⟩) | (go_at_call 44; refine (isSpeed_any _ _).mono ?_; rintro e w' ⟨rfl, rfl⟩))
        refine (spanOf_any _ _ _ _ _ _ _ a5 a6 a9 a10).mono ?_; rintro e w2 ⟨rfl, hb2⟩
        go_wp2_with fail
        refine (greatest_both limit _ (fun v => ends (d + 1) a h room v && ends (d + k + 1) 0 s room v) _ l1 l2 (fun v w hv hv' => endsBoth_any _ _ _ _ _ _ _ _ _ (by omega) (by omega) a7 a8 (by omega) (by omega) (by omega) (by omega) (by omega) (by omega) (by omega) (by omega) hv hv')).mono ?_
        rintro e w3 ⟨r, rfl, htop, hb3⟩
        have hr1 := htop.1
        by_cases hr : 0 < r
        · go_wp2
          go_ret
          exact ⟨_, rfl, PermIs.yes h1 h2 h3 htop (by omega), bstep (bstep (bstep (bone w _) hb1) hb2) hb3⟩
        · go_wp2
          go_ret
          exact ⟨_, rfl, PermIs.yes h1 h2 h3 htop (by omega), bstep (bstep (bstep (bone w _) hb1) hb2) hb3⟩
      · go_enter Try.func16, Try.ntmps16
        go_wp2_with fail
        refine (brakesOk_impl _ _ _ _ _ _).mono ?_; rintro e w1 ⟨rfl, hb1⟩
        go_wp2_with (first | (go_at_call 47; refine (isPlace_any _ _).mono ?_; rintro e w' ⟨rfl, rfl⟩) | (go_at_call 44; refine (isSpeed_any _ _).mono ?_; rintro e w' ⟨rfl, rfl⟩))
        go_ret
        exact ⟨-1, rfl, PermIs.no3 h3, bstep (bone w _) hb1⟩
    · go_enter Try.func16, Try.ntmps16
      go_wp2_with fail
      refine (brakesOk_impl _ _ _ _ _ _).mono ?_; rintro e w1 ⟨rfl, hb1⟩
      go_wp2_with (go_at_call 47; refine (isPlace_any _ _).mono ?_; rintro e w' ⟨rfl, rfl⟩)
      go_ret
      exact ⟨-1, rfl, PermIs.no2 h2, bstep (bone w _) hb1⟩
  · go_enter Try.func16, Try.ntmps16
    go_wp2_with fail
    refine (brakesOk_impl _ _ _ _ _ _).mono ?_; rintro e w1 ⟨rfl, hb1⟩
    go_wp2_with fail
    go_ret
    exact ⟨-1, rfl, PermIs.no1 h1, bstep (bone w _) hb1⟩

set_option maxHeartbeats 3200000 in
theorem permitted_spec (s h d a k room limit : Int) (w : World) :
    Calls Try.prog 21 #[.agg #[.int .i64 s, .int .i64 h, .int .i64 d, .int .i64 a, .int .i64 k], .int .i64 room, .int .i64 limit] w fun e w' => ∃ r, e = .returned (.int .i64 r) ∧ PermIs s h d a k room limit r ∧ Below w.heap.size w w' := by
  rcases Bool.eq_false_or_eq_true (okB s h d a k) with h1 | h1
  · rcases Bool.eq_false_or_eq_true (inB room 0 100000000) with h2 | h2
    · rcases Bool.eq_false_or_eq_true (inB limit 0 10000) with h3 | h3
      · obtain ⟨r1, r2⟩ := inB_iff.1 h2
        obtain ⟨l1, l2⟩ := inB_iff.1 h3
        go_enter Try.func21, Try.ntmps21
        go_wp2_with fail
        refine (brakesOk_spec _ _ _ _ _ _).mono ?_; rintro e w1 ⟨rfl, hb1⟩
        have hbox := (Box5.first w s h d a k 24).step hb1
        go_wp2_with (first | (go_at_call 54; refine (l1in_any _ _ _ _).mono ?_; rintro e w' ⟨rfl, rfl⟩) | (go_at_call 56; refine (l1speed_any _ _).mono ?_; rintro e w' ⟨rfl, rfl⟩))
        go_loopw [7, 8] (fun sb sv wr => ∃ j b : Int, 0 ≤ j ∧ j ≤ limit + 1 ∧ sv = .int .i64 j ∧ sb = .int .i64 b ∧ Hid (b = max 0 (j - 1)) ∧ Hid (0 ≤ j - 1 → (ends (d + 1) a h room (j - 1) && ends (d + k + 1) 0 s room (j - 1)) = true) ∧ Box5 w s h d a k wr) (fun _ sv _ => (limit + 1 - intOf sv).toNat)
        case atStart => exact ⟨0, 0, by omega, by omega, rfl, rfl, rfl, fun e => by omega, hbox⟩
        case round =>
          obtain ⟨j, b, hj, hj', rfl, rfl, HB, HP, hB⟩ := hrel
          have hB' := hB
          obtain ⟨c0, c1, c2, c3, c4, hz, hBel⟩ := hB'
          clear hbox
          by_cases hle : j ≤ limit
          · by_cases hw : worstP h d a j ≤ room
            · by_cases hg : gentleP s d k j ≤ room
              · have HN : Hid (0 ≤ j + 1 - 1 → (ends (d + 1) a h room (j + 1 - 1) && ends (d + k + 1) 0 s room (j + 1 - 1)) = true) := fun _ => by
                  rw [Int.add_sub_cancel, Bool.and_eq_true]; exact ⟨decide_eq_true hw, decide_eq_true hg⟩
                have HN2 : Hid (j = max 0 (j + 1 - 1)) := by show _ = _; omega
                go_wp2_with fail
                refine (l1worst_any _ _ _ _ _ _ _ h1 hj (by omega)).mono ?_; rintro e w2 ⟨rfl, hb2⟩
                obtain ⟨hc2, hf2⟩ := bcell hb2
                go_wp2_with fail
                refine (l1gentle_any _ _ _ _ _ _ _ h1 hj (by omega)).mono ?_; rintro e w3 ⟨rfl, hb3⟩
                go_wp2
                go_roundw
                case rel => exact ⟨j + 1, j, by omega, by omega, rfl, rfl, HN2, HN, (hB.step hb2).step hb3⟩
                case measure => simp [intOf]; omega
              · have HN : Hid ((ends (d + 1) a h room (j - 1 + 1) && ends (d + k + 1) 0 s room (j - 1 + 1)) = false) := by
                  show _ = _; rw [Int.sub_add_cancel, Bool.and_eq_false_iff]; exact .inr (decide_eq_false hg)
                go_wp2_with fail
                refine (l1worst_any _ _ _ _ _ _ _ h1 hj (by omega)).mono ?_; rintro e w2 ⟨rfl, hb2⟩
                obtain ⟨hc2, hf2⟩ := bcell hb2
                go_wp2_with fail
                refine (l1gentle_any _ _ _ _ _ _ _ h1 hj (by omega)).mono ?_; rintro e w3 ⟨rfl, hb3⟩
                go_wp2
                go_ret
                exact ⟨b, rfl, PermIs.yes h1 h2 h3 ⟨by omega, by omega, HP.out, fun _ => HN.out⟩ HB.out, bstep (bstep hBel hb2) hb3⟩
            · have HN : Hid ((ends (d + 1) a h room (j - 1 + 1) && ends (d + k + 1) 0 s room (j - 1 + 1)) = false) := by
                show _ = _; rw [Int.sub_add_cancel, Bool.and_eq_false_iff]; exact .inl (decide_eq_false hw)
              go_wp2_with fail
              refine (l1worst_any _ _ _ _ _ _ _ h1 hj (by omega)).mono ?_; rintro e w2 ⟨rfl, hb2⟩
              go_wp2
              go_ret
              exact ⟨b, rfl, PermIs.yes h1 h2 h3 ⟨by omega, by omega, HP.out, fun _ => HN.out⟩ HB.out, bstep hBel hb2⟩
          · go_wp2
            go_ret
            exact ⟨b, rfl, PermIs.yes h1 h2 h3 ⟨by omega, by omega, HP.out, fun e => by omega⟩ HB.out, hBel⟩
      · go_enter Try.func21, Try.ntmps21
        go_wp2_with fail
        refine (brakesOk_spec _ _ _ _ _ _).mono ?_; rintro e w1 ⟨rfl, hb1⟩
        go_wp2_with (first | (go_at_call 54; refine (l1in_any _ _ _ _).mono ?_; rintro e w' ⟨rfl, rfl⟩) | (go_at_call 56; refine (l1speed_any _ _).mono ?_; rintro e w' ⟨rfl, rfl⟩))
        go_ret
        exact ⟨-1, rfl, PermIs.no3 h3, bstep (bone w _) hb1⟩
    · go_enter Try.func21, Try.ntmps21
      go_wp2_with fail
      refine (brakesOk_spec _ _ _ _ _ _).mono ?_; rintro e w1 ⟨rfl, hb1⟩
      go_wp2_with (go_at_call 54; refine (l1in_any _ _ _ _).mono ?_; rintro e w' ⟨rfl, rfl⟩)
      go_ret
      exact ⟨-1, rfl, PermIs.no2 h2, bstep (bone w _) hb1⟩
  · go_enter Try.func21, Try.ntmps21
    go_wp2_with fail
    refine (brakesOk_spec _ _ _ _ _ _).mono ?_; rintro e w1 ⟨rfl, hb1⟩
    go_wp2_with fail
    go_ret
    exact ⟨-1, rfl, PermIs.no1 h1, bstep (bone w _) hb1⟩

end Go.Proofs.Ytgpphkjdmonkaaa
