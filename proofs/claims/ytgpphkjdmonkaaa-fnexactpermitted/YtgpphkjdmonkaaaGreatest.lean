/-
  MostHard and Permitted, of the program and of the model: the greatest speeds.
-/
import Derived.Test.YtgpphkjdmonkaaaSearch
import Derived.Test.YtgpphkjdmonkaaaModel
namespace Go.Proofs.Ytgpphkjdmonkaaa
open Go.RowKit

/-- The brakes lie in their box, and nothing elder has turned. -/
def Box5 (w : World) (s h d a k : Int) (W : World) : Prop :=
  W.cell? ⟨w.heap.size, 0, none⟩ = some (.int .i64 s) ∧ W.cell? ⟨w.heap.size, 1, none⟩ = some (.int .i64 h) ∧ W.cell? ⟨w.heap.size, 2, none⟩ = some (.int .i64 d) ∧ W.cell? ⟨w.heap.size, 3, none⟩ = some (.int .i64 a) ∧ W.cell? ⟨w.heap.size, 4, none⟩ = some (.int .i64 k) ∧ w.heap.size < W.heap.size ∧ Below w.heap.size w W
theorem Box5.first (w : World) (s h d a k : Int) (t : TypeId) : Box5 w s h d a k (w.alloc (.cells #[.int .i64 s, .int .i64 h, .int .i64 d, .int .i64 a, .int .i64 k] t)) :=
  ⟨by simp, by simp, by simp, by simp, by simp, by simp, bone _ _⟩
theorem Box5.step {w : World} {s h d a k : Int} {W W' : World} (hB : Box5 w s h d a k W) (hb : Below W.heap.size W W') : Box5 w s h d a k W' := by
  obtain ⟨h0, h1, h2, h3, h4, hz, hB⟩ := hB
  have hs := hb.size
  have hc := (bcell hb).1
  exact ⟨(hc _ _ hz).trans h0, (hc _ _ hz).trans h1, (hc _ _ hz).trans h2, (hc _ _ hz).trans h3, (hc _ _ hz).trans h4, by omega, bstep hB hb⟩

theorem tf {b : Bool} {P : Prop} (h : b = true) (e : b = false) : P := by rw [h] at e; cases e
/-- What MostHard answers. -/
def HardIs (s h d a k room r : Int) : Prop :=
  (okB s h d a k = true → inB room 0 100000000 = true → Top 10000 (ends (d + 1) a h room) r) ∧ (okB s h d a k = false → r = -1) ∧ (inB room 0 100000000 = false → r = -1)
/-- What Permitted answers. -/
def PermIs (s h d a k room limit r : Int) : Prop :=
  (okB s h d a k = true → inB room 0 100000000 = true → inB limit 0 10000 = true → ∃ q, Top limit (fun v => ends (d + 1) a h room v && ends (d + k + 1) 0 s room v) q ∧ r = max 0 q) ∧
  (okB s h d a k = false → r = -1) ∧ (inB room 0 100000000 = false → r = -1) ∧ (inB limit 0 10000 = false → r = -1)

theorem ends_up {t g b room : Int} (ht : 0 ≤ t) (hg : 0 ≤ g) (hb : 1 ≤ b) (x y : Int) (hx : 0 ≤ x) (hxy : x ≤ y) (h : ends t g b room y = true) : ends t g b room x = true := by
  have h2 : crv t g b y ≤ room := of_decide_eq_true h
  exact decide_eq_true (Int.le_trans (crv_up ht hg hb hx hxy) h2)
theorem HardIs.one {s h d a k room r q : Int} (hr : HardIs s h d a k room r) (hq : HardIs s h d a k room q) : r = q := by
  rcases Bool.eq_false_or_eq_true (okB s h d a k) with h1 | h1
  · rcases Bool.eq_false_or_eq_true (inB room 0 100000000) with h2 | h2
    · obtain ⟨a1, a2, a3, a4, a5, a6, a7, a8, a9, a10⟩ := okB_iff.1 h1
      exact Top.one (fun x y hx hxy hy => ends_up (by omega) a7 (by omega) x y hx hxy hy) (hr.1 h1 h2) (hq.1 h1 h2)
    · rw [hr.2.2 h2, hq.2.2 h2]
  · rw [hr.2.1 h1, hq.2.1 h1]
theorem PermIs.one {s h d a k room limit r q : Int} (hr : PermIs s h d a k room limit r) (hq : PermIs s h d a k room limit q) : r = q := by
  rcases Bool.eq_false_or_eq_true (okB s h d a k) with h1 | h1
  · rcases Bool.eq_false_or_eq_true (inB room 0 100000000) with h2 | h2
    · rcases Bool.eq_false_or_eq_true (inB limit 0 10000) with h3 | h3
      · obtain ⟨a1, a2, a3, a4, a5, a6, a7, a8, a9, a10⟩ := okB_iff.1 h1
        obtain ⟨x, tx, rfl⟩ := hr.1 h1 h2 h3
        obtain ⟨y, ty, rfl⟩ := hq.1 h1 h2 h3
        rw [Top.one (fun x y hx hxy hy => ?_) tx ty]
        rw [Bool.and_eq_true] at hy ⊢
        exact ⟨ends_up (by omega) a7 (by omega) x y hx hxy hy.1, ends_up (by omega) (by omega) (by omega) x y hx hxy hy.2⟩
      · rw [hr.2.2.2 h3, hq.2.2.2 h3]
    · rw [hr.2.2.1 h2, hq.2.2.1 h2]
  · rw [hr.2.1 h1, hq.2.1 h1]

set_option maxHeartbeats 800000 in
theorem mostHard_impl (s h d a k room : Int) (w : World) :
    Calls Try.prog 19 #[.agg #[.int .i64 s, .int .i64 h, .int .i64 d, .int .i64 a, .int .i64 k], .int .i64 room] w fun e w' => ∃ r, e = .returned (.int .i64 r) ∧ HardIs s h d a k room r ∧ Below w.heap.size w w' := by
  have hmf : ∀ (fn : Fn) (first cap : Array Value) (w : World), (Instr.makeFunc fn first cap).run Try.prog w = .ok (.func fn first cap) w := fun _ _ _ _ => rfl
  rcases Bool.eq_false_or_eq_true (okB s h d a k) with h1 | h1
  · rcases Bool.eq_false_or_eq_true (inB room 0 100000000) with h2 | h2
    · obtain ⟨a1, a2, a3, a4, a5, a6, a7, a8, a9, a10⟩ := okB_iff.1 h1
      go_enter Try.func19, Try.ntmps19
      go_wp2_with fail
      refine (brakesOk_impl _ _ _ _ _ _).mono ?_; rintro e w1 ⟨rfl, hb1⟩
      obtain ⟨hc1, hf1⟩ := bcell hb1
      go_wp2_with (go_at_call 47; refine (isPlace_any _ _).mono ?_; rintro e w' ⟨rfl, rfl⟩)
      refine (spanOf_any _ _ _ _ _ _ _ a5 a6 a9 a10).mono ?_; rintro e w2 ⟨rfl, hb2⟩
      go_wp2_with fail
      refine (greatest_hard 10000 _ (ends (d + 1) a h room) _ (by omega) (by omega) (fun v w hv hv' => endsHard_any _ _ _ _ _ _ _ _ _ (by omega) (by omega) a7 a8 (by omega) (by omega) hv hv')).mono ?_
      rintro e w3 ⟨r, rfl, htop, hb3⟩
      go_wp2
      go_ret
      exact ⟨r, rfl, ⟨fun _ _ => htop, fun e => tf h1 e, fun e => tf h2 e⟩, bstep (bstep (bstep (bone w _) hb1) hb2) hb3⟩
    · go_enter Try.func19, Try.ntmps19
      go_wp2_with fail
      refine (brakesOk_impl _ _ _ _ _ _).mono ?_; rintro e w1 ⟨rfl, hb1⟩
      obtain ⟨hc1, hf1⟩ := bcell hb1
      go_wp2_with (go_at_call 47; refine (isPlace_any _ _).mono ?_; rintro e w' ⟨rfl, rfl⟩)
      go_ret
      exact ⟨-1, rfl, ⟨fun _ e => tf e h2, fun _ => rfl, fun _ => rfl⟩, bstep (bone w _) hb1⟩
  · go_enter Try.func19, Try.ntmps19
    go_wp2_with fail
    refine (brakesOk_impl _ _ _ _ _ _).mono ?_; rintro e w1 ⟨rfl, hb1⟩
    go_wp2_with fail
    go_ret
    exact ⟨-1, rfl, ⟨fun e => tf e h1, fun _ => rfl, fun _ => rfl⟩, bstep (bone w _) hb1⟩

set_option maxHeartbeats 1600000 in
theorem mostHard_spec (s h d a k room : Int) (w : World) :
    Calls Try.prog 20 #[.agg #[.int .i64 s, .int .i64 h, .int .i64 d, .int .i64 a, .int .i64 k], .int .i64 room] w fun e w' => ∃ r, e = .returned (.int .i64 r) ∧ HardIs s h d a k room r ∧ Below w.heap.size w w' := by
  rcases Bool.eq_false_or_eq_true (okB s h d a k) with h1 | h1
  · rcases Bool.eq_false_or_eq_true (inB room 0 100000000) with h2 | h2
    · obtain ⟨r1, r2⟩ := inB_iff.1 h2
      go_enter Try.func20, Try.ntmps20
      go_wp2_with fail
      refine (brakesOk_spec _ _ _ _ _ _).mono ?_; rintro e w1 ⟨rfl, hb1⟩
      obtain ⟨hc1, hf1⟩ := bcell hb1
      have hbox := (Box5.first w s h d a k 24).step hb1
      go_wp2_with (go_at_call 54; refine (l1in_any _ _ _ _).mono ?_; rintro e w' ⟨rfl, rfl⟩)
      go_loopw [5, 6] (fun sb sv wr => ∃ j : Int, 0 ≤ j ∧ j ≤ 10001 ∧ sv = .int .i64 j ∧ sb = .int .i64 (j - 1) ∧ Hid (0 ≤ j - 1 → ends (d + 1) a h room (j - 1) = true) ∧ Box5 w s h d a k wr) (fun _ sv _ => (10001 - intOf sv).toNat)
      case atStart => exact ⟨0, by omega, by omega, rfl, rfl, fun e => by omega, hbox⟩
      case round =>
        obtain ⟨j, hj, hj', rfl, rfl, HP, hB⟩ := hrel
        have hB' := hB
        obtain ⟨c0, c1, c2, c3, c4, hz, hBel⟩ := hB'
        clear hc1 hf1 hbox
        by_cases hle : j ≤ 10000
        · by_cases hw : worstP h d a j ≤ room
          · have HN : Hid (0 ≤ j + 1 - 1 → ends (d + 1) a h room (j + 1 - 1) = true) := fun _ => by
              rw [Int.add_sub_cancel]; exact decide_eq_true hw
            go_wp2_with fail
            refine (l1worst_any _ _ _ _ _ _ _ h1 hj hle).mono ?_; rintro e w2 ⟨rfl, hb2⟩
            go_wp2
            go_roundw
            case rel => exact ⟨j + 1, by omega, by omega, rfl, by rw [Int.add_sub_cancel], HN, hB.step hb2⟩
            case measure => simp [intOf]; omega
          · have HN : Hid (ends (d + 1) a h room (j - 1 + 1) = false) := by
              show _ = _; rw [Int.sub_add_cancel]; exact decide_eq_false hw
            go_wp2_with fail
            refine (l1worst_any _ _ _ _ _ _ _ h1 hj hle).mono ?_; rintro e w2 ⟨rfl, hb2⟩
            go_wp2
            go_ret
            exact ⟨j - 1, rfl, ⟨fun _ _ => ⟨by omega, by omega, HP.out, fun _ => HN.out⟩, fun e => tf h1 e, fun e => tf h2 e⟩, bstep hBel hb2⟩
        · go_wp2
          go_ret
          exact ⟨j - 1, rfl, ⟨fun _ _ => ⟨by omega, by omega, HP.out, fun e => by omega⟩, fun e => tf h1 e, fun e => tf h2 e⟩, hBel⟩
    · go_enter Try.func20, Try.ntmps20
      go_wp2_with fail
      refine (brakesOk_spec _ _ _ _ _ _).mono ?_; rintro e w1 ⟨rfl, hb1⟩
      obtain ⟨hc1, hf1⟩ := bcell hb1
      go_wp2_with (go_at_call 54; refine (l1in_any _ _ _ _).mono ?_; rintro e w' ⟨rfl, rfl⟩)
      go_ret
      exact ⟨-1, rfl, ⟨fun _ e => tf e h2, fun _ => rfl, fun _ => rfl⟩, bstep (bone w _) hb1⟩
  · go_enter Try.func20, Try.ntmps20
    go_wp2_with fail
    refine (brakesOk_spec _ _ _ _ _ _).mono ?_; rintro e w1 ⟨rfl, hb1⟩
    go_wp2_with fail
    go_ret
    exact ⟨-1, rfl, ⟨fun e => tf e h1, fun _ => rfl, fun _ => rfl⟩, bstep (bone w _) hb1⟩

end Go.Proofs.Ytgpphkjdmonkaaa
