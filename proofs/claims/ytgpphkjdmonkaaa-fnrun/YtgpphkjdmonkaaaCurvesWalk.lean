/-
  The law of the curves: the walk.
-/
import Derived.Test.YtgpphkjdmonkaaaCurvesLaw
namespace Go.Proofs.Ytgpphkjdmonkaaa
open Go.RowKit
attribute [local go_sem ↓] Go.wp_at_zero Go.wp_at_succ

theorem boxKeep {w1 W W' : World} {s h d a k : Int} (hS : W.cell? ⟨w1.heap.size, 0, none⟩ = some (.int .i64 s) ∧ W.cell? ⟨w1.heap.size, 1, none⟩ = some (.int .i64 h) ∧ W.cell? ⟨w1.heap.size, 2, none⟩ = some (.int .i64 d) ∧ W.cell? ⟨w1.heap.size, 3, none⟩ = some (.int .i64 a) ∧ W.cell? ⟨w1.heap.size, 4, none⟩ = some (.int .i64 k) ∧ w1.heap.size < W.heap.size ∧ Below w1.heap.size w1 W) (hb : Below W.heap.size W W') :
    W'.cell? ⟨w1.heap.size, 0, none⟩ = some (.int .i64 s) ∧ W'.cell? ⟨w1.heap.size, 1, none⟩ = some (.int .i64 h) ∧ W'.cell? ⟨w1.heap.size, 2, none⟩ = some (.int .i64 d) ∧ W'.cell? ⟨w1.heap.size, 3, none⟩ = some (.int .i64 a) ∧ W'.cell? ⟨w1.heap.size, 4, none⟩ = some (.int .i64 k) ∧ w1.heap.size < W'.heap.size ∧ Below w1.heap.size w1 W' := Box5.step hS hb
/-- Bytes lie there. -/
def Lie (a : Option Addr) (len : Nat) (W : World) : Prop := len = 0 ∨ ∃ b off, a = some ⟨b, off, none⟩ ∧ b < W.heap.size ∧ ∀ i, i < len → ∃ z : Int, 0 ≤ z ∧ z ≤ 255 ∧ W.cell? ⟨b, off + i, none⟩ = some (.int .u8 z)
theorem hidden {p : Prop} (h : p) : Hid p := h
theorem crv_zero (t b : Int) (hb : 1 ≤ b) : crv t 0 b 0 = 0 := by
  have : brk b 0 = 0 := brk_small (by omega) (by omega) (by omega)
  simp [crv, unb, this]
/-- What the law asks of the greatest speed that can be braked. -/
theorem hard_facts {s h d a k room r : Int} (hok : okB s h d a k = true) (hr : inB room 0 100000000 = true) (hh : HardIs s h d a k room r) :
    -1 ≤ r ∧ r ≤ 10000 ∧ (0 ≤ r → ¬ room < worstF s h d a k r) ∧ (r < 10000 → ¬ worstF s h d a k (r + 1) ≤ room) := by
  obtain ⟨h1, h2, h3, h4⟩ := hh.1 hok hr
  refine ⟨h1, h2, fun e => ?_, fun e => ?_⟩
  · rw [worstF_in hok e h2]; have : crv (d + 1) a h r ≤ room := of_decide_eq_true (h3 e); omega
  · rw [worstF_in hok (by omega) (by omega)]; exact of_decide_eq_false (h4 e)
theorem perm_facts {s h d a k room limit p : Int} (hok : okB s h d a k = true) (hr : inB room 0 100000000 = true) (hl : inB limit 0 10000 = true) (hp : PermIs s h d a k room limit p) :
    0 ≤ p ∧ p ≤ limit ∧ (0 < p → ¬ room < worstF s h d a k p ∧ ¬ room < gentleF s h d a k p) ∧ (p < limit → worstF s h d a k p ≤ room → worstF s h d a k (p + 1) ≤ room → ¬ gentleF s h d a k (p + 1) ≤ room) := by
  obtain ⟨q, ⟨h1, h2, h3, h4⟩, rfl⟩ := hp.1 hok hr hl
  obtain ⟨r1, r2⟩ := inB_iff.1 hr
  obtain ⟨l1, l2⟩ := inB_iff.1 hl
  obtain ⟨a1, a2, a3, a4, a5, a6, a7, a8, a9, a10⟩ := okB_iff.1 hok
  by_cases hq : 0 ≤ q
  · have e : max 0 q = q := by omega
    rw [e]
    have g := h3 hq
    rw [Bool.and_eq_true] at g
    have g1 : crv (d + 1) a h q ≤ room := of_decide_eq_true g.1
    have g2 : crv (d + k + 1) 0 s q ≤ room := of_decide_eq_true g.2
    refine ⟨hq, h2, fun _ => ?_, fun e hw1 hw2 hg => ?_⟩
    · rw [worstF_in hok hq (by omega), gentleF_in hok hq (by omega)]; omega
    · have := h4 e
      rw [worstF_in hok (by omega) (by omega)] at hw2
      rw [gentleF_in hok (by omega) (by omega)] at hg
      rw [Bool.and_eq_false_iff] at this
      rcases this with this | this
      · exact of_decide_eq_false this hw2
      · exact of_decide_eq_false this hg
  · have e : max 0 q = 0 := by omega
    have eq : q = -1 := by omega
    subst eq
    rw [e]
    refine ⟨by omega, by omega, fun e => by omega, fun e hw1 hw2 hg => ?_⟩
    have := h4 (by omega)
    rw [worstF_in hok (by omega) (by omega)] at hw1
    rw [Bool.and_eq_false_iff] at this
    rcases this with this | this
    · exact of_decide_eq_false this hw1
    · exact of_decide_eq_false this (by show crv (d + k + 1) 0 s 0 ≤ room; rw [crv_zero _ _ (by omega)]; omega)
theorem worstF_up {s h d a k v : Int} (hok : okB s h d a k = true) (h0 : 0 ≤ v) (h1 : v + 1 ≤ 10000) : worstF s h d a k v ≤ worstF s h d a k (v + 1) := by
  obtain ⟨a1, a2, a3, a4, a5, a6, a7, a8, a9, a10⟩ := okB_iff.1 hok
  rw [worstF_in hok h0 (by omega), worstF_in hok (by omega) h1]
  exact crv_up (by omega) a7 (by omega) h0 (by omega)
theorem gentleF_up {s h d a k v : Int} (hok : okB s h d a k = true) (h0 : 0 ≤ v) (h1 : v + 1 ≤ 10000) : gentleF s h d a k v ≤ gentleF s h d a k (v + 1) := by
  obtain ⟨a1, a2, a3, a4, a5, a6, a7, a8, a9, a10⟩ := okB_iff.1 hok
  rw [gentleF_in hok h0 (by omega), gentleF_in hok (by omega) h1]
  exact crv_up (by omega) (by omega) (by omega) h0 (by omega)

set_option maxRecDepth 100000 in
set_option maxHeartbeats 6400000 in
theorem curvesLaw_any (a0 a1 : Option Addr) (len0 cap0 len1 cap1 : Nat) (w : World) (hs0 : len0 ≤ 9223372036854775807) (hs1 : len1 ≤ 9223372036854775807) (k0 : Lie a0 len0 w) (k1 : Lie a1 len1 w) :
    Calls Try.prog 4 #[.slice a0 len0 cap0, .slice a1 len1 cap1] w fun e w' => e = .returned (.bool true) ∧ Below w.heap.size w w' := by
  by_cases c0 : (1048576 : Int) < len0
  · go_enter Try.func4, Try.ntmps4
    go_wp2
    go_ret
    exact ⟨rfl, Below.refl _ _⟩
  · by_cases c1 : (1048576 : Int) < len1
    · go_enter Try.func4, Try.ntmps4
      go_wp2
      go_ret
      exact ⟨rfl, Below.refl _ _⟩
    · have h0 : Came a0 len0 w := ⟨by omega, k0⟩
      have h1 : Came a1 len1 w := ⟨by omega, k1⟩
      go_enter Try.func4, Try.ntmps4
      go_wp2_with fail
      refine (drives_any h0).mono ?_; rintro e w1 ⟨s, h, d, a, k, v, xs, rfl, hd, hxs, hlen, hown, hb1⟩
      clear hxs hlen hown
      have hok := drawnB_ok hd
      have hm : Came a1 len1 (w1.alloc (.cells #[.int .i64 s, .int .i64 h, .int .i64 d, .int .i64 a, .int .i64 k] 24)) := (h1.keep hb1).keep (bone _ _)
      have hbox := Box5.first w1 s h d a k 24
      go_wp2_with fail
      refine (wByte_any 0 hm (by omega) (by omega)).mono ?_; rintro e w2 ⟨x0, rfl, l0, u0, rfl⟩
      go_wp2_with fail
      refine (wByte_any 1 hm (by omega) (by omega)).mono ?_; rintro e w2 ⟨x1, rfl, l1, u1, rfl⟩
      go_wp2_with fail
      refine (wByte_any 2 hm (by omega) (by omega)).mono ?_; rintro e w2 ⟨x2, rfl, l2, u2, rfl⟩
      obtain ⟨m1, m2⟩ := mulb (a := x0 + 256 * x1) (A := 65535) (b := 1 + x2 % 9) (B := 9) (by omega) (by omega) (by omega) (by omega)
      go_wp2_with fail
      refine (wByte_any 3 hm (by omega) (by omega)).mono ?_; rintro e w2 ⟨x3, rfl, l3, u3, rfl⟩
      generalize hroom : (x0 + 256 * x1) * (1 + x2 % 9) = room at *
      clear hroom
      have hroomB : inB room 0 100000000 = true := inB_iff.2 ⟨m1, by omega⟩
      have hlimB : inB (x3 * 3) 0 10000 = true := inB_iff.2 ⟨by omega, by omega⟩
      have hcame := h1.keep hb1
      clear hm m1 m2
      go_wp2_with fail
      refine (mostHard_impl _ _ _ _ _ _ _).mono ?_; rintro e w2 ⟨r, rfl, hr, hb2⟩
      have bx2 := hbox.step hb2
      clear hbox
      have bx2' := bx2
      obtain ⟨d0, d1, d2, d3, d4, dz, dB⟩ := bx2'
      go_wp2_with fail
      refine (permitted_impl _ _ _ _ _ _ _ _).mono ?_; rintro e w3 ⟨p, rfl, hp, hb3⟩
      have bx3 := bx2.step hb3
      clear bx2 d0 d1 d2 d3 d4 dz dB hb2 hb3
      have bx3' := bx3
      obtain ⟨d0, d1, d2, d3, d4, dz, dB⟩ := bx3'
      go_wp2_with fail
      refine (mostHard_spec _ _ _ _ _ _ _).mono ?_; rintro e w4 ⟨r', rfl, hr', hb4⟩
      obtain rfl := HardIs.one hr' hr
      have bx4 := bx3.step hb4
      clear bx3 d0 d1 d2 d3 d4 dz dB hb4
      have bx4' := bx4
      obtain ⟨d0, d1, d2, d3, d4, dz, dB⟩ := bx4'
      go_wp2_with fail
      refine (permitted_spec _ _ _ _ _ _ _ _).mono ?_; rintro e w5 ⟨p', rfl, hp', hb5⟩
      obtain rfl := PermIs.one hp' hp
      have bx5 := bx4.step hb5
      clear bx4 d0 d1 d2 d3 d4 dz dB hb5
      obtain ⟨f1, f2, f3, f4⟩ := hard_facts hok hroomB hr
      obtain ⟨g1, g2, g3, g4⟩ := perm_facts hok hroomB hlimB hp
      clear hr hr' hp hp'
      have F3 := hidden f3; have F4 := hidden f4; have G3 := hidden g3; have G4 := hidden g4
      clear f3 f4 g3 g4
      go_upto_region 10 with fail
      go_cut [88] from 68 (fun t wx => t = .bool false ∧ Box5 w1 s h d a k wx)
      case first =>
        have bx5c := bx5
        obtain ⟨d0, d1, d2, d3, d4, dz, dB⟩ := bx5c
        by_cases hr0 : 0 ≤ r'
        · have e1 := F3.out hr0
          by_cases hr1 : r' < 10000
          · have e2 := F4.out hr1
            go_wp2_with fail
            refine (worst_impl _ _ _ _ _ _ _).mono ?_; rintro e w6 ⟨rfl, hb6⟩
            have bx6 := bx5.step hb6
            clear d0 d1 d2 d3 d4 dz dB bx5 hb6
            have bx6c := bx6
            obtain ⟨d0, d1, d2, d3, d4, dz, dB⟩ := bx6c
            go_wp2_with fail
            refine (worst_impl _ _ _ _ _ _ _).mono ?_; rintro e w7 ⟨rfl, hb7⟩
            have bx7 := bx6.step hb7
            clear d0 d1 d2 d3 d4 dz dB bx6 hb7
            have bx7c := bx7
            obtain ⟨d0, d1, d2, d3, d4, dz, dB⟩ := bx7c
            go_wp2_with fail
            go_meet
            exact ⟨by first | rfl | (simp; omega), bx7⟩
          · skip
            go_wp2_with fail
            refine (worst_impl _ _ _ _ _ _ _).mono ?_; rintro e w6 ⟨rfl, hb6⟩
            have bx6 := bx5.step hb6
            clear d0 d1 d2 d3 d4 dz dB bx5 hb6
            have bx6c := bx6
            obtain ⟨d0, d1, d2, d3, d4, dz, dB⟩ := bx6c
            go_wp2_with fail
            go_meet
            exact ⟨by first | rfl | (simp; omega), bx6⟩
        · have e2 := F4.out (by omega)
          have hr1 : r' < 10000 := by omega
          go_wp2_with fail
          refine (worst_impl _ _ _ _ _ _ _).mono ?_; rintro e w6 ⟨rfl, hb6⟩
          have bx6 := bx5.step hb6
          clear d0 d1 d2 d3 d4 dz dB bx5 hb6
          have bx6c := bx6
          obtain ⟨d0, d1, d2, d3, d4, dz, dB⟩ := bx6c
          go_wp2_with fail
          go_meet
          exact ⟨by first | rfl | (simp; omega), bx6⟩
      case rest =>
       obtain ⟨rfl, bx6⟩ := hcut
       clear bx5 F3 F4
       go_upto_region 12 with fail
       go_cut [104] from 89 (fun t wx => t = .bool false ∧ Box5 w1 s h d a k wx)
       case first =>
         have bx6c := bx6
         obtain ⟨d0, d1, d2, d3, d4, dz, dB⟩ := bx6c
         by_cases hp0 : 0 < p'
         · obtain ⟨e1, e2⟩ := G3.out hp0
           go_wp2_with fail
           refine (worst_impl _ _ _ _ _ _ _).mono ?_; rintro e w7 ⟨rfl, hb7⟩
           have bx7 := bx6.step hb7
           clear d0 d1 d2 d3 d4 dz dB bx6 hb7
           have bx7c := bx7
           obtain ⟨d0, d1, d2, d3, d4, dz, dB⟩ := bx7c
           go_wp2_with fail
           refine (gentle_impl _ _ _ _ _ _ _).mono ?_; rintro e w8 ⟨rfl, hb8⟩
           have bx8 := bx7.step hb8
           clear d0 d1 d2 d3 d4 dz dB bx7 hb8
           have bx8c := bx8
           obtain ⟨d0, d1, d2, d3, d4, dz, dB⟩ := bx8c
           go_wp2_with fail
           go_meet
           exact ⟨by first | rfl | (simp; omega), bx8⟩
         · skip
           go_wp2_with fail
           go_meet
           exact ⟨by first | rfl | (simp; omega), bx6⟩
       case rest =>
        obtain ⟨rfl, bx7⟩ := hcut
        clear bx6 G3
        go_upto_region 14 with fail
        go_cut [130] from 105 (fun t wx => t = .bool false ∧ Box5 w1 s h d a k wx)
        case first =>
          have bx7c := bx7
          obtain ⟨d0, d1, d2, d3, d4, dz, dB⟩ := bx7c
          by_cases hq0 : p' < x3 * 3
          · by_cases hw1 : worstF s h d a k p' ≤ room
            · by_cases hw2 : worstF s h d a k (p' + 1) ≤ room
              · have e1 := G4.out hq0 hw1 hw2
                go_wp2_with fail
                refine (worst_impl _ _ _ _ _ _ _).mono ?_; rintro e w8 ⟨rfl, hb8⟩
                have bx8 := bx7.step hb8
                clear d0 d1 d2 d3 d4 dz dB bx7 hb8
                have bx8c := bx8
                obtain ⟨d0, d1, d2, d3, d4, dz, dB⟩ := bx8c
                go_wp2_with fail
                refine (worst_impl _ _ _ _ _ _ _).mono ?_; rintro e w9 ⟨rfl, hb9⟩
                have bx9 := bx8.step hb9
                clear d0 d1 d2 d3 d4 dz dB bx8 hb9
                have bx9c := bx9
                obtain ⟨d0, d1, d2, d3, d4, dz, dB⟩ := bx9c
                go_wp2_with fail
                refine (gentle_impl _ _ _ _ _ _ _).mono ?_; rintro e w10 ⟨rfl, hb10⟩
                have bx10 := bx9.step hb10
                clear d0 d1 d2 d3 d4 dz dB bx9 hb10
                have bx10c := bx10
                obtain ⟨d0, d1, d2, d3, d4, dz, dB⟩ := bx10c
                go_wp2_with fail
                go_meet
                exact ⟨by first | rfl | (simp; omega), bx10⟩
              · skip
                go_wp2_with fail
                refine (worst_impl _ _ _ _ _ _ _).mono ?_; rintro e w8 ⟨rfl, hb8⟩
                have bx8 := bx7.step hb8
                clear d0 d1 d2 d3 d4 dz dB bx7 hb8
                have bx8c := bx8
                obtain ⟨d0, d1, d2, d3, d4, dz, dB⟩ := bx8c
                go_wp2_with fail
                refine (worst_impl _ _ _ _ _ _ _).mono ?_; rintro e w9 ⟨rfl, hb9⟩
                have bx9 := bx8.step hb9
                clear d0 d1 d2 d3 d4 dz dB bx8 hb9
                have bx9c := bx9
                obtain ⟨d0, d1, d2, d3, d4, dz, dB⟩ := bx9c
                go_wp2_with fail
                go_meet
                exact ⟨by first | rfl | (simp; omega), bx9⟩
            · skip
              go_wp2_with fail
              refine (worst_impl _ _ _ _ _ _ _).mono ?_; rintro e w8 ⟨rfl, hb8⟩
              have bx8 := bx7.step hb8
              clear d0 d1 d2 d3 d4 dz dB bx7 hb8
              have bx8c := bx8
              obtain ⟨d0, d1, d2, d3, d4, dz, dB⟩ := bx8c
              go_wp2_with fail
              go_meet
              exact ⟨by first | rfl | (simp; omega), bx8⟩
          · skip
            go_wp2_with fail
            go_meet
            exact ⟨by first | rfl | (simp; omega), bx7⟩
        case rest =>
         obtain ⟨rfl, bx8⟩ := hcut
         clear bx7 G4
         have bx8c := bx8
         obtain ⟨d0, d1, d2, d3, d4, dz, dB⟩ := bx8c
         go_wp2_with fail
         refine (wByte_any 4 (hcame.keep dB) (by omega) (by omega)).mono ?_; rintro e w9 ⟨x4, rfl, l4, u4, rfl⟩
         have hu1 := worstF_up (v := x4 * 9) hok (by omega) (by omega)
         have hu2 := gentleF_up (v := x4 * 9) hok (by omega) (by omega)
         have ew : IntKind.i64.wrap (x4 * 9 + 1) = x4 * 9 + 1 := wrap_in (by omega) (by omega)
         have hS0 : wc.drew.cell? ⟨w1.heap.size, 0, none⟩ = some (.int .i64 s) ∧ wc.drew.cell? ⟨w1.heap.size, 1, none⟩ = some (.int .i64 h) ∧ wc.drew.cell? ⟨w1.heap.size, 2, none⟩ = some (.int .i64 d) ∧ wc.drew.cell? ⟨w1.heap.size, 3, none⟩ = some (.int .i64 a) ∧ wc.drew.cell? ⟨w1.heap.size, 4, none⟩ = some (.int .i64 k) ∧ w1.heap.size < wc.drew.heap.size ∧ Below w1.heap.size w1 wc.drew := ⟨d0, d1, d2, d3, d4, dz, dB.drew⟩
         clear bx8
         go_wp2_with fail
         go_region_held3 (fun w' => w'.cell? ⟨w1.heap.size, 0, none⟩ = some (.int .i64 s) ∧ w'.cell? ⟨w1.heap.size, 1, none⟩ = some (.int .i64 h) ∧ w'.cell? ⟨w1.heap.size, 2, none⟩ = some (.int .i64 d) ∧ w'.cell? ⟨w1.heap.size, 3, none⟩ = some (.int .i64 a) ∧ w'.cell? ⟨w1.heap.size, 4, none⟩ = some (.int .i64 k) ∧ w1.heap.size < w'.heap.size ∧ Below w1.heap.size w1 w')
           (with_reducible assumption)
           (first
             | (go_at_call 15; refine (worst_impl _ _ _ _ _ _ _).mono ?_; rintro e w' ⟨rfl, hb9⟩; have hS9 := boxKeep ‹_ ∧ _ ∧ _ ∧ _ ∧ _ ∧ _ ∧ Below w1.heap.size w1 _› hb9)
             | (go_at_call 22; refine (gentle_impl _ _ _ _ _ _ _).mono ?_; rintro e w' ⟨rfl, hb9⟩; have hS9 := boxKeep ‹_ ∧ _ ∧ _ ∧ _ ∧ _ ∧ _ ∧ Below w1.heap.size w1 _› hb9)
             | (go_at_call 23; refine (worst_spec _ _ _ _ _ _ _).mono ?_; rintro e w' ⟨rfl, hb9⟩; have hS9 := boxKeep ‹_ ∧ _ ∧ _ ∧ _ ∧ _ ∧ _ ∧ Below w1.heap.size w1 _› hb9)
             | (go_at_call 24; refine (gentle_spec _ _ _ _ _ _ _).mono ?_; rintro e w' ⟨rfl, hb9⟩; have hS9 := boxKeep ‹_ ∧ _ ∧ _ ∧ _ ∧ _ ∧ _ ∧ Below w1.heap.size w1 _› hb9))
         rename_i hH
         go_wp2
         go_ret
         exact ⟨by first | rfl | (refine ret_bool ?_; simp), (hb1.trans (hH.2.2.2.2.2.2.mono hb1.size))⟩

end Go.Proofs.Ytgpphkjdmonkaaa
