/-
  The walk of the law FnHalves.
  Conditions: as the theorems state them.
-/
import Derived.Test.YtmnecminfldfjaaDoorDrawH
import Derived.Test.YtmnecminfldfjaaDoorHConv
import Derived.Test.YtmnecminfldfjaaDoorHHull
namespace Go.Proofs.YtmnecminfldfjaaDoor
open Go.RowKit
set_option linter.unusedVariables false
theorem keep6 {w W W' : World} {a0 a1 a2 a3 a4 a5 : Addr} {v0 v1 v2 v3 v4 v5 : Value} (hb : Below W.heap.size W W') (h : W.cell? a0 = some v0 ∧ W.cell? a1 = some v1 ∧ W.cell? a2 = some v2 ∧ W.cell? a3 = some v3 ∧ W.cell? a4 = some v4 ∧ W.cell? a5 = some v5 ∧ Below w.heap.size w W) :
    W'.cell? a0 = some v0 ∧ W'.cell? a1 = some v1 ∧ W'.cell? a2 = some v2 ∧ W'.cell? a3 = some v3 ∧ W'.cell? a4 = some v4 ∧ W'.cell? a5 = some v5 ∧ Below w.heap.size w W' :=
  ⟨cell_later hb h.1, cell_later hb h.2.1, cell_later hb h.2.2.1, cell_later hb h.2.2.2.1, cell_later hb h.2.2.2.2.1, cell_later hb h.2.2.2.2.2.1, h.2.2.2.2.2.2.trans (hb.mono h.2.2.2.2.2.2.size)⟩
theorem start6 {w W W' : World} {a0 a1 a2 a3 a4 a5 : Addr} {v0 v1 v2 v3 v4 v5 : Value} (hb : Below W.heap.size W W') (c0 : W.cell? a0 = some v0) (c1 : W.cell? a1 = some v1) (c2 : W.cell? a2 = some v2) (c3 : W.cell? a3 = some v3) (c4 : W.cell? a4 = some v4) (c5 : W.cell? a5 = some v5) (h : Below w.heap.size w W) :
    W'.cell? a0 = some v0 ∧ W'.cell? a1 = some v1 ∧ W'.cell? a2 = some v2 ∧ W'.cell? a3 = some v3 ∧ W'.cell? a4 = some v4 ∧ W'.cell? a5 = some v5 ∧ Below w.heap.size w W' :=
  ⟨cell_later hb c0, cell_later hb c1, cell_later hb c2, cell_later hb c3, cell_later hb c4, cell_later hb c5, h.trans (hb.mono h.size)⟩
theorem fin6 {w W : World} {a0 a1 a2 a3 a4 a5 : Addr} {v0 v1 v2 v3 v4 v5 : Value} (h : W.cell? a0 = some v0 ∧ W.cell? a1 = some v1 ∧ W.cell? a2 = some v2 ∧ W.cell? a3 = some v3 ∧ W.cell? a4 = some v4 ∧ W.cell? a5 = some v5 ∧ Below w.heap.size w W) : Below w.heap.size w W := h.2.2.2.2.2.2
/-- What the law asks of a list's lower and upper points. -/
structure Halved (s lo up : List (Int × Int)) (n : Nat) : Prop where
  low2 : 2 ≤ lo.length
  up2 : 2 ≤ up.length
  lowm : lo.length ≤ s.length
  upm : up.length ≤ s.length
  lx : px lo 0 = px s 0
  ly : py lo 0 = py s 0
  ux : px up 0 = px s (s.length - 1)
  uy : py up 0 = py s (s.length - 1)
  len : n + 2 = lo.length + up.length
  low : ∀ k i, k + 1 < lo.length → i < s.length → sideOk (px lo k) (py lo k) (px lo (k + 1)) (py lo (k + 1)) (px s i) (py s i) = true ∧ ¬ sideN (px lo k) (py lo k) (px lo (k + 1)) (py lo (k + 1)) (px s i) (py s i) < 0
  up : ∀ k i, k + 1 < up.length → i < s.length → sideOk (px up k) (py up k) (px up (k + 1)) (py up (k + 1)) (px s i) (py s i) = true ∧ ¬ sideN (px up k) (py up k) (px up (k + 1)) (py up (k + 1)) (px s i) (py s i) < 0
theorem halved {s : List (Int × Int)} (hG : goodL s = true) (h2 : 2 ≤ s.length) : Halved s (lowL s) (uppL s) (hulL s).length := by
  have e1 : lowL s = chainB tlB s := by rw [lowL, hG, chain_eq (goodL_all hG)]; rfl
  have e2 : uppL s = chainB tlB s.reverse := by rw [uppL, hG, chain_eq (goodL_all hG).rev]; rfl
  have e3 : hulL s = hullB tlB s := by rw [hulL, hG, hull_eq (goodL_all hG)]; rfl
  have c1 := lower_conv hG (by omega)
  have c2 := upper_conv hG (by omega)
  have l1 := chainB_two (t := tlB) h2
  have l2 := chainB_two (t := tlB) (l := s.reverse) (by rw [List.length_reverse]; exact h2)
  have m1 := chainB_len (t := tlB) s
  have m2 := chainB_len (t := tlB) s.reverse
  rw [List.length_reverse] at m2
  rw [e1, e2, e3]
  have hh : hullB tlB s = (chainB tlB s).dropLast ++ (chainB tlB s.reverse).dropLast := by unfold hullB; rw [if_neg (by omega)]
  have u0 : pt (chainB tlB s.reverse) 0 = pt s (s.length - 1) := by rw [c2.head, pt_rev (by omega)]; rfl
  refine ⟨l1, l2, m1, m2, congrArg Prod.fst c1.head, congrArg Prod.snd c1.head, congrArg Prod.fst u0, congrArg Prod.snd u0, ?_, fun k i hk hi => side_left c1 (goodL_all hG) (fun q h => h) hk hi, fun k i hk hi => side_left c2 (goodL_all hG).rev (fun q h => by simpa using h) hk hi⟩
  rw [hh, List.length_append, List.length_dropLast, List.length_dropLast]
  omega
theorem big_c (a0 : Option Addr) (len0 cap0 : Nat) (a1 : Option Addr) (len1 cap1 : Nat) (w : World) (h : len0 + len1 ≤ 1048576) :
    Calls Tryd.prog 4 #[.slice a0 len0 cap0, .slice a1 len1 cap1] w fun e w' => e = .returned (.bool false) ∧ w = w' := by
  have h0 : ¬ (1048576 : Int) < (len0 : Int) := by omega
  have h1 : ¬ (1048576 : Int) - (len0 : Int) < (len1 : Int) := by omega
  go_enter Tryd.func4, Tryd.ntmps4
  go_wp2
  go_ret
  exact ⟨rfl, rfl⟩
theorem big_t (a0 : Option Addr) (len0 cap0 : Nat) (a1 : Option Addr) (len1 cap1 : Nat) (w : World) (m0 : len0 ≤ maxLen) (m1 : len1 ≤ maxLen) (h : ¬ len0 + len1 ≤ 1048576) :
    Calls Tryd.prog 4 #[.slice a0 len0 cap0, .slice a1 len1 cap1] w fun e w' => e = .returned (.bool true) ∧ w = w' := by
  unfold maxLen at m0 m1
  by_cases h0 : (1048576 : Int) < (len0 : Int)
  · go_enter Tryd.func4, Tryd.ntmps4
    go_wp2
    go_ret
    exact ⟨rfl, rfl⟩
  · have h1 : (1048576 : Int) - (len0 : Int) < (len1 : Int) := by omega
    go_enter Tryd.func4, Tryd.ntmps4
    go_wp2
    go_ret
    exact ⟨rfl, rfl⟩
set_option maxRecDepth 4000 in
set_option maxHeartbeats 4000000 in
theorem halves_walk (a0 : Option Addr) (len0 cap0 : Nat) (a1 : Option Addr) (len1 cap1 : Nat) (w : World) (B0 : Bytes w.heap.size a0 len0 w) (B1 : Bytes w.heap.size a1 len1 w) (m0 : len0 ≤ maxLen) (m1 : len1 ≤ maxLen) (c0 : w.cell? ⟨0, 0, none⟩ = some (.int .i64 1000000)) :
    Calls Tryd.prog 3 #[.slice a0 len0 cap0, .slice a1 len1 cap1] w fun e w' => e = .returned (.bool true) ∧ Below w.heap.size w w' := by
  have C0 := hid c0
  have HB0 := hid B0
  have HB1 := hid B1
  clear c0 B0 B1
  by_cases hl : len0 + len1 ≤ 1048576
  · have l0 : len0 ≤ 1048576 := by omega
    have l1 : len1 ≤ 1048576 := by omega
    clear m0 m1
    go_enter Tryd.func3, Tryd.ntmps3
    go_upto_region 4 with (first
      | (go_at_call 4; refine (big_c _ _ _ _ _ _ _ hl).mono ?_; rintro e w' ⟨rfl, rfl⟩)
      | (go_at_call 5; refine (drawLower_c _ _ _ _ HB0.out l0).mono ?_; rintro e w1 ⟨v1, rfl, s, hos, hs13, hb1⟩; obtain ⟨av, ps, hvs⟩ := hos.shape; subst hvs))
    have hsm : s.length ≤ 1048576 := by omega
    have hlm := Nat.le_trans (lowL_len s) hsm
    have hum := Nat.le_trans (uppL_len s) hsm
    have t1 : True := trivial
    cases hG : goodL s
    · go_upto_region 34 with (first
        | (go_at_call 6; refine (lowerImpl_c s _ _ _ w1 rfl hsm hos.at (cell_later hb1 C0.out)).mono ?_; rw [hG]; rintro e w2 ⟨v2, rfl, ho2, hb2⟩; obtain ⟨a2, p2, hv2⟩ := ho2.shape; subst hv2; have hc2 := grew hb1 hb2)
        | (go_at_call 7; refine (lowerSpec_c s _ _ _ w2 rfl hsm (hos.later hb2).at).mono ?_; rw [hG]; rintro e w3 ⟨v3, rfl, ho3, hb3⟩; obtain ⟨a3, p3, hv3⟩ := ho3.shape; subst hv3; have hB3 := grew hb2 hb3; have hc3 := grew hb1 hB3)
        | (go_at_call 8; refine (upperImpl_c s _ _ _ w3 rfl hsm (hos.later hB3).at (cell_later hc3 C0.out)).mono ?_; rw [hG]; rintro e w4 ⟨v4, rfl, ho4, hb4⟩; obtain ⟨a4, p4, hv4⟩ := ho4.shape; subst hv4; have hB4 := grew hB3 hb4)
        | (go_at_call 9; refine (upperSpec_c s _ _ _ w4 rfl hsm (hos.later hB4).at).mono ?_; rw [hG]; rintro e w5 ⟨v5, rfl, ho5, hb5⟩; obtain ⟨a5, p5, hv5⟩ := ho5.shape; subst hv5; have hB5 := grew hB4 hb5; have hq2 := ho2.later (grew hb3 (grew hb4 hb5)); have hq3 := ho3.later (grew hb4 hb5); have hq4 := ho4.later hb5)
        | (go_at_call 10; clear t1; refine (same_c (lowL s) (lowL s) _ _ _ _ _ _ w5 rfl rfl hlm hlm hq2.at hq3.at).mono ?_; rintro e w6 ⟨rfl, hb6⟩; have hB6 := grew hB5 hb6)
        | (go_at_call 10; refine (same_c (uppL s) (uppL s) _ _ _ _ _ _ w6 rfl rfl hum hum (hq4.later hb6).at (ho5.later hb6).at).mono ?_; rintro e w7 ⟨rfl, hb7⟩; have hB7 := grew hB6 hb7; have hc7 := grew hb1 hB7))
      go_wp2_with (first
        | (go_at_call 13; refine (drawUpper_c _ _ _ w7 ((HB1.out.below hc7).mono hc7.size) l1).mono ?_; rintro e wj ⟨vj, rfl, lj, hoj, hlj, hbj⟩; obtain ⟨aj, pj, hvj⟩ := hoj.shape; subst hvj; have hcj := grew hc7 hbj)
        | (go_at_call 8; refine (upperImpl_c lj _ _ _ wj rfl (by omega) hoj.at (cell_later hcj C0.out)).mono ?_; rintro e wk ⟨vk, rfl, hok, hbk⟩; obtain ⟨ak, pk, hvk⟩ := hok.shape; subst hvk; have hck := grew hcj hbk)
        | (go_at_call 9; refine (upperSpec_c lj _ _ _ wk rfl (by omega) (hoj.later hbk).at).mono ?_; rintro e wl ⟨vl, rfl, hol, hbl⟩; obtain ⟨al, pl, hvl⟩ := hol.shape; subst hvl; have hcl := grew hck hbl)
        | (go_at_call 10; refine (same_c (uppL lj) (uppL lj) _ _ _ _ _ _ wl rfl rfl (Nat.le_trans (uppL_len lj) (by omega)) (Nat.le_trans (uppL_len lj) (by omega)) (hok.later hbl).at hol.at).mono ?_; rintro e wm ⟨rfl, hbm⟩))
      all_goals go_ret
      all_goals exact ⟨rfl, grew hcl hbm⟩
    · by_cases h2 : s.length < 2
      · have hd2 : decide (1 < (s.length : Int)) = false := decide_eq_false (by omega)
        go_upto_region 34 with (first
          | (go_at_call 6; refine (lowerImpl_c s _ _ _ w1 rfl hsm hos.at (cell_later hb1 C0.out)).mono ?_; rw [hG]; rintro e w2 ⟨v2, rfl, ho2, hb2⟩; obtain ⟨a2, p2, hv2⟩ := ho2.shape; subst hv2; have hc2 := grew hb1 hb2)
          | (go_at_call 7; refine (lowerSpec_c s _ _ _ w2 rfl hsm (hos.later hb2).at).mono ?_; rw [hG]; rintro e w3 ⟨v3, rfl, ho3, hb3⟩; obtain ⟨a3, p3, hv3⟩ := ho3.shape; subst hv3; have hB3 := grew hb2 hb3; have hc3 := grew hb1 hB3)
          | (go_at_call 8; refine (upperImpl_c s _ _ _ w3 rfl hsm (hos.later hB3).at (cell_later hc3 C0.out)).mono ?_; rw [hG]; rintro e w4 ⟨v4, rfl, ho4, hb4⟩; obtain ⟨a4, p4, hv4⟩ := ho4.shape; subst hv4; have hB4 := grew hB3 hb4)
          | (go_at_call 9; refine (upperSpec_c s _ _ _ w4 rfl hsm (hos.later hB4).at).mono ?_; rw [hG]; rintro e w5 ⟨v5, rfl, ho5, hb5⟩; obtain ⟨a5, p5, hv5⟩ := ho5.shape; subst hv5; have hB5 := grew hB4 hb5; have hq2 := ho2.later (grew hb3 (grew hb4 hb5)); have hq3 := ho3.later (grew hb4 hb5); have hq4 := ho4.later hb5)
          | (go_at_call 10; clear t1; refine (same_c (lowL s) (lowL s) _ _ _ _ _ _ w5 rfl rfl hlm hlm hq2.at hq3.at).mono ?_; rintro e w6 ⟨rfl, hb6⟩; have hB6 := grew hB5 hb6)
          | (go_at_call 10; refine (same_c (uppL s) (uppL s) _ _ _ _ _ _ w6 rfl rfl hum hum (hq4.later hb6).at (ho5.later hb6).at).mono ?_; rintro e w7 ⟨rfl, hb7⟩; have hB7 := grew hB6 hb7; have hc7 := grew hb1 hB7))
        go_wp2_with (first
          | (go_at_call 13; refine (drawUpper_c _ _ _ w7 ((HB1.out.below hc7).mono hc7.size) l1).mono ?_; rintro e wj ⟨vj, rfl, lj, hoj, hlj, hbj⟩; obtain ⟨aj, pj, hvj⟩ := hoj.shape; subst hvj; have hcj := grew hc7 hbj)
          | (go_at_call 8; refine (upperImpl_c lj _ _ _ wj rfl (by omega) hoj.at (cell_later hcj C0.out)).mono ?_; rintro e wk ⟨vk, rfl, hok, hbk⟩; obtain ⟨ak, pk, hvk⟩ := hok.shape; subst hvk; have hck := grew hcj hbk)
          | (go_at_call 9; refine (upperSpec_c lj _ _ _ wk rfl (by omega) (hoj.later hbk).at).mono ?_; rintro e wl ⟨vl, rfl, hol, hbl⟩; obtain ⟨al, pl, hvl⟩ := hol.shape; subst hvl; have hcl := grew hck hbl)
          | (go_at_call 10; refine (same_c (uppL lj) (uppL lj) _ _ _ _ _ _ wl rfl rfl (Nat.le_trans (uppL_len lj) (by omega)) (Nat.le_trans (uppL_len lj) (by omega)) (hok.later hbl).at hol.at).mono ?_; rintro e wm ⟨rfl, hbm⟩))
        all_goals go_ret
        all_goals exact ⟨rfl, grew hcl hbm⟩
      · have hd2 : decide (1 < (s.length : Int)) = true := decide_eq_true (by omega)
        have HH := hid (halved hG (by omega))
        have hhm := hulL_len s hsm
        go_upto_region 12 with (first
          | (go_at_call 6; refine (lowerImpl_c s _ _ _ w1 rfl hsm hos.at (cell_later hb1 C0.out)).mono ?_; rw [hG]; rintro e w2 ⟨v2, rfl, ho2, hb2⟩; obtain ⟨a2, p2, hv2⟩ := ho2.shape; subst hv2; have hc2 := grew hb1 hb2)
          | (go_at_call 7; refine (lowerSpec_c s _ _ _ w2 rfl hsm (hos.later hb2).at).mono ?_; rw [hG]; rintro e w3 ⟨v3, rfl, ho3, hb3⟩; obtain ⟨a3, p3, hv3⟩ := ho3.shape; subst hv3; have hB3 := grew hb2 hb3; have hc3 := grew hb1 hB3)
          | (go_at_call 8; refine (upperImpl_c s _ _ _ w3 rfl hsm (hos.later hB3).at (cell_later hc3 C0.out)).mono ?_; rw [hG]; rintro e w4 ⟨v4, rfl, ho4, hb4⟩; obtain ⟨a4, p4, hv4⟩ := ho4.shape; subst hv4; have hB4 := grew hB3 hb4)
          | (go_at_call 9; refine (upperSpec_c s _ _ _ w4 rfl hsm (hos.later hB4).at).mono ?_; rw [hG]; rintro e w5 ⟨v5, rfl, ho5, hb5⟩; obtain ⟨a5, p5, hv5⟩ := ho5.shape; subst hv5; have hB5 := grew hB4 hb5; have hq2 := ho2.later (grew hb3 (grew hb4 hb5)); have hq3 := ho3.later (grew hb4 hb5); have hq4 := ho4.later hb5)
          | (go_at_call 10; clear t1; refine (same_c (lowL s) (lowL s) _ _ _ _ _ _ w5 rfl rfl hlm hlm hq2.at hq3.at).mono ?_; rintro e w6 ⟨rfl, hb6⟩; have hB6 := grew hB5 hb6)
          | (go_at_call 10; refine (same_c (uppL s) (uppL s) _ _ _ _ _ _ w6 rfl rfl hum hum (hq4.later hb6).at (ho5.later hb6).at).mono ?_; rintro e w7 ⟨rfl, hb7⟩; have hB7 := grew hB6 hb7; have hc7 := grew hb1 hB7)
          | (go_at_call 11; refine (hullImpl_c s _ _ _ w7 rfl hsm (hos.later hB7).at (cell_later hc7 C0.out)).mono ?_; rw [hG]; rintro e w8 ⟨v8, rfl, ho8, hb8⟩; obtain ⟨a8, p8, hv8⟩ := ho8.shape; subst hv8; have hB8 := grew hB7 hb8; have hc8 := grew hc7 hb8))
        have HSA := hos.later hB8
        have HOL := hq2.later (grew hb6 (grew hb7 hb8))
        have HOUA := hq4.later (grew hb6 (grew hb7 hb8))
        have hcA := hid hc8
        clear hos ho2 ho3 ho4 ho5 ho8 hq2 hq3 hq4 hb1 hb2 hb3 hb4 hb5 hb6 hb7 hb8 hB3 hB4 hB5 hB6 hB7 hB8 hc2 hc3 hc7 hc8 hd2 hlm hum hhm
        have q1 := HH.out.low2
        have q2 := HH.out.up2
        have q3 := HH.out.lowm
        have q4 := HH.out.upm
        have q5 := HH.out.len
        have q6 := HH.out.lx
        have q7 := HH.out.ly
        have q8 := HH.out.ux
        have q9 := HH.out.uy
        obtain ⟨hn, hhn⟩ : ∃ n, (hulL s).length = n := ⟨_, rfl⟩
        rw [hhn] at HH q5 ⊢
        obtain ⟨lo, hlo⟩ : ∃ lo, lowL s = lo := ⟨_, rfl⟩
        obtain ⟨up, hup⟩ : ∃ up, uppL s = up := ⟨_, rfl⟩
        rw [hlo] at HH q1 q3 q5 q6 q7 HOL ⊢
        rw [hup] at HH q2 q4 q5 q8 q9 HOUA ⊢
        clear hhn hlo hup
        obtain ⟨sb, so, hse, hsb, d0, d1⟩ := HSA.at 0 (by omega)
        obtain ⟨sb2, so2, hse2, hsb2, d2, d3⟩ := HSA.at (s.length - 1) (by omega)
        obtain ⟨rfl, rfl⟩ : sb = sb2 ∧ so = so2 := by rw [hse] at hse2; simpa using hse2
        obtain ⟨lb, lf, hle, hlb, d4, d5⟩ := HOL.at 0 (by omega)
        obtain ⟨ub, uf, hue, hub, d6, d7⟩ := HOUA.at 0 (by omega)
        subst hse hle hue
        rw [q6] at d4
        rw [q7] at d5
        rw [q8] at d6
        rw [q9] at d7
        rw [Nat.zero_mul, Nat.add_zero] at d0 d1 d4 d5 d6 d7
        obtain ⟨j, hj⟩ : ∃ j, j = s.length - 1 := ⟨_, rfl⟩
        rw [← hj] at d2 d3 d6 d7
        have hw1 : IntKind.i64.wrap ((s.length : Int) - 1) = (j : Int) := by rw [IntKind.wrap_i64]; omega
        have hw2 : IntKind.i64.wrap ((lo.length : Int) + (up.length : Int)) = (lo.length : Int) + (up.length : Int) := by rw [IntKind.wrap_i64]; omega
        have hw3 : IntKind.i64.wrap ((lo.length : Int) + (up.length : Int) - 2) = (hn : Int) := by rw [IntKind.wrap_i64]; omega
        have e1 : decide ((lo.length : Int) < 2) = false := decide_eq_false (by omega)
        have e2 : decide ((up.length : Int) < 2) = false := decide_eq_false (by omega)
        have e3 : (0 : Int) < (lo.length : Int) := by omega
        have e4 : (0 : Int) < (up.length : Int) := by omega
        have e5 : (0 : Int) < (s.length : Int) := by omega
        have e6 : (0 : Int) ≤ (j : Int) := by omega
        have e7 : (j : Int) < (s.length : Int) := by omega
        have e8 : j < s.length := by omega
        have HJ := hid hj
        clear hj hse2 hsb2 q6 q7 q8 q9
        go_quiet (fail)
        go_upto_region 15 with fail
        have hcA2 := hid (grew hcA.out (drewN_below nq w8))
        replace HSA := HSA.later (drewN_below nq w8)
        replace HOL := HOL.later (drewN_below nq w8)
        replace HOUA := HOUA.later (drewN_below nq w8)
        clear hcA d0 d1 d2 d3 d4 d5 d6 d7 e1 e2 e3 e4 e6 e7 e8 hw1 hw2 hw3 q5
        have hcA := hcA2
        clear hcA2
        generalize w8.drewN nq = wA at hcA HSA HOL HOUA ⊢
        go_loopw [16] (fun sk wr => ∃ k : Nat, k + 1 ≤ lo.length ∧ sk = .int .i64 ((k : Int) + 1) ∧ Below wA.heap.size wA wr) (fun sk _ => lo.length - (intOf sk).toNat)
        case atStart => exact ⟨0, by omega, rfl, Below.refl _ _⟩
        case round =>
          obtain ⟨k, hk, rfl, hbr⟩ := hrel
          have HBRlow := hid hbr
          clear hbr
          by_cases hkl : k + 1 < lo.length
          · have hd : decide ((k : Int) + 1 < (lo.length : Int)) = true := decide_eq_true (by omega)
            go_wp2
            obtain ⟨wo, rfl⟩ : ∃ wo, wo = wr := ⟨wr, rfl⟩
            go_loopw [140] (fun si u => ∃ i : Nat, i ≤ s.length ∧ si = .int .i64 i ∧ Below wo.heap.size wo u) (fun si _ => s.length - (intOf si).toNat)
            case atStart => exact ⟨0, Nat.zero_le _, rfl, Below.refl _ _⟩
            case round =>
              obtain ⟨i, hi, rfl, hbu⟩ := hrel
              have hcu := grew HBRlow.out hbu
              by_cases hil : i < s.length
              · obtain ⟨bs, os, es, hbs, g0, g1⟩ := (HSA.later hcu).at i hil
                obtain ⟨bl, ol, el, hbl, g2, g3⟩ := (HOL.later hcu).at k (by omega)
                obtain ⟨bl2, ol2, el2, hbl2, g4, g5⟩ := (HOL.later hcu).at (k + 1) hkl
                obtain ⟨rfl, rfl⟩ : lb = bl ∧ lf = ol := by simpa using el
                obtain ⟨rfl, rfl⟩ : lb = bl2 ∧ lf = ol2 := by simpa using el2
                obtain ⟨rfl, rfl⟩ : sb = bs ∧ so = os := by simpa using es
                clear el el2 es hbl2
                obtain ⟨hok, hnn⟩ := HH.out.low k i hkl hil
                have hn0 : decide (sideN (px lo k) (py lo k) (px lo (k + 1)) (py lo (k + 1)) (px s i) (py s i) < 0) = false := decide_eq_false hnn
                obtain ⟨x0, hx0⟩ : ∃ x, px lo k = x := ⟨_, rfl⟩
                obtain ⟨y0, hy0⟩ : ∃ x, py lo k = x := ⟨_, rfl⟩
                obtain ⟨x1, hx1⟩ : ∃ x, px lo (k + 1) = x := ⟨_, rfl⟩
                obtain ⟨y1, hy1⟩ : ∃ x, py lo (k + 1) = x := ⟨_, rfl⟩
                obtain ⟨x2, hx2⟩ : ∃ x, px s i = x := ⟨_, rfl⟩
                obtain ⟨y2, hy2⟩ : ∃ x, py s i = x := ⟨_, rfl⟩
                rw [hx0, hy0, hx1, hy1, hx2, hy2] at hok hnn hn0
                rw [hx2] at g0
                rw [hy2] at g1
                rw [hx0] at g2
                rw [hy0] at g3
                rw [hx1] at g4
                rw [hy1] at g5
                obtain ⟨nn, hnq⟩ : ∃ nn, sideN x0 y0 x1 y1 x2 y2 = nn := ⟨_, rfl⟩
                rw [hnq] at hnn hn0
                clear hx0 hy0 hx1 hy1 hx2 hy2
                obtain ⟨k1, hk1⟩ : ∃ k1, k1 = k + 1 := ⟨_, rfl⟩
                have hk2 : (k : Int) + 1 = (k1 : Int) := by omega
                rw [← hk1] at g4 g5
                have hw1 : IntKind.i64.wrap ((k1 : Int) - 1) = (k : Int) := by rw [IntKind.wrap_i64]; omega
                have hj1 : (0 : Int) ≤ (k : Int) := by omega
                have hj2 : (k : Int) < (lo.length : Int) := by omega
                have hj3 : (0 : Int) ≤ (k1 : Int) := by omega
                have hj4 : (k1 : Int) < (lo.length : Int) := by omega
                have hj5 : k < lo.length := by omega
                have hj6 : k1 < lo.length := by omega
                have HK1 := hid hk1
                rw [hk2]
                clear hk1 hk2 hd
                go_upto_region 20 with fail
                have r0 := box0 wr x2 y2 30
                have r1 := box1 wr x2 y2 30
                have hbx : Below wr.heap.size wr (wr.alloc (.cells #[.int .i64 x2, .int .i64 y2] 30)) := by go_grown
                replace g2 := cell_later hbx g2
                replace g3 := cell_later hbx g3
                replace g4 := cell_later hbx g4
                replace g5 := cell_later hbx g5
                have HBU := hid (grew hbu hbx)
                have hcx := grew hcu hbx
                generalize wr.heap.size = B8 at r0 r1 ⊢
                clear g0 g1 hbu hcu
                generalize wr.alloc (.cells #[.int .i64 x2, .int .i64 y2] 30) = wp at r0 r1 g2 g3 g4 g5 HBU hcx hbx ⊢
                have HCX := hid (grew hcA.out hcx)
                clear hcx hbx
                go_region_held3 (fun u => u.cell? ⟨B8, 0, none⟩ = some (.int .i64 x2) ∧ u.cell? ⟨B8, 1, none⟩ = some (.int .i64 y2) ∧ u.cell? ⟨lb, lf + k * 2, none⟩ = some (.int .i64 x0) ∧ u.cell? ⟨lb, lf + k * 2 + 1, none⟩ = some (.int .i64 y0) ∧ u.cell? ⟨lb, lf + k1 * 2, none⟩ = some (.int .i64 x1) ∧ u.cell? ⟨lb, lf + k1 * 2 + 1, none⟩ = some (.int .i64 y1) ∧ Below wp.heap.size wp u) (first | exact keep6 (by with_reducible assumption) (by with_reducible assumption) | exact start6 (Below.refl _ _).drew r0 r1 g2 g3 g4 g5 (Below.refl _ _)) (first
                  | (go_at_call 12; refine (sideOfImpl_c _ _ _ _ _ _ _ (cell_later (grew HCX.out (fin6 (by with_reducible assumption))) C0.out)).mono ?_; rw [hok, hnq]; rintro e w9 ⟨rfl, hb9⟩))
                have hS9 : Below wp.heap.size wp w9 := fin6 (by with_reducible assumption)
                go_wp2
                go_roundw
                case rel => exact ⟨i + 1, by omega, by go_num, grew HBU.out hS9⟩
                case measure => simp [intOf]; omega
              · obtain rfl : i = s.length := by omega
                have HCU := hid hcu
                clear hcu hbu
                go_wp2
                go_roundw
                case rel => exact ⟨k + 1, by omega, by go_num, HCU.out⟩
                case measure => simp [intOf]; omega
          · have hkq : k + 1 = lo.length := by omega
            have hd : decide ((k : Int) + 1 < (lo.length : Int)) = false := decide_eq_false (by omega)
            go_upto_region 25 with fail
            have hcB := hid (grew hcA.out HBRlow.out)
            have HOU := HOUA.later HBRlow.out
            have HSB := HSA.later HBRlow.out
            obtain ⟨wB, rfl⟩ : ∃ wB, wB = wr := ⟨wr, rfl⟩
            clear hd hkl hkq hk HBRlow
            go_loopw [21] (fun sk wr => ∃ k : Nat, k + 1 ≤ up.length ∧ sk = .int .i64 ((k : Int) + 1) ∧ Below wB.heap.size wB wr) (fun sk _ => up.length - (intOf sk).toNat)
            case atStart => exact ⟨0, by omega, rfl, Below.refl _ _⟩
            case round =>
              obtain ⟨k, hk, rfl, hbr⟩ := hrel
              have HBRup := hid hbr
              clear hbr
              by_cases hkl : k + 1 < up.length
              · have hd : decide ((k : Int) + 1 < (up.length : Int)) = true := decide_eq_true (by omega)
                go_wp2
                obtain ⟨wo, rfl⟩ : ∃ wo, wo = wr := ⟨wr, rfl⟩
                go_loopw [173] (fun si u => ∃ i : Nat, i ≤ s.length ∧ si = .int .i64 i ∧ Below wo.heap.size wo u) (fun si _ => s.length - (intOf si).toNat)
                case atStart => exact ⟨0, Nat.zero_le _, rfl, Below.refl _ _⟩
                case round =>
                  obtain ⟨i, hi, rfl, hbu⟩ := hrel
                  have hcu := grew HBRup.out hbu
                  by_cases hil : i < s.length
                  · obtain ⟨bs, os, es, hbs, g0, g1⟩ := (HSB.later hcu).at i hil
                    obtain ⟨bl, ol, el, hbl, g2, g3⟩ := (HOU.later hcu).at k (by omega)
                    obtain ⟨bl2, ol2, el2, hbl2, g4, g5⟩ := (HOU.later hcu).at (k + 1) hkl
                    obtain ⟨rfl, rfl⟩ : ub = bl ∧ uf = ol := by simpa using el
                    obtain ⟨rfl, rfl⟩ : ub = bl2 ∧ uf = ol2 := by simpa using el2
                    obtain ⟨rfl, rfl⟩ : sb = bs ∧ so = os := by simpa using es
                    clear el el2 es hbl2
                    obtain ⟨hok, hnn⟩ := HH.out.up k i hkl hil
                    have hn0 : decide (sideN (px up k) (py up k) (px up (k + 1)) (py up (k + 1)) (px s i) (py s i) < 0) = false := decide_eq_false hnn
                    obtain ⟨x0, hx0⟩ : ∃ x, px up k = x := ⟨_, rfl⟩
                    obtain ⟨y0, hy0⟩ : ∃ x, py up k = x := ⟨_, rfl⟩
                    obtain ⟨x1, hx1⟩ : ∃ x, px up (k + 1) = x := ⟨_, rfl⟩
                    obtain ⟨y1, hy1⟩ : ∃ x, py up (k + 1) = x := ⟨_, rfl⟩
                    obtain ⟨x2, hx2⟩ : ∃ x, px s i = x := ⟨_, rfl⟩
                    obtain ⟨y2, hy2⟩ : ∃ x, py s i = x := ⟨_, rfl⟩
                    rw [hx0, hy0, hx1, hy1, hx2, hy2] at hok hnn hn0
                    rw [hx2] at g0
                    rw [hy2] at g1
                    rw [hx0] at g2
                    rw [hy0] at g3
                    rw [hx1] at g4
                    rw [hy1] at g5
                    obtain ⟨nn, hnq⟩ : ∃ nn, sideN x0 y0 x1 y1 x2 y2 = nn := ⟨_, rfl⟩
                    rw [hnq] at hnn hn0
                    clear hx0 hy0 hx1 hy1 hx2 hy2
                    obtain ⟨k1, hk1⟩ : ∃ k1, k1 = k + 1 := ⟨_, rfl⟩
                    have hk2 : (k : Int) + 1 = (k1 : Int) := by omega
                    rw [← hk1] at g4 g5
                    have hw1 : IntKind.i64.wrap ((k1 : Int) - 1) = (k : Int) := by rw [IntKind.wrap_i64]; omega
                    have hj1 : (0 : Int) ≤ (k : Int) := by omega
                    have hj2 : (k : Int) < (up.length : Int) := by omega
                    have hj3 : (0 : Int) ≤ (k1 : Int) := by omega
                    have hj4 : (k1 : Int) < (up.length : Int) := by omega
                    have hj5 : k < up.length := by omega
                    have hj6 : k1 < up.length := by omega
                    have HK1 := hid hk1
                    rw [hk2]
                    clear hk1 hk2 hd
                    go_upto_region 30 with fail
                    have r0 := box0 wr x2 y2 30
                    have r1 := box1 wr x2 y2 30
                    have hbx : Below wr.heap.size wr (wr.alloc (.cells #[.int .i64 x2, .int .i64 y2] 30)) := by go_grown
                    replace g2 := cell_later hbx g2
                    replace g3 := cell_later hbx g3
                    replace g4 := cell_later hbx g4
                    replace g5 := cell_later hbx g5
                    have HBU := hid (grew hbu hbx)
                    have hcx := grew hcu hbx
                    generalize wr.heap.size = B8 at r0 r1 ⊢
                    clear g0 g1 hbu hcu
                    generalize wr.alloc (.cells #[.int .i64 x2, .int .i64 y2] 30) = wp at r0 r1 g2 g3 g4 g5 HBU hcx hbx ⊢
                    have HCX := hid (grew hcB.out hcx)
                    clear hcx hbx
                    go_region_held3 (fun u => u.cell? ⟨B8, 0, none⟩ = some (.int .i64 x2) ∧ u.cell? ⟨B8, 1, none⟩ = some (.int .i64 y2) ∧ u.cell? ⟨ub, uf + k * 2, none⟩ = some (.int .i64 x0) ∧ u.cell? ⟨ub, uf + k * 2 + 1, none⟩ = some (.int .i64 y0) ∧ u.cell? ⟨ub, uf + k1 * 2, none⟩ = some (.int .i64 x1) ∧ u.cell? ⟨ub, uf + k1 * 2 + 1, none⟩ = some (.int .i64 y1) ∧ Below wp.heap.size wp u) (first | exact keep6 (by with_reducible assumption) (by with_reducible assumption) | exact start6 (Below.refl _ _).drew r0 r1 g2 g3 g4 g5 (Below.refl _ _)) (first
                      | (go_at_call 12; refine (sideOfImpl_c _ _ _ _ _ _ _ (cell_later (grew HCX.out (fin6 (by with_reducible assumption))) C0.out)).mono ?_; rw [hok, hnq]; rintro e w9 ⟨rfl, hb9⟩))
                    have hS9 : Below wp.heap.size wp w9 := fin6 (by with_reducible assumption)
                    go_wp2
                    go_roundw
                    case rel => exact ⟨i + 1, by omega, by go_num, grew HBU.out hS9⟩
                    case measure => simp [intOf]; omega
                  · obtain rfl : i = s.length := by omega
                    have HCU := hid hcu
                    clear hcu hbu
                    go_wp2
                    go_roundw
                    case rel => exact ⟨k + 1, by omega, by go_num, HCU.out⟩
                    case measure => simp [intOf]; omega
              · have hkq : k + 1 = up.length := by omega
                have hd : decide ((k : Int) + 1 < (up.length : Int)) = false := decide_eq_false (by omega)
                have hcz := grew hcB.out HBRup.out
                go_upto_region 34 with fail
                go_wp2_with (first
                  | (go_at_call 13; refine (drawUpper_c _ _ _ wr ((HB1.out.below hcz).mono hcz.size) l1).mono ?_; rintro e wj ⟨vj, rfl, lj, hoj, hlj, hbj⟩; obtain ⟨aj, pj, hvj⟩ := hoj.shape; subst hvj; have hcj := grew hcz hbj)
                  | (go_at_call 8; refine (upperImpl_c lj _ _ _ wj rfl (by omega) hoj.at (cell_later hcj C0.out)).mono ?_; rintro e wk ⟨vk, rfl, hok, hbk⟩; obtain ⟨ak, pk, hvk⟩ := hok.shape; subst hvk; have hck := grew hcj hbk)
                  | (go_at_call 9; refine (upperSpec_c lj _ _ _ wk rfl (by omega) (hoj.later hbk).at).mono ?_; rintro e wl ⟨vl, rfl, hol, hbl⟩; obtain ⟨al, pl, hvl⟩ := hol.shape; subst hvl; have hcl := grew hck hbl)
                  | (go_at_call 10; refine (same_c (uppL lj) (uppL lj) _ _ _ _ _ _ wl rfl rfl (Nat.le_trans (uppL_len lj) (by omega)) (Nat.le_trans (uppL_len lj) (by omega)) (hok.later hbl).at hol.at).mono ?_; rintro e wm ⟨rfl, hbm⟩))
                all_goals go_ret
                all_goals exact ⟨rfl, grew hcl hbm⟩
  · go_enter Tryd.func3, Tryd.ntmps3
    go_wp2_with (go_at_call 4; refine (big_t _ _ _ _ _ _ _ m0 m1 hl).mono ?_; rintro e w' ⟨rfl, rfl⟩)
    go_ret
    exact ⟨rfl, by go_grown⟩
end Go.Proofs.YtmnecminfldfjaaDoor
