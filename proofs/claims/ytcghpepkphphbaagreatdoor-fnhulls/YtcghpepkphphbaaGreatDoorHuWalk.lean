/-
  The walk of the law FnHulls.
  Conditions: as the theorems state them.
-/
import Derived.Test.YtcghpepkphphbaaGreatDoorDrawHu
import Derived.Test.YtcghpepkphphbaaGreatDoorHuMath
import Derived.Test.YtcghpepkphphbaaGreatDoorSame
import Derived.Test.YtcghpepkphphbaaGreatDoorHHalves
import Derived.Test.YtcghpepkphphbaaGreatDoorHWrapI
namespace Go.Proofs.YtcghpepkphphbaaGreatDoor
open Go.RowKit
set_option linter.unusedVariables false
theorem big_c (a0 : Option Addr) (len0 cap0 : Nat) (a1 : Option Addr) (len1 cap1 : Nat) (w : World) (h : len0 + len1 ≤ 1048576) :
    Calls Tryz.prog 4 #[.slice a0 len0 cap0, .slice a1 len1 cap1] w fun e w' => e = .returned (.bool false) ∧ w = w' := by
  have h0 : ¬ (1048576 : Int) < (len0 : Int) := by omega
  have h1 : ¬ (1048576 : Int) - (len0 : Int) < (len1 : Int) := by omega
  go_enter Tryz.func4, Tryz.ntmps4
  go_wp2
  go_ret
  exact ⟨rfl, rfl⟩
theorem big_t (a0 : Option Addr) (len0 cap0 : Nat) (a1 : Option Addr) (len1 cap1 : Nat) (w : World) (m0 : len0 ≤ maxLen) (m1 : len1 ≤ maxLen) (h : ¬ len0 + len1 ≤ 1048576) :
    Calls Tryz.prog 4 #[.slice a0 len0 cap0, .slice a1 len1 cap1] w fun e w' => e = .returned (.bool true) ∧ w = w' := by
  unfold maxLen at m0 m1
  by_cases h0 : (1048576 : Int) < (len0 : Int)
  · go_enter Tryz.func4, Tryz.ntmps4
    go_wp2
    go_ret
    exact ⟨rfl, rfl⟩
  · have h1 : (1048576 : Int) - (len0 : Int) < (len1 : Int) := by omega
    go_enter Tryz.func4, Tryz.ntmps4
    go_wp2
    go_ret
    exact ⟨rfl, rfl⟩
set_option maxRecDepth 8000 in
set_option maxHeartbeats 8000000 in
theorem hulls_walk (a0 : Option Addr) (len0 cap0 : Nat) (a1 : Option Addr) (len1 cap1 : Nat) (w : World) (B0 : Bytes w.heap.size a0 len0 w) (B1 : Bytes w.heap.size a1 len1 w) (m0 : len0 ≤ maxLen) (m1 : len1 ≤ maxLen) (c0 : w.cell? ⟨0, 0, none⟩ = some (.int .i64 1000000)) :
    Calls Tryz.prog 3 #[.slice a0 len0 cap0, .slice a1 len1 cap1] w fun e w' => e = .returned (.bool true) ∧ Below w.heap.size w w' := by
  have C0 := hid c0
  have HB0 := hid B0
  have HB1 := hid B1
  clear c0 B0 B1
  by_cases hl : len0 + len1 ≤ 1048576
  · have l0 : len0 ≤ 1048576 := by omega
    have l1 : len1 ≤ 1048576 := by omega
    clear m0 m1
    go_enter Tryz.func3, Tryz.ntmps3
    go_upto_region 4 with (first
      | (go_at_call 4; refine (big_c _ _ _ _ _ _ _ hl).mono ?_; rintro e w' ⟨rfl, rfl⟩)
      | (go_at_call 5; refine (drawHull_c _ _ _ _ HB0.out l0).mono ?_; rintro e w1 ⟨v1, rfl, s, hos, hs13, hb1⟩; obtain ⟨av, ps, hvs⟩ := hos.shape; subst hvs))
    have hsm : s.length ≤ 1048576 := by omega
    have t1 : True := trivial
    have t2 : True := trivial
    have t3 : True := trivial
    have t4 : True := trivial
    cases hG : goodL s
    · go_upto_region 30 with (first
        | (go_at_call 6; refine (hullImpl_c s _ _ _ w1 rfl hsm hos.at (cell_later hb1 C0.out)).mono ?_; rw [hG]; rintro e w2 ⟨v2, rfl, ho2, hb2⟩; obtain ⟨a2, p2, hv2⟩ := ho2.shape; subst hv2; have hc2 := grew hb1 hb2)
        | (go_at_call 7; refine (hullSpec_c s _ _ _ w2 rfl hsm hos.fit (hos.later hb2).at).mono ?_; rw [hG]; rintro e w3 ⟨v3, rfl, ho3, hb3⟩; obtain ⟨a3, p3, hv3⟩ := ho3.shape; subst hv3; have hB3 := grew hb2 hb3; have hc3 := grew hb1 hB3)
        | (go_at_call 8; refine (wrapImpl_c s _ _ _ w3 rfl hsm (hos.later hB3).at (cell_later hc3 C0.out)).mono ?_; rw [hG]; rintro e w4 ⟨v4, rfl, ho4, hb4⟩; obtain ⟨a4, p4, hv4⟩ := ho4.shape; subst hv4; have hB4 := grew hB3 hb4)
        | (go_at_call 9; refine (wrapSpec_c s _ _ _ w4 rfl hsm hos.fit (hos.later hB4).at).mono ?_; rw [hG]; rintro e w5 ⟨v5, rfl, ho5, hb5⟩; obtain ⟨a5, p5, hv5⟩ := ho5.shape; subst hv5; have hB5 := grew hB4 hb5; have hc5 := grew hb1 hB5)
        | (go_at_call 10; refine (halvesImpl_c s _ _ _ w5 rfl hsm hos.fit (hos.later hB5).at (cell_later hc5 C0.out)).mono ?_; rw [hG]; rintro e w6 ⟨v6, rfl, ho6, hb6⟩; obtain ⟨a6, p6, hv6⟩ := ho6.shape; subst hv6; have hB6 := grew hB5 hb6)
        | (go_at_call 11; refine (halvesSpec_c s _ _ _ w6 rfl hsm hos.fit (hos.later hB6).at).mono ?_; rw [hG]; rintro e w7 ⟨v7, rfl, ho7, hb7⟩; obtain ⟨a7, p7, hv7⟩ := ho7.shape; subst hv7; have hB7 := grew hB6 hb7; have hc7 := grew hb1 hB7; have q67 := hb7; have q57 := grew hb6 hb7; have q47 := grew hb5 q57; have q37 := grew hb4 q47; have q27 := grew hb3 q37; have hq2 := ho2.later q27; have hq3 := ho3.later q37; have hq4 := ho4.later q47; have hq5 := ho5.later q57; have hq6 := ho6.later q67)
        | (go_at_call 12; clear t1; refine (same_c (hulL s) (hulL s) _ _ _ _ _ _ w7 rfl rfl (hulL_len s hsm) (hulL_len s hsm) hq2.at hq3.at).mono ?_; rintro e w8 ⟨rfl, hb8⟩; have hB8 := grew hB7 hb8)
        | (go_at_call 12; clear t2; refine (same_c (wraL s) (wraL s) _ _ _ _ _ _ w8 rfl rfl (wraL_len s hsm) (wraL_len s hsm) (hq4.later hb8).at (hq5.later hb8).at).mono ?_; rintro e w9 ⟨rfl, hb9⟩; have q79 := grew hb8 hb9; have hB9 := grew hB8 hb9)
        | (go_at_call 12; clear t3; refine (same_c (halL s) (halL s) _ _ _ _ _ _ w9 rfl rfl (halL_len s hsm) (halL_len s hsm) (hq6.later q79).at (ho7.later q79).at).mono ?_; rintro e w10 ⟨rfl, hb10⟩; have q710 := grew q79 hb10; have hB10 := grew hB9 hb10; have hc10 := grew hb1 hB10))
      have tq : True := trivial
      go_wp2_with (first
        | (go_at_call 18; refine (drawIsHull_c _ _ _ w10 ((HB1.out.below hc10).mono hc10.size) l1).mono ?_; rintro e wj ⟨vj, uj, rfl, lj, mj, hoj, hlj, ⟨cj, cpj, rfl, hmj⟩, hnj, hbj⟩; obtain ⟨aj, pj, hvj⟩ := hoj.shape; subst hvj; have hcj := grew hc10 hbj)
        | (go_at_call 13; refine (isHullImpl_c lj mj _ _ _ _ _ _ wj rfl rfl (by omega) (by omega) hoj.fit hoj.at hmj (cell_later hcj C0.out)).mono ?_; rintro e wk ⟨rfl, hbk⟩; have hck := grew hcj hbk)
        | (go_at_call 19; refine (isHullSpec_c lj mj _ _ _ _ _ _ wk rfl rfl (by omega) (by omega) hoj.fit (hoj.later hbk).at ((hmj.later hbk).mono hbk.size)).mono ?_; rintro e wl ⟨rfl, hbl⟩; have hcl := grew hck hbl)
        | (go_at_call 20; refine (drawGoodHull_c _ _ _ wl ((HB1.out.below hcl).mono hcl.size) l1).mono ?_; rintro e wm ⟨vm, rfl, lm, hom, hlm, hbm⟩; obtain ⟨am, pm, hvm⟩ := hom.shape; subst hvm; have hcm := grew hcl hbm)
        | (go_at_call 14; refine (goodHullImpl_c lm _ _ _ wm rfl (by omega) hom.at (cell_later hcm C0.out)).mono ?_; rintro e wn ⟨rfl, hbn⟩; have hcn := grew hcm hbn)
        | (go_at_call 21; refine (goodHullSpec_c lm _ _ _ wn rfl (by omega) (hom.later hbn).at).mono ?_; rintro e wo ⟨rfl, hbo⟩))
      all_goals go_ret
      all_goals exact ⟨rfl, grew hcn hbo⟩
    · have HH0 := hulled hG (by omega)
      obtain ⟨h, hh⟩ : ∃ h, hulL s = h := ⟨_, rfl⟩
      rw [hh] at HH0
      have HH := hid HH0
      have hhm : h.length ≤ 1048576 := Nat.le_trans HH0.len (by omega)
      clear hh HH0
      go_upto_region 16 with (first
        | (go_at_call 6; refine (hullImpl_c s _ _ _ w1 rfl hsm hos.at (cell_later hb1 C0.out)).mono ?_; rw [hG]; rintro e w2 ⟨v2, rfl, ho2, hb2⟩; rw [HH.out.hull] at ho2; obtain ⟨a2, p2, hv2⟩ := ho2.shape; subst hv2; have hc2 := grew hb1 hb2)
        | (go_at_call 7; refine (hullSpec_c s _ _ _ w2 rfl hsm hos.fit (hos.later hb2).at).mono ?_; rw [hG]; rintro e w3 ⟨v3, rfl, ho3, hb3⟩; rw [HH.out.hull] at ho3; obtain ⟨a3, p3, hv3⟩ := ho3.shape; subst hv3; have hB3 := grew hb2 hb3; have hc3 := grew hb1 hB3)
        | (go_at_call 8; refine (wrapImpl_c s _ _ _ w3 rfl hsm (hos.later hB3).at (cell_later hc3 C0.out)).mono ?_; rw [hG]; rintro e w4 ⟨v4, rfl, ho4, hb4⟩; rw [HH.out.wrap] at ho4; obtain ⟨a4, p4, hv4⟩ := ho4.shape; subst hv4; have hB4 := grew hB3 hb4)
        | (go_at_call 9; refine (wrapSpec_c s _ _ _ w4 rfl hsm hos.fit (hos.later hB4).at).mono ?_; rw [hG]; rintro e w5 ⟨v5, rfl, ho5, hb5⟩; rw [HH.out.wrap] at ho5; obtain ⟨a5, p5, hv5⟩ := ho5.shape; subst hv5; have hB5 := grew hB4 hb5; have hc5 := grew hb1 hB5)
        | (go_at_call 10; refine (halvesImpl_c s _ _ _ w5 rfl hsm hos.fit (hos.later hB5).at (cell_later hc5 C0.out)).mono ?_; rw [hG]; rintro e w6 ⟨v6, rfl, ho6, hb6⟩; rw [HH.out.half] at ho6; obtain ⟨a6, p6, hv6⟩ := ho6.shape; subst hv6; have hB6 := grew hB5 hb6)
        | (go_at_call 11; refine (halvesSpec_c s _ _ _ w6 rfl hsm hos.fit (hos.later hB6).at).mono ?_; rw [hG]; rintro e w7 ⟨v7, rfl, ho7, hb7⟩; rw [HH.out.half] at ho7; obtain ⟨a7, p7, hv7⟩ := ho7.shape; subst hv7; have hB7 := grew hB6 hb7; have hc7 := grew hb1 hB7; have q67 := hb7; have q57 := grew hb6 hb7; have q47 := grew hb5 q57; have q37 := grew hb4 q47; have q27 := grew hb3 q37; have hq2 := ho2.later q27; have hq3 := ho3.later q37; have hq4 := ho4.later q47; have hq5 := ho5.later q57; have hq6 := ho6.later q67)
        | (go_at_call 12; clear t1; refine (same_c h h _ _ _ _ _ _ w7 rfl rfl hhm hhm hq2.at hq3.at).mono ?_; rintro e w8 ⟨rfl, hb8⟩; have hB8 := grew hB7 hb8)
        | (go_at_call 12; clear t2; refine (same_c h h _ _ _ _ _ _ w8 rfl rfl hhm hhm (hq4.later hb8).at (hq5.later hb8).at).mono ?_; rintro e w9 ⟨rfl, hb9⟩; have q79 := grew hb8 hb9; have hB9 := grew hB8 hb9)
        | (go_at_call 12; clear t3; refine (same_c h h _ _ _ _ _ _ w9 rfl rfl hhm hhm (hq6.later q79).at (ho7.later q79).at).mono ?_; rintro e w10 ⟨rfl, hb10⟩; have q710 := grew q79 hb10; have hB10 := grew hB9 hb10; have hc10 := grew hb1 hB10)
        | (go_at_call 13; refine (isHullImpl_c s h _ _ _ _ _ _ w10 rfl rfl hsm hhm hos.fit (hos.later hB10).at (hq2.later q710).at (cell_later hc10 C0.out)).mono ?_; rw [HH.out.ok, HH.out.is]; rintro e w11 ⟨rfl, hb11⟩; have q711 := grew q710 hb11; have hB11 := grew hB10 hb11)
        | (go_at_call 12; clear t4; refine (same_c h h _ _ _ _ _ _ w11 rfl rfl hhm hhm (hq4.later q711).at (hq2.later q711).at).mono ?_; rintro e w12 ⟨rfl, hb12⟩; have q712 := grew q711 hb12; have hB12 := grew hB11 hb12)
        | (go_at_call 12; refine (same_c h h _ _ _ _ _ _ w12 rfl rfl hhm hhm (hq6.later q712).at (hq2.later q712).at).mono ?_; rintro e w13 ⟨rfl, hb13⟩; have q713 := grew q712 hb13; have hB13 := grew hB12 hb13; have hc13 := grew hb1 hB13)
        | (go_at_call 14; refine (goodHullImpl_c h _ _ _ w13 rfl hhm (hq2.later q713).at (cell_later hc13 C0.out)).mono ?_; rw [HH.out.gh]; rintro e w14 ⟨rfl, hb14⟩; have q714 := grew q713 hb14; have hB14 := grew hB13 hb14; have hc14 := grew hc13 hb14))
      have HSA := hos.later hB14
      have HHA := hq2.later q714
      have hcA := hid hc14
      obtain ⟨wA, hwA⟩ : ∃ wA, wA = w14 := ⟨_, rfl⟩
      subst hwA
      clear hos ho2 ho3 ho4 ho5 ho6 ho7 hq2 hq3 hq4 hq5 hq6 hb1 hb2 hb3 hb4 hb5 hb6 hb7 hb8 hb9 hb10 hb11 hb12 hb13 hb14 hB3 hB4 hB5 hB6 hB7 hB8 hB9 hB10 hB11 hB12 hB13 hB14 hc2 hc3 hc5 hc7 hc10 hc13 hc14 q27 q37 q47 q57 q67 q79 q710 q711 q712 q713 q714
      go_wp2
      go_loopw [143] (fun si wr => ∃ i : Nat, i ≤ s.length ∧ si = .int .i64 i ∧ Below wA.heap.size wA wr) (fun si _ => s.length - (intOf si).toNat)
      case atStart => exact ⟨0, Nat.zero_le _, rfl, Below.refl _ _⟩
      case round =>
        obtain ⟨i, hi, rfl, hbr⟩ := hrel
        by_cases hil : i < s.length
        · obtain ⟨bs, os, es, hbs, g0, g1⟩ := (HSA.later hbr).at i hil
          subst es
          have hwok := HH.out.wok i hil
          have hwv := HH.out.wv i hil
          obtain ⟨x, hx⟩ : ∃ x, px s i = x := ⟨_, rfl⟩
          obtain ⟨y, hy⟩ : ∃ y, py s i = y := ⟨_, rfl⟩
          rw [hx, hy] at hwok hwv
          rw [hx] at g0
          rw [hy] at g1
          obtain ⟨nn, hnq⟩ : ∃ nn, whV h x y = nn := ⟨_, rfl⟩
          rw [hnq] at hwv
          have hw0 : (nn == 0) = false := by simpa using hwv
          have hbX : Below wr.heap.size wr (wr.alloc (.cells #[.int .i64 x, .int .i64 y] 33)) := by go_grown
          have HBX := hid (grew hbr hbX)
          have i0 : (0 : Int) ≤ (i : Int) := by omega
          have i1 : (i : Int) < (s.length : Int) := by omega
          have HN := hid hnq
          have HW := hid hwok
          clear hx hy hnq hwok hwv hbX hbr
          go_wp2_with (go_at_call 15; refine (whereIsImpl_c h x y _ _ _ _ rfl hhm (HHA.later HBX.out).at (cell_later (grew hcA.out HBX.out) C0.out)).mono ?_; rw [HN.out, HW.out]; rintro e w9 ⟨rfl, hb9⟩)
          go_roundw
          case rel => exact ⟨i + 1, by omega, by go_num, grew HBX.out hb9⟩
          case measure => simp [intOf]; omega
        · obtain rfl : i = s.length := by omega
          have hcB := hid (grew hcA.out hbr)
          have HHB := HHA.later hbr
          have HSB := HSA.later hbr
          clear HHA HSA
          go_upto_region 23 with fail
          obtain ⟨wB, rfl⟩ : ∃ wB, wB = wr := ⟨wr, rfl⟩
          clear hil hi hbr
          go_wp2
          go_loopw [162] (fun sk wr => ∃ k : Nat, k ≤ h.length ∧ sk = .int .i64 k ∧ Below wB.heap.size wB wr) (fun sk _ => h.length - (intOf sk).toNat)
          case atStart => exact ⟨0, Nat.zero_le _, rfl, Below.refl _ _⟩
          case round =>
            obtain ⟨k, hk, rfl, hbr⟩ := hrel
            have HBR := hid hbr
            by_cases hkl : k < h.length
            · have hm1 : (k + 1) % h.length < h.length := Nat.mod_lt _ (by omega)
              have hm2 : (k + 2) % h.length < h.length := Nat.mod_lt _ (by omega)
              have hsok := HH.out.sok k hkl
              have hturn := HH.out.turn k hkl
              have hmem := HH.out.mem k hkl
              have hc1 := mod_up (k := k) (n := h.length) rfl
              have hc2 : ((k : Int) + 2) % (h.length : Int) = (((k + 2) % h.length : Nat) : Int) := by simp
              obtain ⟨m1, e1⟩ : ∃ m, (k + 1) % h.length = m := ⟨_, rfl⟩
              obtain ⟨m2, e2⟩ : ∃ m, (k + 2) % h.length = m := ⟨_, rfl⟩
              rw [e1] at hm1 hsok hturn hc1
              rw [e2] at hm2 hsok hturn hc2
              clear e1 e2
              obtain ⟨hb0, ho0, eh0, hbl0, g0, g1⟩ := (HHB.later hbr).at k hkl
              obtain ⟨hb1', ho1', eh1, hbl1, g2, g3⟩ := (HHB.later hbr).at m1 hm1
              obtain ⟨hb2', ho2', eh2, hbl2, g4, g5⟩ := (HHB.later hbr).at m2 hm2
              subst eh0
              obtain ⟨rfl, rfl⟩ : hb0 = hb1' ∧ ho0 = ho1' := by simpa using eh1
              obtain ⟨rfl, rfl⟩ : hb0 = hb2' ∧ ho0 = ho2' := by simpa using eh2
              clear eh1 eh2
              obtain ⟨x0, hx0⟩ : ∃ x, px h k = x := ⟨_, rfl⟩
              obtain ⟨y0, hy0⟩ : ∃ x, py h k = x := ⟨_, rfl⟩
              obtain ⟨x1, hx1⟩ : ∃ x, px h m1 = x := ⟨_, rfl⟩
              obtain ⟨y1, hy1⟩ : ∃ x, py h m1 = x := ⟨_, rfl⟩
              obtain ⟨x2, hx2⟩ : ∃ x, px h m2 = x := ⟨_, rfl⟩
              obtain ⟨y2, hy2⟩ : ∃ x, py h m2 = x := ⟨_, rfl⟩
              rw [hx0, hy0, hx1, hy1, hx2, hy2] at hsok hturn
              rw [hx0, hy0] at hmem
              rw [hx0] at g0
              rw [hy0] at g1
              rw [hx1] at g2
              rw [hy1] at g3
              rw [hx2] at g4
              rw [hy2] at g5
              obtain ⟨nn, hnq⟩ : ∃ nn, sideN x0 y0 x1 y1 x2 y2 = nn := ⟨_, rfl⟩
              rw [hnq] at hturn
              clear hx0 hy0 hx1 hy1 hx2 hy2
              have k0 := box0 wr x0 y0 33
              have k1 := box1 wr x0 y0 33
              have hbX : Below wr.heap.size wr (wr.alloc (.cells #[.int .i64 x0, .int .i64 y0] 33)) := by go_grown
              have k2 := cell_later hbX g2
              have k3 := cell_later hbX g3
              have k4 := cell_later hbX g4
              have k5 := cell_later hbX g5
              have HBX := hid (grew hbr hbX)
              have HCX := hid (grew hcB.out (grew hbr hbX))
              have hw1 : IntKind.i64.wrap ((k : Int) + 1) = (k : Int) + 1 := by rw [IntKind.wrap_i64]; omega
              have hw2 : IntKind.i64.wrap ((k : Int) + 2) = (k : Int) + 2 := by rw [IntKind.wrap_i64]; omega
              have hct1 : (IntKind.i64.wrap ((k : Int) + 1)).tmod (h.length : Int) = (m1 : Int) := by rw [hw1, Int.tmod_eq_emod_of_nonneg (by omega)]; exact hc1
              have hct2 : (IntKind.i64.wrap ((k : Int) + 2)).tmod (h.length : Int) = (m2 : Int) := by rw [hw2, Int.tmod_eq_emod_of_nonneg (by omega)]; exact hc2
              have hne : ¬ h = [] := fun e => by rw [e] at hkl; exact absurd hkl (Nat.not_lt_zero _)
              have i0 : (0 : Int) ≤ (k : Int) := by omega
              have i1 : (k : Int) < (h.length : Int) := by omega
              have i2 : (0 : Int) ≤ (m1 : Int) := by omega
              have i3 : (m1 : Int) < (h.length : Int) := by omega
              have i4 : (0 : Int) ≤ (m2 : Int) := by omega
              have i5 : (m2 : Int) < (h.length : Int) := by omega
              have HSO := hid hsok
              have HT := hid hturn
              have HM := hid hmem
              have HN := hid hnq
              clear hw1 hw2 hbr hturn hmem hsok hnq hc1 hc2
              go_upto_region 26 with fail
              clear g0 g1 g2 g3 g4 g5 hbX
              generalize wr.heap.size = B8 at k0 k1 ⊢
              generalize wr.alloc (.cells #[.int .i64 x0, .int .i64 y0] 33) = wX at k0 k1 k2 k3 k4 k5 HBX HCX ⊢
              refine wp_region_held_drew (S := (fun u => Below wX.heap.size wX u)) (by kernel_rfl) ?_ (fun hHeld => ?_)
              · exact (Below.refl _ _).drew
              refine wpAnyH_take (i := 0) (oi := { dst := some 168, op := Op.load 33 (Operand.tmp 25), type := 33, pos := "laws.go:277", after := #[], guard := none }) (v := ?v1rx0) rfl (by kernel_rfl) (by kernel_rfl) (by kernel_rfl) (fun _ _ _ h => h) (Or.inl ⟨by rfl, ?hy1rx0⟩) (by with_reducible assumption) ?rest1rx0
              case hy1rx0 => (intro w hSw; (try dsimp only at hSw); have z0 := cell_later hSw k0; have z1 := cell_later hSw k1; have z2 := cell_later hSw k2; have z3 := cell_later hSw k3; have z4 := cell_later hSw k4; have z5 := cell_later hSw k5; clear hSw; go_simp; try with_reducible rfl)
              case' rest1rx0 => (try simp only [Act.put, List.setIfInBounds_toArray, List.set_cons_zero, List.set_cons_succ])
              refine wpAnyH_take (i := 1) (oi := { dst := some 169, op := Op.move (Operand.tmp 6), type := 24, pos := "laws.go:277", after := #[], guard := none }) (v := ?v1rx1) rfl (by kernel_rfl) (by kernel_rfl) (by kernel_rfl) (fun _ _ _ h => h) (Or.inl ⟨by rfl, ?hy1rx1⟩) (by with_reducible assumption) ?rest1rx1
              case hy1rx1 => (intro w hSw; (try dsimp only at hSw); have z0 := cell_later hSw k0; have z1 := cell_later hSw k1; have z2 := cell_later hSw k2; have z3 := cell_later hSw k3; have z4 := cell_later hSw k4; have z5 := cell_later hSw k5; clear hSw; go_simp; try with_reducible rfl)
              case' rest1rx1 => (try simp only [Act.put, List.setIfInBounds_toArray, List.set_cons_zero, List.set_cons_succ])
              refine wpAnyH_take (i := 2) (oi := { dst := some 170, op := Op.move (Operand.tmp 24), type := 3, pos := "laws.go:277", after := #[], guard := none }) (v := ?v1rx2) rfl (by kernel_rfl) (by kernel_rfl) (by kernel_rfl) (fun _ _ _ h => h) (Or.inl ⟨by rfl, ?hy1rx2⟩) (by with_reducible assumption) ?rest1rx2
              case hy1rx2 => (intro w hSw; (try dsimp only at hSw); have z0 := cell_later hSw k0; have z1 := cell_later hSw k1; have z2 := cell_later hSw k2; have z3 := cell_later hSw k3; have z4 := cell_later hSw k4; have z5 := cell_later hSw k5; clear hSw; go_simp; try with_reducible rfl)
              case' rest1rx2 => (try simp only [Act.put, List.setIfInBounds_toArray, List.set_cons_zero, List.set_cons_succ])
              refine wpAnyH_take (i := 3) (oi := { dst := some 171, op := Op.binOp BinOp.add 3 (Operand.tmp 170) (Operand.const (Value.int IntKind.i64 1)) 3, type := 3, pos := "laws.go:277", after := #[{ on := 2, ground := Ground.data }], guard := none }) (v := ?v1rx3) rfl (by kernel_rfl) (by kernel_rfl) (by kernel_rfl) (fun _ _ _ h => h) (Or.inl ⟨by rfl, ?hy1rx3⟩) (by with_reducible assumption) ?rest1rx3
              case hy1rx3 => (intro w hSw; (try dsimp only at hSw); have z0 := cell_later hSw k0; have z1 := cell_later hSw k1; have z2 := cell_later hSw k2; have z3 := cell_later hSw k3; have z4 := cell_later hSw k4; have z5 := cell_later hSw k5; clear hSw; go_simp; try with_reducible rfl)
              case' rest1rx3 => (try simp only [Act.put, List.setIfInBounds_toArray, List.set_cons_zero, List.set_cons_succ])
              refine wpAnyH_take (i := 4) (oi := { dst := some 172, op := Op.move (Operand.tmp 6), type := 24, pos := "laws.go:277", after := #[], guard := none }) (v := ?v1rx4) rfl (by kernel_rfl) (by kernel_rfl) (by kernel_rfl) (fun _ _ _ h => h) (Or.inl ⟨by rfl, ?hy1rx4⟩) (by with_reducible assumption) ?rest1rx4
              case hy1rx4 => (intro w hSw; (try dsimp only at hSw); have z0 := cell_later hSw k0; have z1 := cell_later hSw k1; have z2 := cell_later hSw k2; have z3 := cell_later hSw k3; have z4 := cell_later hSw k4; have z5 := cell_later hSw k5; clear hSw; go_simp; try with_reducible rfl)
              case' rest1rx4 => (try simp only [Act.put, List.setIfInBounds_toArray, List.set_cons_zero, List.set_cons_succ])
              refine wpAnyH_take (i := 5) (oi := { dst := some 173, op := Op.call { callee := Callee.builtin Builtin.len, args := #[Operand.tmp 172], argTypes := #[24] }, type := 3, pos := "laws.go:277", after := #[{ on := 4, ground := Ground.data }], guard := none }) (v := ?v1rx5) rfl (by kernel_rfl) (by kernel_rfl) (by kernel_rfl) (fun _ _ _ h => h) (Or.inl ⟨by rfl, ?hy1rx5⟩) (by with_reducible assumption) ?rest1rx5
              case hy1rx5 => (intro w hSw; (try dsimp only at hSw); have z0 := cell_later hSw k0; have z1 := cell_later hSw k1; have z2 := cell_later hSw k2; have z3 := cell_later hSw k3; have z4 := cell_later hSw k4; have z5 := cell_later hSw k5; clear hSw; go_simp; try with_reducible rfl)
              case' rest1rx5 => (try simp only [Act.put, List.setIfInBounds_toArray, List.set_cons_zero, List.set_cons_succ])
              refine wpAnyH_take (i := 6) (oi := { dst := some 174, op := Op.binOp BinOp.rem 3 (Operand.tmp 171) (Operand.tmp 173) 3, type := 3, pos := "laws.go:277", after := #[{ on := 3, ground := Ground.data }, { on := 5, ground := Ground.data }], guard := none }) (v := ?v1rx6) rfl (by kernel_rfl) (by kernel_rfl) (by kernel_rfl) (fun _ _ _ h => h) (Or.inl ⟨by rfl, ?hy1rx6⟩) (by with_reducible assumption) ?rest1rx6
              case hy1rx6 => (intro w hSw; (try dsimp only at hSw); have z0 := cell_later hSw k0; have z1 := cell_later hSw k1; have z2 := cell_later hSw k2; have z3 := cell_later hSw k3; have z4 := cell_later hSw k4; have z5 := cell_later hSw k5; clear hSw; go_simp; try with_reducible rfl)
              case' rest1rx6 => (try simp only [Act.put, List.setIfInBounds_toArray, List.set_cons_zero, List.set_cons_succ])
              refine wpAnyH_take (i := 7) (oi := { dst := some 175, op := Op.indexAddr 24 (Operand.tmp 169) (Operand.tmp 174), type := 0, pos := "laws.go:277", after := #[{ on := 1, ground := Ground.data }, { on := 6, ground := Ground.data }], guard := none }) (v := ?v1rx7) rfl (by kernel_rfl) (by kernel_rfl) (by kernel_rfl) (fun _ _ _ h => h) (Or.inl ⟨by rfl, ?hy1rx7⟩) (by with_reducible assumption) ?rest1rx7
              case hy1rx7 => (intro w hSw; (try dsimp only at hSw); have z0 := cell_later hSw k0; have z1 := cell_later hSw k1; have z2 := cell_later hSw k2; have z3 := cell_later hSw k3; have z4 := cell_later hSw k4; have z5 := cell_later hSw k5; clear hSw; go_simp; try with_reducible rfl)
              case' rest1rx7 => (try simp only [Act.put, List.setIfInBounds_toArray, List.set_cons_zero, List.set_cons_succ])
              refine wpAnyH_take (i := 8) (oi := { dst := some 176, op := Op.load 33 (Operand.tmp 175), type := 33, pos := "laws.go:277", after := #[{ on := 7, ground := Ground.data }], guard := none }) (v := ?v1rx8) rfl (by kernel_rfl) (by kernel_rfl) (by kernel_rfl) (fun _ _ _ h => h) (Or.inl ⟨by rfl, ?hy1rx8⟩) (by with_reducible assumption) ?rest1rx8
              case hy1rx8 => (intro w hSw; (try dsimp only at hSw); have z0 := cell_later hSw k0; have z1 := cell_later hSw k1; have z2 := cell_later hSw k2; have z3 := cell_later hSw k3; have z4 := cell_later hSw k4; have z5 := cell_later hSw k5; clear hSw; go_simp; try with_reducible rfl)
              case' rest1rx8 => (try simp only [Act.put, List.setIfInBounds_toArray, List.set_cons_zero, List.set_cons_succ])
              refine wpAnyH_take (i := 9) (oi := { dst := some 177, op := Op.move (Operand.tmp 6), type := 24, pos := "laws.go:277", after := #[], guard := none }) (v := ?v1rx9) rfl (by kernel_rfl) (by kernel_rfl) (by kernel_rfl) (fun _ _ _ h => h) (Or.inl ⟨by rfl, ?hy1rx9⟩) (by with_reducible assumption) ?rest1rx9
              case hy1rx9 => (intro w hSw; (try dsimp only at hSw); have z0 := cell_later hSw k0; have z1 := cell_later hSw k1; have z2 := cell_later hSw k2; have z3 := cell_later hSw k3; have z4 := cell_later hSw k4; have z5 := cell_later hSw k5; clear hSw; go_simp; try with_reducible rfl)
              case' rest1rx9 => (try simp only [Act.put, List.setIfInBounds_toArray, List.set_cons_zero, List.set_cons_succ])
              refine wpAnyH_take (i := 10) (oi := { dst := some 178, op := Op.move (Operand.tmp 24), type := 3, pos := "laws.go:277", after := #[], guard := none }) (v := ?v1rx10) rfl (by kernel_rfl) (by kernel_rfl) (by kernel_rfl) (fun _ _ _ h => h) (Or.inl ⟨by rfl, ?hy1rx10⟩) (by with_reducible assumption) ?rest1rx10
              case hy1rx10 => (intro w hSw; (try dsimp only at hSw); have z0 := cell_later hSw k0; have z1 := cell_later hSw k1; have z2 := cell_later hSw k2; have z3 := cell_later hSw k3; have z4 := cell_later hSw k4; have z5 := cell_later hSw k5; clear hSw; go_simp; try with_reducible rfl)
              case' rest1rx10 => (try simp only [Act.put, List.setIfInBounds_toArray, List.set_cons_zero, List.set_cons_succ])
              refine wpAnyH_take (i := 11) (oi := { dst := some 179, op := Op.binOp BinOp.add 3 (Operand.tmp 178) (Operand.const (Value.int IntKind.i64 2)) 3, type := 3, pos := "laws.go:277", after := #[{ on := 10, ground := Ground.data }], guard := none }) (v := ?v1rx11) rfl (by kernel_rfl) (by kernel_rfl) (by kernel_rfl) (fun _ _ _ h => h) (Or.inl ⟨by rfl, ?hy1rx11⟩) (by with_reducible assumption) ?rest1rx11
              case hy1rx11 => (intro w hSw; (try dsimp only at hSw); have z0 := cell_later hSw k0; have z1 := cell_later hSw k1; have z2 := cell_later hSw k2; have z3 := cell_later hSw k3; have z4 := cell_later hSw k4; have z5 := cell_later hSw k5; clear hSw; go_simp; try with_reducible rfl)
              case' rest1rx11 => (try simp only [Act.put, List.setIfInBounds_toArray, List.set_cons_zero, List.set_cons_succ])
              refine wpAnyH_take (i := 12) (oi := { dst := some 180, op := Op.move (Operand.tmp 6), type := 24, pos := "laws.go:277", after := #[], guard := none }) (v := ?v1rx12) rfl (by kernel_rfl) (by kernel_rfl) (by kernel_rfl) (fun _ _ _ h => h) (Or.inl ⟨by rfl, ?hy1rx12⟩) (by with_reducible assumption) ?rest1rx12
              case hy1rx12 => (intro w hSw; (try dsimp only at hSw); have z0 := cell_later hSw k0; have z1 := cell_later hSw k1; have z2 := cell_later hSw k2; have z3 := cell_later hSw k3; have z4 := cell_later hSw k4; have z5 := cell_later hSw k5; clear hSw; go_simp; try with_reducible rfl)
              case' rest1rx12 => (try simp only [Act.put, List.setIfInBounds_toArray, List.set_cons_zero, List.set_cons_succ])
              refine wpAnyH_take (i := 13) (oi := { dst := some 181, op := Op.call { callee := Callee.builtin Builtin.len, args := #[Operand.tmp 180], argTypes := #[24] }, type := 3, pos := "laws.go:277", after := #[{ on := 12, ground := Ground.data }], guard := none }) (v := ?v1rx13) rfl (by kernel_rfl) (by kernel_rfl) (by kernel_rfl) (fun _ _ _ h => h) (Or.inl ⟨by rfl, ?hy1rx13⟩) (by with_reducible assumption) ?rest1rx13
              case hy1rx13 => (intro w hSw; (try dsimp only at hSw); have z0 := cell_later hSw k0; have z1 := cell_later hSw k1; have z2 := cell_later hSw k2; have z3 := cell_later hSw k3; have z4 := cell_later hSw k4; have z5 := cell_later hSw k5; clear hSw; go_simp; try with_reducible rfl)
              case' rest1rx13 => (try simp only [Act.put, List.setIfInBounds_toArray, List.set_cons_zero, List.set_cons_succ])
              refine wpAnyH_take (i := 14) (oi := { dst := some 182, op := Op.binOp BinOp.rem 3 (Operand.tmp 179) (Operand.tmp 181) 3, type := 3, pos := "laws.go:277", after := #[{ on := 11, ground := Ground.data }, { on := 13, ground := Ground.data }], guard := none }) (v := ?v1rx14) rfl (by kernel_rfl) (by kernel_rfl) (by kernel_rfl) (fun _ _ _ h => h) (Or.inl ⟨by rfl, ?hy1rx14⟩) (by with_reducible assumption) ?rest1rx14
              case hy1rx14 => (intro w hSw; (try dsimp only at hSw); have z0 := cell_later hSw k0; have z1 := cell_later hSw k1; have z2 := cell_later hSw k2; have z3 := cell_later hSw k3; have z4 := cell_later hSw k4; have z5 := cell_later hSw k5; clear hSw; go_simp; try with_reducible rfl)
              case' rest1rx14 => (try simp only [Act.put, List.setIfInBounds_toArray, List.set_cons_zero, List.set_cons_succ])
              refine wpAnyH_take (i := 15) (oi := { dst := some 183, op := Op.indexAddr 24 (Operand.tmp 177) (Operand.tmp 182), type := 0, pos := "laws.go:277", after := #[{ on := 9, ground := Ground.data }, { on := 14, ground := Ground.data }], guard := none }) (v := ?v1rx15) rfl (by kernel_rfl) (by kernel_rfl) (by kernel_rfl) (fun _ _ _ h => h) (Or.inl ⟨by rfl, ?hy1rx15⟩) (by with_reducible assumption) ?rest1rx15
              case hy1rx15 => (intro w hSw; (try dsimp only at hSw); have z0 := cell_later hSw k0; have z1 := cell_later hSw k1; have z2 := cell_later hSw k2; have z3 := cell_later hSw k3; have z4 := cell_later hSw k4; have z5 := cell_later hSw k5; clear hSw; go_simp; try with_reducible rfl)
              case' rest1rx15 => (try simp only [Act.put, List.setIfInBounds_toArray, List.set_cons_zero, List.set_cons_succ])
              refine wpAnyH_take (i := 16) (oi := { dst := some 184, op := Op.load 33 (Operand.tmp 183), type := 33, pos := "laws.go:277", after := #[{ on := 15, ground := Ground.data }], guard := none }) (v := ?v1rx16) rfl (by kernel_rfl) (by kernel_rfl) (by kernel_rfl) (fun _ _ _ h => h) (Or.inl ⟨by rfl, ?hy1rx16⟩) (by with_reducible assumption) ?rest1rx16
              case hy1rx16 => (intro w hSw; (try dsimp only at hSw); have z0 := cell_later hSw k0; have z1 := cell_later hSw k1; have z2 := cell_later hSw k2; have z3 := cell_later hSw k3; have z4 := cell_later hSw k4; have z5 := cell_later hSw k5; clear hSw; go_simp; try with_reducible rfl)
              case' rest1rx16 => (try simp only [Act.put, List.setIfInBounds_toArray, List.set_cons_zero, List.set_cons_succ])
              refine wpAnyH_ready (rs := [17]) (by kernel_rfl) (by simp) ?_
              refine AllReadyH.cons (o := { dst := some 185, op := Op.call { callee := Callee.value (Operand.func 16), args := #[Operand.tmp 168, Operand.tmp 176, Operand.tmp 184], argTypes := #[33, 33, 33] }, type := 34, pos := "laws.go:277", after := #[{ on := 0, ground := Ground.data }, { on := 8, ground := Ground.data }, { on := 16, ground := Ground.data }], guard := none }) rfl (fun K hK => ?_) AllReadyH.nil
              go_simp
              refine (sideOfImpl_c x0 y0 x1 y1 x2 y2 _ (cell_later (grew HCX.out (by with_reducible assumption)) C0.out)).mono ?_
              rintro e w4 ⟨rfl, hb4⟩
              go_wp2_with fail
              refine hK.out _ _ ?_ (fun hHeld => ?_)
              · exact grew (by with_reducible assumption) hb4
              clear hK K
              try simp only [Act.put, List.setIfInBounds_toArray, List.set_cons_zero, List.set_cons_succ]
              refine wpAnyH_take (i := 18) (oi := { dst := some 167, op := Op.move (Operand.tmp 185), type := 34, pos := "laws.go:277", after := #[{ on := 17, ground := Ground.data }], guard := none }) (v := ?v1rx18) rfl (by kernel_rfl) (by kernel_rfl) (by kernel_rfl) (fun _ _ _ h => h) (Or.inl ⟨by rfl, ?hy1rx18⟩) (by with_reducible assumption) ?rest1rx18
              case hy1rx18 => (intro w hSw; (try dsimp only at hSw); have z0 := cell_later hSw k0; have z1 := cell_later hSw k1; have z2 := cell_later hSw k2; have z3 := cell_later hSw k3; have z4 := cell_later hSw k4; have z5 := cell_later hSw k5; clear hSw; go_simp; try with_reducible rfl)
              case' rest1rx18 => (try simp only [Act.put, List.setIfInBounds_toArray, List.set_cons_zero, List.set_cons_succ])
              refine wpAnyH_take (i := 19) (oi := { dst := some 186, op := Op.extract (Operand.tmp 167) 0, type := 3, pos := "laws.go:277", after := #[{ on := 18, ground := Ground.data }], guard := none }) (v := ?v1rx19) rfl (by kernel_rfl) (by kernel_rfl) (by kernel_rfl) (fun _ _ _ h => h) (Or.inl ⟨by rfl, ?hy1rx19⟩) (by with_reducible assumption) ?rest1rx19
              case hy1rx19 => (intro w hSw; (try dsimp only at hSw); have z0 := cell_later hSw k0; have z1 := cell_later hSw k1; have z2 := cell_later hSw k2; have z3 := cell_later hSw k3; have z4 := cell_later hSw k4; have z5 := cell_later hSw k5; clear hSw; go_simp; try with_reducible rfl)
              case' rest1rx19 => (try simp only [Act.put, List.setIfInBounds_toArray, List.set_cons_zero, List.set_cons_succ])
              refine wpAnyH_take (i := 20) (oi := { dst := some 187, op := Op.extract (Operand.tmp 167) 1, type := 4, pos := "laws.go:277", after := #[{ on := 18, ground := Ground.data }, { on := 21, ground := Ground.gcOnly Departure.lateStores }], guard := none }) (v := ?v1rx20) rfl (by kernel_rfl) (by kernel_rfl) (by kernel_rfl) (fun _ _ _ h => h) (Or.inl ⟨by rfl, ?hy1rx20⟩) (by with_reducible assumption) ?rest1rx20
              case hy1rx20 => (intro w hSw; (try dsimp only at hSw); have z0 := cell_later hSw k0; have z1 := cell_later hSw k1; have z2 := cell_later hSw k2; have z3 := cell_later hSw k3; have z4 := cell_later hSw k4; have z5 := cell_later hSw k5; clear hSw; go_simp; try with_reducible rfl)
              case' rest1rx20 => (try simp only [Act.put, List.setIfInBounds_toArray, List.set_cons_zero, List.set_cons_succ])
              refine wpAnyH_take (i := 21) (oi := { dst := some 26, op := Op.assign (Operand.tmp 186), type := 3, pos := "laws.go:277", after := #[{ on := 19, ground := Ground.data }, { on := 17, ground := Ground.chain }, { on := 0, ground := Ground.phase }, { on := 1, ground := Ground.phase }, { on := 2, ground := Ground.phase }, { on := 3, ground := Ground.phase }, { on := 4, ground := Ground.phase }, { on := 5, ground := Ground.phase }, { on := 6, ground := Ground.phase }, { on := 7, ground := Ground.phase }, { on := 8, ground := Ground.phase }, { on := 9, ground := Ground.phase }, { on := 10, ground := Ground.phase }, { on := 11, ground := Ground.phase }, { on := 12, ground := Ground.phase }, { on := 13, ground := Ground.phase }, { on := 14, ground := Ground.phase }, { on := 15, ground := Ground.phase }, { on := 16, ground := Ground.phase }, { on := 17, ground := Ground.phase }, { on := 18, ground := Ground.phase }, { on := 19, ground := Ground.phase }, { on := 20, ground := Ground.textOnly Departure.lateStores }], guard := none }) (v := ?v1rx21) rfl (by kernel_rfl) (by kernel_rfl) (by kernel_rfl) (fun _ _ _ h => h) (Or.inl ⟨by rfl, ?hy1rx21⟩) (by with_reducible assumption) ?rest1rx21
              case hy1rx21 => (intro w hSw; (try dsimp only at hSw); have z0 := cell_later hSw k0; have z1 := cell_later hSw k1; have z2 := cell_later hSw k2; have z3 := cell_later hSw k3; have z4 := cell_later hSw k4; have z5 := cell_later hSw k5; clear hSw; go_simp; try with_reducible rfl)
              case' rest1rx21 => (try simp only [Act.put, List.setIfInBounds_toArray, List.set_cons_zero, List.set_cons_succ])
              refine wpAnyH_take (i := 22) (oi := { dst := some 27, op := Op.assign (Operand.tmp 187), type := 4, pos := "laws.go:277", after := #[{ on := 20, ground := Ground.data }, { on := 21, ground := Ground.chain }, { on := 0, ground := Ground.phase }, { on := 1, ground := Ground.phase }, { on := 2, ground := Ground.phase }, { on := 3, ground := Ground.phase }, { on := 4, ground := Ground.phase }, { on := 5, ground := Ground.phase }, { on := 6, ground := Ground.phase }, { on := 7, ground := Ground.phase }, { on := 8, ground := Ground.phase }, { on := 9, ground := Ground.phase }, { on := 10, ground := Ground.phase }, { on := 11, ground := Ground.phase }, { on := 12, ground := Ground.phase }, { on := 13, ground := Ground.phase }, { on := 14, ground := Ground.phase }, { on := 15, ground := Ground.phase }, { on := 16, ground := Ground.phase }, { on := 17, ground := Ground.phase }, { on := 18, ground := Ground.phase }, { on := 19, ground := Ground.phase }, { on := 20, ground := Ground.phase }, { on := 21, ground := Ground.phase }], guard := none }) (v := ?v1rx22) rfl (by kernel_rfl) (by kernel_rfl) (by kernel_rfl) (fun _ _ _ h => h) (Or.inl ⟨by rfl, ?hy1rx22⟩) (by with_reducible assumption) ?rest1rx22
              case hy1rx22 => (intro w hSw; (try dsimp only at hSw); have z0 := cell_later hSw k0; have z1 := cell_later hSw k1; have z2 := cell_later hSw k2; have z3 := cell_later hSw k3; have z4 := cell_later hSw k4; have z5 := cell_later hSw k5; clear hSw; go_simp; try with_reducible rfl)
              case' rest1rx22 => (try simp only [Act.put, List.setIfInBounds_toArray, List.set_cons_zero, List.set_cons_succ])
              refine wpAnyH_done (by kernel_rfl) ?_ _
              rw [HN.out, HSO.out]
              have hS := hHeld
              have b0 := cell_later hS k0
              have b1 := cell_later hS k1
              have HCS := hid (grew HBX.out hS)
              have HSS := HSB.later HCS.out
              have HHS := HCS
              clear hHeld k0 k1 k2 k3 k4 k5 hS
              by_cases h2 : 2 < h.length
              · have hd2 : decide (2 < (h.length : Int)) = true := decide_eq_true (by omega)
                have hn1 := HT.out h2
                subst hn1
                go_wp2_with (go_at_call 17; refine (hasPoint_c s x0 y0 _ _ _ _ rfl hsm HSS.at HM.out).mono ?_; rintro e w9 ⟨rfl, hb9⟩)
                go_roundw
                case rel => exact ⟨k + 1, by omega, by go_num, grew HCS.out hb9⟩
                case measure => simp [intOf]; omega
              · have hd2 : decide (2 < (h.length : Int)) = false := decide_eq_false (by omega)
                go_wp2_with (go_at_call 17; refine (hasPoint_c s x0 y0 _ _ _ _ rfl hsm HSS.at HM.out).mono ?_; rintro e w9 ⟨rfl, hb9⟩)
                go_roundw
                case rel => exact ⟨k + 1, by omega, by go_num, grew HCS.out hb9⟩
                case measure => simp [intOf]; omega
            · obtain rfl : k = h.length := by omega
              have hcz := grew hcB.out hbr
              clear hbr
              go_upto_region 30 with fail
              have tq : True := trivial
              go_wp2_with (first
                | (go_at_call 18; refine (drawIsHull_c _ _ _ wr ((HB1.out.below hcz).mono hcz.size) l1).mono ?_; rintro e wj ⟨vj, uj, rfl, lj, mj, hoj, hlj, ⟨cj, cpj, rfl, hmj⟩, hnj, hbj⟩; obtain ⟨aj, pj, hvj⟩ := hoj.shape; subst hvj; have hcj := grew hcz hbj)
                | (go_at_call 13; refine (isHullImpl_c lj mj _ _ _ _ _ _ wj rfl rfl (by omega) (by omega) hoj.fit hoj.at hmj (cell_later hcj C0.out)).mono ?_; rintro e wk ⟨rfl, hbk⟩; have hck := grew hcj hbk)
                | (go_at_call 19; refine (isHullSpec_c lj mj _ _ _ _ _ _ wk rfl rfl (by omega) (by omega) hoj.fit (hoj.later hbk).at ((hmj.later hbk).mono hbk.size)).mono ?_; rintro e wl ⟨rfl, hbl⟩; have hcl := grew hck hbl)
                | (go_at_call 20; refine (drawGoodHull_c _ _ _ wl ((HB1.out.below hcl).mono hcl.size) l1).mono ?_; rintro e wm ⟨vm, rfl, lm, hom, hlm, hbm⟩; obtain ⟨am, pm, hvm⟩ := hom.shape; subst hvm; have hcm := grew hcl hbm)
                | (go_at_call 14; refine (goodHullImpl_c lm _ _ _ wm rfl (by omega) hom.at (cell_later hcm C0.out)).mono ?_; rintro e wn ⟨rfl, hbn⟩; have hcn := grew hcm hbn)
                | (go_at_call 21; refine (goodHullSpec_c lm _ _ _ wn rfl (by omega) (hom.later hbn).at).mono ?_; rintro e wo ⟨rfl, hbo⟩))
              all_goals go_ret
              all_goals exact ⟨rfl, grew hcn hbo⟩
  · go_enter Tryz.func3, Tryz.ntmps3
    go_wp2_with (go_at_call 4; refine (big_t _ _ _ _ _ _ _ m0 m1 (by omega)).mono ?_; rintro e w' ⟨rfl, rfl⟩)
    go_ret
    exact ⟨rfl, by go_grown⟩
end Go.Proofs.YtcghpepkphphbaaGreatDoor
