/-
  The walk of the law FnNear.
  Conditions: as the theorems state them.
-/
import Derived.Test.YtipiamhnngmjmaaDoorNeDr
import Derived.Test.YtipiamhnngmjmaaDoorNeLaw
import Derived.Test.YtipiamhnngmjmaaDoorNr6
import Derived.Test.YtipiamhnngmjmaaDoorHHull
namespace Go.Proofs.YtipiamhnngmjmaaDoor
open Go.RowKit Go.Shelf
set_option linter.unusedVariables false
set_option maxRecDepth 8000
theorem eq_pt (p0 p1 f0 f1 : Int) (w : World) : (binOp .eql 26 (.agg #[.int .i64 p0, .int .i64 p1]) (.agg #[.int .i64 f0, .int .i64 f1])).run Tryd.prog w = .ok (.bool (p0 == f0 && p1 == f1)) w := by
  cases h0 : (p0 == f0) <;> cases h1 : (p1 == f1) <;> go_simp
theorem eqIn_pt (p0 p1 f0 f1 : Int) (w : World) : (Op.equalIn 10000 26 (.agg #[.int .i64 p0, .int .i64 p1]) (.agg #[.int .i64 f0, .int .i64 f1])).run Tryd.prog w = .ok (p0 == f0 && p1 == f1) w := by
  cases h0 : (p0 == f0) <;> cases h1 : (p1 == f1) <;> go_simp
theorem eq_ptB {p0 p1 f0 f1 : Int} {b : Bool} (h : (p0 == f0 && p1 == f1) = b) : (∀ w, (binOp .eql 26 (.agg #[.int .i64 p0, .int .i64 p1]) (.agg #[.int .i64 f0, .int .i64 f1])).run Tryd.prog w = .ok (.bool b) w) ∧ ∀ w, (Op.equalIn 10000 26 (.agg #[.int .i64 p0, .int .i64 p1]) (.agg #[.int .i64 f0, .int .i64 f1])).run Tryd.prog w = .ok b w :=
  ⟨fun w => by rw [eq_pt, h], fun w => by rw [eqIn_pt, h]⟩
theorem big_c (a0 : Option Addr) (len0 cap0 : Nat) (a1 : Option Addr) (len1 cap1 : Nat) (w : World) (h : len0 + len1 ≤ 1048576) :
    Calls Tryd.prog 36 #[.slice a0 len0 cap0, .slice a1 len1 cap1] w fun e w' => e = .returned (.bool false) ∧ w = w' := by
  have h0 : ¬ (1048576 : Int) < (len0 : Int) := by omega
  have h1 : ¬ (1048576 : Int) - (len0 : Int) < (len1 : Int) := by omega
  go_enter Tryd.func36, Tryd.ntmps36
  go_wp2
  go_ret
  exact ⟨rfl, rfl⟩
theorem big_t (a0 : Option Addr) (len0 cap0 : Nat) (a1 : Option Addr) (len1 cap1 : Nat) (w : World) (m0 : len0 ≤ maxLen) (m1 : len1 ≤ maxLen) (h : ¬ len0 + len1 ≤ 1048576) :
    Calls Tryd.prog 36 #[.slice a0 len0 cap0, .slice a1 len1 cap1] w fun e w' => e = .returned (.bool true) ∧ w = w' := by
  unfold maxLen at m0 m1
  by_cases h0 : (1048576 : Int) < (len0 : Int)
  · go_enter Tryd.func36, Tryd.ntmps36
    go_wp2
    go_ret
    exact ⟨rfl, rfl⟩
  · have h1 : (1048576 : Int) - (len0 : Int) < (len1 : Int) := by omega
    go_enter Tryd.func36, Tryd.ntmps36
    go_wp2
    go_ret
    exact ⟨rfl, rfl⟩
set_option maxRecDepth 8000 in
set_option maxHeartbeats 16000000 in
theorem near_walk (a0 : Option Addr) (len0 cap0 : Nat) (a1 : Option Addr) (len1 cap1 : Nat) (w : World) (B0 : Bytes w.heap.size a0 len0 w) (B1 : Bytes w.heap.size a1 len1 w) (m0 : len0 ≤ maxLen) (m1 : len1 ≤ maxLen) (c0 : w.cell? ⟨0, 0, none⟩ = some (.int .i64 1000000)) :
    Calls Tryd.prog 10 #[.slice a0 len0 cap0, .slice a1 len1 cap1] w fun e w' => e = .returned (.bool true) ∧ Below w.heap.size w w' := by
  have C0 := hid c0
  have HB0 := hid B0
  have HB1 := hid B1
  clear c0 B0 B1
  by_cases hl : len0 + len1 ≤ 1048576
  · have l0 : len0 ≤ 1048576 := by omega
    have l1 : len1 ≤ 1048576 := by omega
    clear m0 m1
    go_enter Tryd.func10, Tryd.ntmps10
    go_upto_region 4 with (first
      | (go_at_call 36; refine (big_c _ _ _ _ _ _ _ hl).mono ?_; rintro e w' ⟨rfl, rfl⟩)
      | (go_at_call 37; refine (drawNear_c _ _ _ _ HB0.out l0).mono ?_; rintro e w1 ⟨v1, rfl, s, hos, hs13, hcA⟩; obtain ⟨av, ps, hvs⟩ := hos.shape; subst hvs))
    replace hos := hos.mono (Nat.zero_le _)
    have HFT := hid hos.fit
    have hsm : s.length ≤ 1048576 := by omega
    obtain ⟨⟨⟨e0, e1⟩, e2, e3⟩, hE⟩ : ∃ e, bsV 1 s = e := ⟨_, rfl⟩
    obtain ⟨⟨⟨f0, f1⟩, f2, f3⟩, hF⟩ : ∃ e, bsV (-1) s = e := ⟨_, rfl⟩
    obtain ⟨n, hn⟩ : ∃ n, nhV s = n := ⟨_, rfl⟩
    have HE := hid hE
    have HF := hid hF
    have HNN := hid hn
    clear hE hF hn
    obtain ⟨bo, hbo⟩ : ∃ b, bsOk s = b := ⟨_, rfl⟩
    have HD := hid hbo
    clear hbo
    go_upto_region 5 with (go_at_call 18; refine (nearestImpl_c s _ _ _ w1 rfl hsm HFT.out hos.at (cell_later hcA C0.out)).mono ?_; rw [HE.out, HD.out]; rintro e w2 ⟨rfl, hb2⟩; replace hos := hos.later hb2; replace hcA := grew hcA hb2; clear hb2)
    have K6 := (BoxP.new w2 e0 e1).later ((Below.refl _ (w2.alloc (.cells #[.int .i64 e0, .int .i64 e1] 26))).alloc (Nat.le_refl _) (.cells #[.int .i64 e2, .int .i64 e3] 26))
    have K7 := BoxP.new (w2.alloc (.cells #[.int .i64 e0, .int .i64 e1] 26)) e2 e3
    simp only [World.size_alloc] at K7
    have hbx : Below w2.heap.size w2 ((w2.alloc (.cells #[.int .i64 e0, .int .i64 e1] 26)).alloc (.cells #[.int .i64 e2, .int .i64 e3] 26)) := by go_grown
    replace hos := hos.later hbx
    replace hcA := grew hcA hbx
    clear hbx
    generalize w2.heap.size + 1 = BK7 at K7 ⊢
    generalize w2.heap.size = BK6 at K6 ⊢
    generalize (w2.alloc (.cells #[.int .i64 e0, .int .i64 e1] 26)).alloc (.cells #[.int .i64 e2, .int .i64 e3] 26) = wA at K6 K7 hcA hos ⊢
    go_upto_region 6 with (go_at_call 16; refine (nearestSpec_c s _ _ _ wA rfl hsm HFT.out hos.at).mono ?_; rw [HE.out, HD.out]; rintro e w3 ⟨rfl, hb3⟩; replace hos := hos.later hb3; replace K6 := K6.later hb3; replace K7 := K7.later hb3; replace hcA := grew hcA hb3; clear hb3)
    have K9 := (BoxP.new w3 e0 e1).later ((Below.refl _ (w3.alloc (.cells #[.int .i64 e0, .int .i64 e1] 26))).alloc (Nat.le_refl _) (.cells #[.int .i64 e2, .int .i64 e3] 26))
    have K10 := BoxP.new (w3.alloc (.cells #[.int .i64 e0, .int .i64 e1] 26)) e2 e3
    simp only [World.size_alloc] at K10
    have hbx : Below w3.heap.size w3 ((w3.alloc (.cells #[.int .i64 e0, .int .i64 e1] 26)).alloc (.cells #[.int .i64 e2, .int .i64 e3] 26)) := by go_grown
    replace hos := hos.later hbx
    replace K6 := K6.later hbx
    replace K7 := K7.later hbx
    replace hcA := grew hcA hbx
    clear hbx
    generalize w3.heap.size + 1 = BK10 at K10 ⊢
    generalize w3.heap.size = BK9 at K9 ⊢
    generalize (w3.alloc (.cells #[.int .i64 e0, .int .i64 e1] 26)).alloc (.cells #[.int .i64 e2, .int .i64 e3] 26) = wB at K9 K10 hcA hos K6 K7 ⊢
    go_upto_region 7 with (go_at_call 24; refine (farthestImpl_c s _ _ _ wB rfl hsm HFT.out hos.at (cell_later hcA C0.out)).mono ?_; rw [HF.out, HD.out]; rintro e w4 ⟨rfl, hb4⟩; replace hos := hos.later hb4; replace K6 := K6.later hb4; replace K7 := K7.later hb4; replace K9 := K9.later hb4; replace K10 := K10.later hb4; replace hcA := grew hcA hb4; clear hb4)
    have K12 := (BoxP.new w4 f0 f1).later ((Below.refl _ (w4.alloc (.cells #[.int .i64 f0, .int .i64 f1] 26))).alloc (Nat.le_refl _) (.cells #[.int .i64 f2, .int .i64 f3] 26))
    have K13 := BoxP.new (w4.alloc (.cells #[.int .i64 f0, .int .i64 f1] 26)) f2 f3
    simp only [World.size_alloc] at K13
    have hbx : Below w4.heap.size w4 ((w4.alloc (.cells #[.int .i64 f0, .int .i64 f1] 26)).alloc (.cells #[.int .i64 f2, .int .i64 f3] 26)) := by go_grown
    replace hos := hos.later hbx
    replace K6 := K6.later hbx
    replace K7 := K7.later hbx
    replace K9 := K9.later hbx
    replace K10 := K10.later hbx
    replace hcA := grew hcA hbx
    clear hbx
    generalize w4.heap.size + 1 = BK13 at K13 ⊢
    generalize w4.heap.size = BK12 at K12 ⊢
    generalize (w4.alloc (.cells #[.int .i64 f0, .int .i64 f1] 26)).alloc (.cells #[.int .i64 f2, .int .i64 f3] 26) = wC at K12 K13 hcA hos K6 K7 K9 K10 ⊢
    go_upto_region 8 with (go_at_call 23; refine (farthestSpec_c s _ _ _ wC rfl hsm HFT.out hos.at).mono ?_; rw [HF.out, HD.out]; rintro e w5 ⟨rfl, hb5⟩; replace hos := hos.later hb5; replace K6 := K6.later hb5; replace K7 := K7.later hb5; replace K9 := K9.later hb5; replace K10 := K10.later hb5; replace K12 := K12.later hb5; replace K13 := K13.later hb5; replace hcA := grew hcA hb5; clear hb5)
    have K15 := (BoxP.new w5 f0 f1).later ((Below.refl _ (w5.alloc (.cells #[.int .i64 f0, .int .i64 f1] 26))).alloc (Nat.le_refl _) (.cells #[.int .i64 f2, .int .i64 f3] 26))
    have K16 := BoxP.new (w5.alloc (.cells #[.int .i64 f0, .int .i64 f1] 26)) f2 f3
    simp only [World.size_alloc] at K16
    have hbx : Below w5.heap.size w5 ((w5.alloc (.cells #[.int .i64 f0, .int .i64 f1] 26)).alloc (.cells #[.int .i64 f2, .int .i64 f3] 26)) := by go_grown
    replace hos := hos.later hbx
    replace K6 := K6.later hbx
    replace K7 := K7.later hbx
    replace K9 := K9.later hbx
    replace K10 := K10.later hbx
    replace K12 := K12.later hbx
    replace K13 := K13.later hbx
    replace hcA := grew hcA hbx
    clear hbx
    generalize w5.heap.size + 1 = BK16 at K16 ⊢
    generalize w5.heap.size = BK15 at K15 ⊢
    generalize (w5.alloc (.cells #[.int .i64 f0, .int .i64 f1] 26)).alloc (.cells #[.int .i64 f2, .int .i64 f3] 26) = wE at K15 K16 hcA hos K6 K7 K9 K10 K12 K13 ⊢
    go_upto_region 10 with (first
      | (go_at_call 22; refine (halfNearImpl_c s _ _ _ wE rfl hsm HFT.out hos.at (cell_later hcA C0.out)).mono ?_; rw [HNN.out, HD.out]; rintro e w6 ⟨rfl, hb6⟩)
      | (go_at_call 21; refine (halfNearSpec_c s _ _ _ w6 rfl hsm HFT.out (hos.later hb6).at).mono ?_; rw [HNN.out, HD.out]; rintro e wD ⟨rfl, hb7⟩))
    have hb67 := grew hb6 hb7
    have K6 := K6.later hb67
    have K7 := K7.later hb67
    have K9 := K9.later hb67
    have K10 := K10.later hb67
    have K12 := K12.later hb67
    have K13 := K13.later hb67
    have K15 := K15.later hb67
    have K16 := K16.later hb67
    replace hos := hos.later hb67
    replace hcA := grew hcA hb67
    clear hb6 hb7 hb67
    have k6_0 := K6.c0
    have k6_1 := K6.c1
    have k7_0 := K7.c0
    have k7_1 := K7.c1
    have k9_0 := K9.c0
    have k9_1 := K9.c1
    have k10_0 := K10.c0
    have k10_1 := K10.c1
    have k12_0 := K12.c0
    have k12_1 := K12.c1
    have k13_0 := K13.c0
    have k13_1 := K13.c1
    have k15_0 := K15.c0
    have k15_1 := K15.c1
    have k16_0 := K16.c0
    have k16_1 := K16.c1
    cases bo
    · go_upto_region 43 with (go_at_call 40; refine (drawAcross_c _ _ _ wD ((HB1.out.below hcA).mono hcA.size) l1).mono ?_; rintro e wj ⟨vj, rfl, g, hog, hg25, hbj⟩; obtain ⟨aj, pj, hvj⟩ := hog.shape; subst hvj; have hcj := grew hcA hbj)
      have hgm : g.length ≤ 1048576 := by omega
      obtain ⟨bg, hbg⟩ : ∃ b, acOk g = b := ⟨_, rfl⟩
      have HBG := hid hbg
      clear hbg
      go_wp2_with (first
        | (go_at_call 26; refine (acrossOfImpl_c g _ _ _ _ rfl hgm hog.at (cell_later hcj C0.out)).mono ?_; rw [HBG.out]; rintro e w31 ⟨v31, vs31, rfl, ho31, hb31⟩; obtain ⟨a31, p31, hv31⟩ := ho31.shape; subst hv31; have hc31 := grew hcj hb31)
        | (go_at_call 25; refine (acrossOfSpec_c g _ _ _ w31 rfl hgm (hog.later hb31).at).mono ?_; rw [HBG.out]; rintro e w32 ⟨v32, vs32, rfl, ho32, hb32⟩; obtain ⟨a32, p32, hv32⟩ := ho32.shape; subst hv32; have hc32 := grew hc31 hb32; have hq31 := ho31.later hb32)
        | (go_at_call 41; refine (sameLists_c (acV g) _ _ _ _ _ w32 rfl (Nat.le_trans (acV_len g) (by omega)) (fun i hi => Nat.le_trans (acV_nth g hi) (by omega)) hq31.at ho32.at).mono ?_; rintro e w33 ⟨rfl, hb33⟩; have hc33 := grew hc32 hb33))
      go_ret
      exact ⟨rfl, hc33⟩
    · obtain ⟨⟨hA1, hV1, hA2, hV2⟩, hP, hGd, hKC, hKD, hHt⟩ := near_law HD.out hs13 HE.out HF.out
      rw [HNN.out] at hV1 hV2
      rw [HNN.out] at hP
      obtain ⟨m, hm⟩ : ∃ m, apV f0 f1 f2 f3 = m := ⟨_, rfl⟩
      rw [hm] at hV2 hP
      obtain ⟨h, hh⟩ : ∃ h, hulL s = h := ⟨_, rfl⟩
      have hhm : h.length ≤ 1048576 := by rw [← hh]; exact hulL_len s hsm
      rw [hh] at hKC hKD hHt
      have hSH : ∀ k, k < (acV h).length → ∃ a b : Nat, nthI (acV h) k = [(a : Int), (b : Int)] ∧ a < b ∧ b < h.length := fun k hk => acV_shape hk
      obtain ⟨ab, hab⟩ : ∃ b, acOk h = b := ⟨_, rfl⟩
      obtain ⟨L, hL⟩ : ∃ L, acV h = L := ⟨_, rfl⟩
      have hL4 : L.length ≤ 4000 := by rw [← hL]; exact acV_len h
      rw [hL] at hSH hHt
      rw [hab] at hHt
      have HMET : Hid ((!ab) = true ∨ ∃ k, 0 ≤ k ∧ k < L.length ∧ Hit L h (f0, f1) (f2, f3) k) := by
        cases ab
        · exact .inl rfl
        · obtain ⟨k, h1, h2⟩ := hHt rfl
          exact .inr ⟨k, Nat.zero_le _, h1, h2⟩
      have HSH := hid hSH
      have HAB := hid hab
      have HL := hid hL
      have HH := hid hh
      have HGD := hid hGd
      have HKC := hid hKC
      have HKD := hid hKD
      have HP := hid hP
      have HA1 := hid hA1
      have HV1 := hid hV1
      have HA2 := hid hA2
      have HM := hid hm
      have hlt : decide (m < n) = false := decide_eq_false (by omega)
      have hlt2 : ¬ m < n := by omega
      have hps : s.length ≤ ps := by
        rcases HFT.out with ⟨_, h1, h2⟩ | ⟨_, h1, _⟩
        · omega
        · exact h1
      clear hHt hSH hab hL hh hGd hKC hKD hP hA1 hV1 hA2 hm hV2
      have tk1 : True := trivial
      go_upto_region 17 with (first
        | (go_at_call 14; clear tk1; refine (apartOfImpl_c e0 e1 e2 e3 wD (cell_later hcA C0.out)).mono ?_; rw [HV1.out, HA1.out]; rintro e w7 ⟨rfl, hb7⟩; have hc7 := grew hcA hb7; have x0 := cell_later hb7 k12_0; have x1 := cell_later hb7 k12_1; have x2 := cell_later hb7 k13_0; have x3 := cell_later hb7 k13_1)
        | (go_at_call 14; refine (apartOfImpl_c f0 f1 f2 f3 w7 (cell_later hc7 C0.out)).mono ?_; rw [HM.out, HA2.out]; rintro e w8 ⟨rfl, hb8⟩))
      have hb78 := grew hb7 hb8
      have HSD := hid (hos.later hb78)
      have HK12 := hid (K12.later hb78)
      have HK13 := hid (K13.later hb78)
      have HCD := hid (grew hcA hb78)
      clear hos K6 K7 K9 K10 K12 K13 K15 K16 hcA hc7 hb7 hb8 hb78 x0 x1 x2 x3 k6_0 k6_1 k7_0 k7_1 k9_0 k9_1 k10_0 k10_1 k12_0 k12_1 k13_0 k13_1 k15_0 k15_1 k16_0 k16_1
      generalize w8 = wD' at *
      go_wp2
      go_loopw [162] (fun si wr => ∃ i : Nat, i ≤ s.length ∧ si = .int .i64 i ∧ Below wD'.heap.size wD' wr) (fun si _ => s.length - (intOf si).toNat)
      case atStart => exact ⟨0, Nat.zero_le _, rfl, Below.refl _ _⟩
      case round =>
        obtain ⟨i, hi, rfl, hbi⟩ := hrel
        by_cases hil : i < s.length
        · obtain ⟨b, off, ex, hbN, g0, g1⟩ := ((HSD.out.at.later hbi).mono hbi.size) i hil
          subst ex
          obtain ⟨ux, hx⟩ : ∃ u, px s i = u := ⟨_, rfl⟩
          obtain ⟨uy, hy⟩ : ∃ u, py s i = u := ⟨_, rfl⟩
          have HPI : Hid (∀ j, j < i → apOk ux uy (px s j) (py s j) = true ∧ n ≤ apV ux uy (px s j) (py s j) ∧ apV ux uy (px s j) (py s j) ≤ m) := by
            rw [← hx, ← hy]; exact fun j hji => HP.out i j hji hil
          rw [hx] at g0
          rw [hy] at g1
          have hbo := hbi
          have hci := grew HCD.out hbi
          have i0 : (0 : Int) ≤ (i : Int) := by omega
          have i1 : (i : Int) < (s.length : Int) := by omega
          have i2 : (i : Int) ≤ (ps : Int) := by omega
          have hip : i ≤ ps := by omega
          clear hx hy hbi
          go_upto_region 20 with fail
          have K27 := BoxP.new wr ux uy
          have hbx : Below wr.heap.size wr (wr.alloc (.cells #[.int .i64 ux, .int .i64 uy] 26)) := by go_grown
          replace hci := grew hci hbx
          replace hbo := grew hbo hbx
          clear hbx
          generalize wr.heap.size = B27 at K27 ⊢
          generalize wr.alloc (.cells #[.int .i64 ux, .int .i64 uy] 26) = wq at K27 hci hbo  ⊢
          have HAQ := hid ((HSD.out.later hbo).at)
          have HK27 := hid K27
          have HCI := hid hci
          clear g0 g1 K27 hci
          go_wp2
          go_loopw [171] (fun sj wr => ∃ j : Nat, j ≤ i ∧ sj = .int .i64 j ∧ Below wq.heap.size wq wr) (fun sj _ => i - (intOf sj).toNat)
          case atStart => exact ⟨0, Nat.zero_le _, rfl, Below.refl _ _⟩
          case round =>
            obtain ⟨j, hj, rfl, hbj⟩ := hrel
            by_cases hjl : j < i
            · obtain ⟨b2, off2, ex2, _, g0, g1⟩ := HAQ.out j (by omega)
              obtain ⟨rfl, rfl⟩ : b = b2 ∧ off = off2 := by simp at ex2; exact ex2
              obtain ⟨ho, hlo, hhi⟩ := HPI.out j hjl
              obtain ⟨vx, hvx⟩ : ∃ u, px s j = u := ⟨_, rfl⟩
              obtain ⟨vy, hvy⟩ : ∃ u, py s j = u := ⟨_, rfl⟩
              rw [hvx] at g0
              rw [hvy] at g1
              rw [hvx, hvy] at ho hlo hhi
              obtain ⟨z, hz⟩ : ∃ z, apV ux uy vx vy = z := ⟨_, rfl⟩
              rw [hz] at hlo hhi
              have HZ := hid hz
              have HO := hid ho
              have z1 : decide (z < n) = false := decide_eq_false (by omega)
              have z2 : decide (m < z) = false := decide_eq_false (by omega)
              have z3 : ¬ z < n := by omega
              have z4 : ¬ m < z := by omega
              replace g0 := cell_later hbj g0
              replace g1 := cell_later hbj g1
              have K27 := HK27.out.later hbj
              have hcj := grew HCI.out hbj
              have j0 : (0 : Int) ≤ (j : Int) := by omega
              have j1 : (j : Int) < (i : Int) := by omega
              clear hvx hvy hz ho hlo hhi
              go_upto_region 23 with fail
              have K29 := BoxP.new wr vx vy
              have hbx : Below wr.heap.size wr (wr.alloc (.cells #[.int .i64 vx, .int .i64 vy] 26)) := by go_grown
              replace K27 := K27.later hbx
              replace hcj := grew hcj hbx
              replace hbj := grew hbj hbx
              clear hbx
              generalize wr.heap.size = B29 at K29 ⊢
              generalize wr.alloc (.cells #[.int .i64 vx, .int .i64 vy] 26) = wz at K29 hcj hbj K27 ⊢
              have x00 := K27.c0
              have x01 := K27.c1
              have x10 := K29.c0
              have x11 := K29.c1
              go_wp2_with (go_at_call 14; refine (apartOfImpl_c ux uy vx vy wz (cell_later hcj C0.out)).mono ?_; rw [HZ.out, HO.out]; rintro e w9 ⟨rfl, hb9⟩)
              go_roundw
              case rel => exact ⟨j + 1, by omega, by go_num, grew hbj hb9⟩
              case measure => simp [intOf]; omega
            · obtain rfl : i = j := by omega
              go_wp2
              go_roundw
              case rel => exact ⟨i + 1, by omega, by go_num, grew hbo hbj⟩
              case measure => simp [intOf]; omega
        · obtain rfl : i = s.length := by omega
          have hci := grew HCD.out hbi
          have HAS := hid ((HSD.out.later hbi).at)
          have tk7 : True := trivial
          go_upto_region 30 with (first
            | (go_at_call 38; refine (hullImpl_c s _ _ _ _ rfl hsm HAS.out (cell_later hci C0.out)).mono ?_; rw [HGD.out, HH.out]; rintro e w20 ⟨v20, rfl, ho20, hb20⟩; obtain ⟨a20, p20, hv20⟩ := ho20.shape; subst hv20; have hc20 := grew hci hb20)
            | (go_at_call 26; refine (acrossOfImpl_c h _ _ _ w20 rfl hhm ho20.at (cell_later hc20 C0.out)).mono ?_; rw [HAB.out, HL.out]; rintro e w21 ⟨v21, vs21, rfl, ho21, hb21⟩; obtain ⟨a21, p21, hv21⟩ := ho21.shape; subst hv21; have hc21 := grew hc20 hb21))
          have K12 := (HK12.out.later hbi).later (grew hb20 hb21)
          have K13 := (HK13.out.later hbi).later (grew hb20 hb21)
          replace ho20 := ho20.later hb21
          have y00 := K12.c0
          have y01 := K12.c1
          have y10 := K13.c0
          have y11 := K13.c1
          go_upto_region 33 with (first
            | (go_at_call 39; clear tk7; refine (hasPoint_d h f0 f1 _ _ _ w21 rfl hhm ho20.at).mono ?_; rw [decide_eq_true HKC.out]; rintro e w22 ⟨rfl, hb22⟩; have y2 := cell_later hb22 y10; have y3 := cell_later hb22 y11)
            | (go_at_call 39; refine (hasPoint_d h f2 f3 _ _ _ w22 rfl hhm (ho20.later hb22).at).mono ?_; rw [decide_eq_true HKD.out]; rintro e wL ⟨rfl, hb23⟩))
          have hb2 := grew hb22 hb23
          clear HK12 HK13
          have HK12 := hid (K12.later hb2)
          have HK13 := hid (K13.later hb2)
          have HHA := hid (ho20.later hb2).at
          have HIS := hid (ho21.later hb2).at
          have HCL := hid (grew hc21 hb2)
          clear y00 y01 y10 y11 y2 y3 K12 K13 ho20 ho21 hc20 hc21 hb20 hb21 hb22 hb23 hb2 hbi hci HAS
          go_wp2
          go_loopw [36, 223] (fun sm sk wr => ∃ (j : Nat) (M : Bool), j ≤ L.length ∧ sm = .bool M ∧ sk = .int .i64 j ∧ (M = true ∨ ∃ k, j ≤ k ∧ k < L.length ∧ Hit L h (f0, f1) (f2, f3) k) ∧ Below wL.heap.size wL wr) (fun _ sk _ => L.length - (intOf sk).toNat)
          case atStart => exact ⟨0, !ab, Nat.zero_le _, rfl, rfl, HMET.out, Below.refl _ _⟩
          case round =>
            obtain ⟨j, M, hj, rfl, rfl, hmet, hbl⟩ := hrel
            by_cases hjl : j < L.length
            · obtain ⟨bo, oo, ai, ci, exo, _, g0, i0⟩ := HIS.out j hjl
              subst exo
              obtain ⟨x, y, hn, hxy, hyh⟩ := HSH.out j hjl
              have HN := hid hn
              rw [hn] at g0 i0
              obtain ⟨bi, oi, exi, _, t0⟩ := i0 0 (by simp)
              subst exi
              obtain ⟨bi2, oi2, exi2, _, t1⟩ := i0 1 (by simp)
              obtain ⟨rfl, rfl⟩ : bi = bi2 ∧ oi = oi2 := by simp at exi2; exact exi2
              have t0 : wL.cell? ⟨bi, oi, none⟩ = some (.int .i64 (x : Int)) := t0
              have t1 : wL.cell? ⟨bi, oi + 1, none⟩ = some (.int .i64 (y : Int)) := t1
              have g0 : wL.cell? ⟨bo, oo + j, none⟩ = some (.slice (some ⟨bi, oi, none⟩) 2 ci) := g0
              obtain ⟨bh, oh, exh, _, u0, u1⟩ := HHA.out x (by omega)
              subst exh
              obtain ⟨bh2, oh2, exh2, _, u2, u3⟩ := HHA.out y hyh
              obtain ⟨rfl, rfl⟩ : bh = bh2 ∧ oh = oh2 := by simp at exh2; exact exh2
              obtain ⟨p0, hp0⟩ : ∃ u, px h x = u := ⟨_, rfl⟩
              obtain ⟨p1, hp1⟩ : ∃ u, py h x = u := ⟨_, rfl⟩
              obtain ⟨q0, hq0⟩ : ∃ u, px h y = u := ⟨_, rfl⟩
              obtain ⟨q1, hq1⟩ : ∃ u, py h y = u := ⟨_, rfl⟩
              have HPX : Hid (pt h x = (p0, p1)) := by rw [← hp0, ← hp1]; exact rfl
              have HPY : Hid (pt h y = (q0, q1)) := by rw [← hq0, ← hq1]; exact rfl
              rw [hp0] at u0
              rw [hp1] at u1
              rw [hq0] at u2
              rw [hq1] at u3
              replace g0 := cell_later hbl g0
              replace t0 := cell_later hbl t0
              replace t1 := cell_later hbl t1
              replace u0 := cell_later hbl u0
              replace u1 := cell_later hbl u1
              replace u2 := cell_later hbl u2
              replace u3 := cell_later hbl u3
              have y0 := cell_later hbl HK12.out.c0
              have y1 := cell_later hbl HK12.out.c1
              have y2 := cell_later hbl HK13.out.c0
              have y3 := cell_later hbl HK13.out.c1
              have d1 : decide ((x : Int) < 0) = false := decide_eq_false (by omega)
              have d2 : decide ((h.length : Int) ≤ (y : Int)) = false := decide_eq_false (by omega)
              have d3 : decide ((y : Int) ≤ (x : Int)) = false := decide_eq_false (by omega)
              have x0 : (0 : Int) ≤ (x : Int) := by omega
              have xl : (x : Int) < (h.length : Int) := by omega
              have y0' : (0 : Int) ≤ (y : Int) := by omega
              have yl : (y : Int) < (h.length : Int) := by omega
              have j0 : (0 : Int) ≤ (j : Int) := by omega
              have jl : (j : Int) < (L.length : Int) := by omega
              clear i0 hn hp0 hp1 hq0 hq1
              (try clear HSH); (try clear HIS); (try clear HHA); (try clear HK12); (try clear HK13); (try clear HP); (try clear HA1); (try clear HV1); (try clear HA2); (try clear HM); (try clear HNN); (try clear HE); (try clear HF); (try clear HD); (try clear HGD); (try clear HAB); (try clear HL); (try clear HH); (try clear HKC); (try clear HKD); (try clear HSD); (try clear HCL); (try clear HCD); (try clear HB0); (try clear HB1); (try clear C0); (try clear HFT); (try clear HMET); (try clear hlt); (try clear hlt2); (try clear hps); (try clear hs13); (try clear hsm); (try clear hhm); (try clear l0); (try clear l1); (try clear hl); (try clear hV1); (try clear hG); (try clear hV2); (try clear hcA); (try clear hci); (try clear hbi)
              go_wp2
              go_quiet (fail)
              clear d1 d2 d3
              go_wp2
              skip
              cases M
              · cases hA : (p0 == f0 && p1 == f1)
                · cases hC : (p0 == f2 && p1 == f3)
                  · have HNX : Hid (false = true ∨ ∃ k, j + 1 ≤ k ∧ k < L.length ∧ Hit L h (f0, f1) (f2, f3) k) := by
                      rcases hmet with h' | ⟨k, hk1, hk2, hk3⟩
                      · cases h'
                      · refine .inr ⟨k, ?_, hk2, hk3⟩
                        by_cases e : k = j
                        · exfalso
                          subst e
                          obtain ⟨a'', b'', hn2, hh⟩ := hk3
                          rw [HN.out] at hn2
                          have q1 : (x : Int) = (a'' : Int) := (List.cons.inj hn2).1
                          have q2 : (y : Int) = (b'' : Int) := (List.cons.inj (List.cons.inj hn2).2).1
                          obtain rfl : x = a'' := by omega
                          obtain rfl : y = b'' := by omega
                          rw [HPX.out, HPY.out] at hh
                          rcases hh with ⟨h1, h2⟩ | ⟨h1, h2⟩ <;> (cases h1; cases h2; simp at hA hC)
                        · omega
                    clear hmet
                    (try have HQA := eq_ptB hA)
                    (try have HQB := eq_ptB hB)
                    (try have HQC := eq_ptB hC)
                    (try have HQD := eq_ptB hD2)
                    (try obtain ⟨qa, qa'⟩ := HQA)
                    (try obtain ⟨qb, qb'⟩ := HQB)
                    (try obtain ⟨qc, qc'⟩ := HQC)
                    (try obtain ⟨qd, qd'⟩ := HQD)
                    go_quiet (fail)
                    go_wp2
                    go_roundw
                    case rel => exact ⟨j + 1, false, by omega, rfl, by go_num, HNX.out, grew hbl (by first | (go_grown; done) | (go_grown; exact drewN_below _ _))⟩
                    case measure => simp [intOf]; omega
                  · cases hD2 : (q0 == f0 && q1 == f1)
                    · have HNX : Hid (false = true ∨ ∃ k, j + 1 ≤ k ∧ k < L.length ∧ Hit L h (f0, f1) (f2, f3) k) := by
                        rcases hmet with h' | ⟨k, hk1, hk2, hk3⟩
                        · cases h'
                        · refine .inr ⟨k, ?_, hk2, hk3⟩
                          by_cases e : k = j
                          · exfalso
                            subst e
                            obtain ⟨a'', b'', hn2, hh⟩ := hk3
                            rw [HN.out] at hn2
                            have q1 : (x : Int) = (a'' : Int) := (List.cons.inj hn2).1
                            have q2 : (y : Int) = (b'' : Int) := (List.cons.inj (List.cons.inj hn2).2).1
                            obtain rfl : x = a'' := by omega
                            obtain rfl : y = b'' := by omega
                            rw [HPX.out, HPY.out] at hh
                            rcases hh with ⟨h1, h2⟩ | ⟨h1, h2⟩ <;> (cases h1; cases h2; simp at hA hD2)
                          · omega
                      clear hmet
                      (try have HQA := eq_ptB hA)
                      (try have HQB := eq_ptB hB)
                      (try have HQC := eq_ptB hC)
                      (try have HQD := eq_ptB hD2)
                      (try obtain ⟨qa, qa'⟩ := HQA)
                      (try obtain ⟨qb, qb'⟩ := HQB)
                      (try obtain ⟨qc, qc'⟩ := HQC)
                      (try obtain ⟨qd, qd'⟩ := HQD)
                      go_quiet (fail)
                      go_wp2
                      go_roundw
                      case rel => exact ⟨j + 1, false, by omega, rfl, by go_num, HNX.out, grew hbl (by first | (go_grown; done) | (go_grown; exact drewN_below _ _))⟩
                      case measure => simp [intOf]; omega
                    · clear hmet
                      (try have HQA := eq_ptB hA)
                      (try have HQB := eq_ptB hB)
                      (try have HQC := eq_ptB hC)
                      (try have HQD := eq_ptB hD2)
                      (try obtain ⟨qa, qa'⟩ := HQA)
                      (try obtain ⟨qb, qb'⟩ := HQB)
                      (try obtain ⟨qc, qc'⟩ := HQC)
                      (try obtain ⟨qd, qd'⟩ := HQD)
                      go_quiet (fail)
                      go_wp2
                      go_roundw
                      case rel => exact ⟨j + 1, true, by omega, rfl, by go_num, .inl rfl, grew hbl (by first | (go_grown; done) | (go_grown; exact drewN_below _ _))⟩
                      case measure => simp [intOf]; omega
                · cases hB : (q0 == f2 && q1 == f3)
                  · cases hC : (p0 == f2 && p1 == f3)
                    · have HNX : Hid (false = true ∨ ∃ k, j + 1 ≤ k ∧ k < L.length ∧ Hit L h (f0, f1) (f2, f3) k) := by
                        rcases hmet with h' | ⟨k, hk1, hk2, hk3⟩
                        · cases h'
                        · refine .inr ⟨k, ?_, hk2, hk3⟩
                          by_cases e : k = j
                          · exfalso
                            subst e
                            obtain ⟨a'', b'', hn2, hh⟩ := hk3
                            rw [HN.out] at hn2
                            have q1 : (x : Int) = (a'' : Int) := (List.cons.inj hn2).1
                            have q2 : (y : Int) = (b'' : Int) := (List.cons.inj (List.cons.inj hn2).2).1
                            obtain rfl : x = a'' := by omega
                            obtain rfl : y = b'' := by omega
                            rw [HPX.out, HPY.out] at hh
                            rcases hh with ⟨h1, h2⟩ | ⟨h1, h2⟩ <;> (cases h1; cases h2; simp at hB hC)
                          · omega
                      clear hmet
                      (try have HQA := eq_ptB hA)
                      (try have HQB := eq_ptB hB)
                      (try have HQC := eq_ptB hC)
                      (try have HQD := eq_ptB hD2)
                      (try obtain ⟨qa, qa'⟩ := HQA)
                      (try obtain ⟨qb, qb'⟩ := HQB)
                      (try obtain ⟨qc, qc'⟩ := HQC)
                      (try obtain ⟨qd, qd'⟩ := HQD)
                      go_quiet (fail)
                      go_wp2
                      go_roundw
                      case rel => exact ⟨j + 1, false, by omega, rfl, by go_num, HNX.out, grew hbl (by first | (go_grown; done) | (go_grown; exact drewN_below _ _))⟩
                      case measure => simp [intOf]; omega
                    · cases hD2 : (q0 == f0 && q1 == f1)
                      · have HNX : Hid (false = true ∨ ∃ k, j + 1 ≤ k ∧ k < L.length ∧ Hit L h (f0, f1) (f2, f3) k) := by
                          rcases hmet with h' | ⟨k, hk1, hk2, hk3⟩
                          · cases h'
                          · refine .inr ⟨k, ?_, hk2, hk3⟩
                            by_cases e : k = j
                            · exfalso
                              subst e
                              obtain ⟨a'', b'', hn2, hh⟩ := hk3
                              rw [HN.out] at hn2
                              have q1 : (x : Int) = (a'' : Int) := (List.cons.inj hn2).1
                              have q2 : (y : Int) = (b'' : Int) := (List.cons.inj (List.cons.inj hn2).2).1
                              obtain rfl : x = a'' := by omega
                              obtain rfl : y = b'' := by omega
                              rw [HPX.out, HPY.out] at hh
                              rcases hh with ⟨h1, h2⟩ | ⟨h1, h2⟩ <;> (cases h1; cases h2; simp at hB hD2)
                            · omega
                        clear hmet
                        (try have HQA := eq_ptB hA)
                        (try have HQB := eq_ptB hB)
                        (try have HQC := eq_ptB hC)
                        (try have HQD := eq_ptB hD2)
                        (try obtain ⟨qa, qa'⟩ := HQA)
                        (try obtain ⟨qb, qb'⟩ := HQB)
                        (try obtain ⟨qc, qc'⟩ := HQC)
                        (try obtain ⟨qd, qd'⟩ := HQD)
                        go_quiet (fail)
                        go_wp2
                        go_roundw
                        case rel => exact ⟨j + 1, false, by omega, rfl, by go_num, HNX.out, grew hbl (by first | (go_grown; done) | (go_grown; exact drewN_below _ _))⟩
                        case measure => simp [intOf]; omega
                      · clear hmet
                        (try have HQA := eq_ptB hA)
                        (try have HQB := eq_ptB hB)
                        (try have HQC := eq_ptB hC)
                        (try have HQD := eq_ptB hD2)
                        (try obtain ⟨qa, qa'⟩ := HQA)
                        (try obtain ⟨qb, qb'⟩ := HQB)
                        (try obtain ⟨qc, qc'⟩ := HQC)
                        (try obtain ⟨qd, qd'⟩ := HQD)
                        go_quiet (fail)
                        go_wp2
                        go_roundw
                        case rel => exact ⟨j + 1, true, by omega, rfl, by go_num, .inl rfl, grew hbl (by first | (go_grown; done) | (go_grown; exact drewN_below _ _))⟩
                        case measure => simp [intOf]; omega
                  · clear hmet
                    (try have HQA := eq_ptB hA)
                    (try have HQB := eq_ptB hB)
                    (try have HQC := eq_ptB hC)
                    (try have HQD := eq_ptB hD2)
                    (try obtain ⟨qa, qa'⟩ := HQA)
                    (try obtain ⟨qb, qb'⟩ := HQB)
                    (try obtain ⟨qc, qc'⟩ := HQC)
                    (try obtain ⟨qd, qd'⟩ := HQD)
                    go_quiet (fail)
                    go_wp2
                    go_roundw
                    case rel => exact ⟨j + 1, true, by omega, rfl, by go_num, .inl rfl, grew hbl (by first | (go_grown; done) | (go_grown; exact drewN_below _ _))⟩
                    case measure => simp [intOf]; omega
              · clear hmet
                (try have HQA := eq_ptB hA)
                (try have HQB := eq_ptB hB)
                (try have HQC := eq_ptB hC)
                (try have HQD := eq_ptB hD2)
                (try obtain ⟨qa, qa'⟩ := HQA)
                (try obtain ⟨qb, qb'⟩ := HQB)
                (try obtain ⟨qc, qc'⟩ := HQC)
                (try obtain ⟨qd, qd'⟩ := HQD)
                go_quiet (fail)
                go_wp2
                go_roundw
                case rel => exact ⟨j + 1, true, by omega, rfl, by go_num, .inl rfl, grew hbl (by first | (go_grown; done) | (go_grown; exact drewN_below _ _))⟩
                case measure => simp [intOf]; omega
            · obtain rfl : j = L.length := by omega
              have hM : M = true := by
                rcases hmet with h' | ⟨k, h1, h2, _⟩
                · exact h'
                · omega
              subst hM
              have hcl := grew HCL.out hbl
              clear hmet
              go_upto_region 43 with (go_at_call 40; refine (drawAcross_c _ _ _ wr ((HB1.out.below hcl).mono hcl.size) l1).mono ?_; rintro e wj ⟨vj, rfl, g, hog, hg25, hbj⟩; obtain ⟨aj, pj, hvj⟩ := hog.shape; subst hvj; have hcj := grew hcl hbj)
              have hgm : g.length ≤ 1048576 := by omega
              obtain ⟨bg, hbg⟩ : ∃ b, acOk g = b := ⟨_, rfl⟩
              have HBG := hid hbg
              clear hbg
              go_wp2_with (first
                | (go_at_call 26; refine (acrossOfImpl_c g _ _ _ _ rfl hgm hog.at (cell_later hcj C0.out)).mono ?_; rw [HBG.out]; rintro e w31 ⟨v31, vs31, rfl, ho31, hb31⟩; obtain ⟨a31, p31, hv31⟩ := ho31.shape; subst hv31; have hc31 := grew hcj hb31)
                | (go_at_call 25; refine (acrossOfSpec_c g _ _ _ w31 rfl hgm (hog.later hb31).at).mono ?_; rw [HBG.out]; rintro e w32 ⟨v32, vs32, rfl, ho32, hb32⟩; obtain ⟨a32, p32, hv32⟩ := ho32.shape; subst hv32; have hc32 := grew hc31 hb32; have hq31 := ho31.later hb32)
                | (go_at_call 41; refine (sameLists_c (acV g) _ _ _ _ _ w32 rfl (Nat.le_trans (acV_len g) (by omega)) (fun i hi => Nat.le_trans (acV_nth g hi) (by omega)) hq31.at ho32.at).mono ?_; rintro e w33 ⟨rfl, hb33⟩; have hc33 := grew hc32 hb33))
              go_ret
              exact ⟨rfl, hc33⟩
  · go_enter Tryd.func10, Tryd.ntmps10
    go_wp2_with (go_at_call 36; refine (big_t _ _ _ _ _ _ _ m0 m1 (by omega)).mono ?_; rintro e w' ⟨rfl, rfl⟩)
    go_ret
    exact ⟨rfl, by go_grown⟩
end Go.Proofs.YtipiamhnngmjmaaDoor
