/-
  The walk of the law FnNextTo.
  Conditions: as the theorems state them.
-/
import Derived.Test.YtipiamhnngmjmaaDoorDrNx
import Derived.Test.YtipiamhnngmjmaaDoorNxLaw
namespace Go.Proofs.YtipiamhnngmjmaaDoor
open Go.RowKit
set_option linter.unusedVariables false
set_option maxRecDepth 8000
set_option maxHeartbeats 2000000 in
theorem drawNext_c (a : Option Addr) (len cap : Nat) (w : World) (hB : Bytes w.heap.size a len w) (hl : len ≤ 1048576) :
    Calls Tryd.prog 42 #[.slice a len cap] w fun e w' => ∃ v x y, e = .returned (.tuple #[v, .agg #[.int .i64 x, .int .i64 y]]) ∧ ∃ l, Own w.heap.size v l w' ∧ l.length ≤ 13 ∧ Below w.heap.size w w' := by
  have HB := hid hB
  clear hB
  go_enter Tryd.func42, Tryd.ntmps42
  go_upto_region 1 with fail
  have K := BoxP.new w 0 0
  have hb : Below w.heap.size w (w.alloc (.cells #[.int .i64 0, .int .i64 0] 26)) := by go_grown
  have hs : (w.alloc (.cells #[.int .i64 0, .int .i64 0] 26)).heap.size = w.heap.size + 1 := by simp
  generalize w.alloc (.cells #[.int .i64 0, .int .i64 0] 26) = w0 at K hb hs ⊢
  go_wp2_with (go_at_call 69; refine (drawDepth_c _ _ _ w0 ((HB.out.below hb).mono hb.size) hl).mono ?_; rintro e w1 ⟨v1, x, y, rfl, l, ho1, hl1, hb1⟩; obtain ⟨a1, p1, hv1⟩ := ho1.shape; subst hv1; replace K := K.later hb1; replace hb := grew hb hb1; have c0 := K.c0; have c1 := K.c1; have f0 := K.f 0; have f1 := K.f 1)
  have Z := K.set x y
  have hz := (hb.setCell (p := ⟨w.heap.size, 0, none⟩) (Nat.le_refl _) (.int .i64 x)).setCell (p := ⟨w.heap.size, 1, none⟩) (Nat.le_refl _) (.int .i64 y)
  have hoz : Own (w.heap.size + 1) (.slice a1 l.length p1) l ((w1.setCell ⟨w.heap.size, 0, none⟩ (.int .i64 x)).setCell ⟨w.heap.size, 1, none⟩ (.int .i64 y)) := (ho1.mono (by omega)).only (((Only.refl w.heap.size w1).setCell (.inl rfl) _).setCell (.inl rfl) _) (Nat.lt_succ_self _)
  generalize (w1.setCell ⟨w.heap.size, 0, none⟩ (.int .i64 x)).setCell ⟨w.heap.size, 1, none⟩ (.int .i64 y) = wz at Z hz hoz ⊢
  have r0 := Z.c0
  have r1 := Z.c1
  refine bodyPost_ret (v := .tuple #[.slice a1 l.length p1, .agg #[.int .i64 x, .int .i64 y]]) (by simp [results, Tryd.results42, go_sem, r0, r1]) rfl ⟨_, _, _, rfl, l, hoz.mono (Nat.le_succ _), hl1, hz⟩
theorem big_c (a0 : Option Addr) (len0 cap0 : Nat) (a1 : Option Addr) (len1 cap1 : Nat) (w : World) (h : len0 + len1 ≤ 1048576) :
    Calls Tryd.prog 36 #[.slice a0 len0 cap0, .slice a1 len1 cap1] w fun e w' => e = .returned (.bool false) ∧ w = w' := by
  have h0 : ¬ (1048576 : Int) < (len0 : Int) := by omega
  have h1 : ¬ (1048576 : Int) - (len0 : Int) < (len1 : Int) := by omega
  go_enter Tryd.func36, Tryd.ntmps36
  go_wp2
  go_ret
  exact ⟨rfl, rfl⟩
theorem big_t (a0 : Option Addr) (len0 cap0 : Nat) (a1 : Option Addr) (len1 cap1 : Nat) (w : World) (m0 : len0 ≤ maxLen) (m1 : len1 ≤ maxLen) (h : ¬ len0 + len1 ≤ 1048576) :
    Calls Tryd.prog 36 #[.slice a0 len0 cap0, .slice a1 len1 cap1] w fun e w' => e = .returned (.bool true) ∧ w = w' := by
  unfold maxLen at m0 m1
  by_cases h0 : (1048576 : Int) < (len0 : Int)
  · go_enter Tryd.func36, Tryd.ntmps36
    go_wp2
    go_ret
    exact ⟨rfl, rfl⟩
  · have h1 : (1048576 : Int) - (len0 : Int) < (len1 : Int) := by omega
    go_enter Tryd.func36, Tryd.ntmps36
    go_wp2
    go_ret
    exact ⟨rfl, rfl⟩
set_option maxRecDepth 8000 in
set_option maxHeartbeats 16000000 in
theorem nextTo_walk (a0 : Option Addr) (len0 cap0 : Nat) (a1 : Option Addr) (len1 cap1 : Nat) (w : World) (B0 : Bytes w.heap.size a0 len0 w) (B1 : Bytes w.heap.size a1 len1 w) (m0 : len0 ≤ maxLen) (m1 : len1 ≤ maxLen) (c0 : w.cell? ⟨0, 0, none⟩ = some (.int .i64 1000000)) :
    Calls Tryd.prog 11 #[.slice a0 len0 cap0, .slice a1 len1 cap1] w fun e w' => e = .returned (.bool true) ∧ Below w.heap.size w w' := by
  have C0 := hid c0
  have HB0 := hid B0
  have HB1 := hid B1
  clear c0 B0 B1
  by_cases hl : len0 + len1 ≤ 1048576
  · have l0 : len0 ≤ 1048576 := by omega
    have l1 : len1 ≤ 1048576 := by omega
    clear m0 m1
    go_enter Tryd.func11, Tryd.ntmps11
    go_upto_region 4 with (first
      | (go_at_call 36; refine (big_c _ _ _ _ _ _ _ hl).mono ?_; rintro e w' ⟨rfl, rfl⟩)
      | (go_at_call 42; refine (drawNext_c _ _ _ _ HB0.out l0).mono ?_; rintro e w1 ⟨v1, x, y, rfl, s, hos, hs13, hcA⟩; obtain ⟨av, ps, hvs⟩ := hos.shape; subst hvs))
    replace hos := hos.mono (Nat.zero_le _)
    have K6 := BoxP.new w1 x y
    have hbx : Below w1.heap.size w1 (w1.alloc (.cells #[.int .i64 x, .int .i64 y] 26)) := by go_grown
    replace hos := hos.later hbx
    replace hcA := grew hcA hbx
    clear hbx
    generalize w1.heap.size = B6 at K6 ⊢
    generalize w1.alloc (.cells #[.int .i64 x, .int .i64 y] 26) = wA at K6 hcA hos ⊢
    have hsm : s.length ≤ 1048576 := by omega
    obtain ⟨⟨e0, e1⟩, hE⟩ : ∃ e, nxV s x y = e := ⟨_, rfl⟩
    have c60 := K6.c0
    have c61 := K6.c1
    cases hD : nxOk s x y
    all_goals go_upto_region 5 with (go_at_call 32; refine (nextImpl_c s x y _ _ _ wA rfl hsm hos.at (cell_later hcA C0.out)).mono ?_; rw [hE, hD]; rintro e w2 ⟨rfl, hb2⟩; replace hos := hos.later hb2; replace K6 := K6.later hb2; replace hcA := grew hcA hb2; clear hb2 c60 c61)
    all_goals
      have K7 := BoxP.new w2 e0 e1
      have hbx : Below w2.heap.size w2 (w2.alloc (.cells #[.int .i64 e0, .int .i64 e1] 26)) := by go_grown
      replace hos := hos.later hbx
      replace K6 := K6.later hbx
      replace hcA := grew hcA hbx
      clear hbx
      generalize w2.heap.size = B7 at K7 ⊢
      generalize w2.alloc (.cells #[.int .i64 e0, .int .i64 e1] 26) = wB at K7 hcA hos K6 ⊢
    all_goals have c60 := K6.c0
    all_goals have c61 := K6.c1
    all_goals go_upto_region 6 with (go_at_call 31; refine (nextSpec_c s x y _ _ _ wB rfl hsm hos.at).mono ?_; rw [hE, hD]; rintro e w3 ⟨rfl, hb3⟩; replace hos := hos.later hb3; replace K6 := K6.later hb3; replace K7 := K7.later hb3; replace hcA := grew hcA hb3; clear hb3 c60 c61)
    all_goals
      have K9 := BoxP.new w3 e0 e1
      have hbx : Below w3.heap.size w3 (w3.alloc (.cells #[.int .i64 e0, .int .i64 e1] 26)) := by go_grown
      replace hos := hos.later hbx
      replace K6 := K6.later hbx
      replace K7 := K7.later hbx
      replace hcA := grew hcA hbx
      clear hbx
      generalize w3.heap.size = B9 at K9 ⊢
      generalize w3.alloc (.cells #[.int .i64 e0, .int .i64 e1] 26) = wC at K9 hcA hos K6 K7 ⊢
    all_goals have c70 := K7.c0
    all_goals have c71 := K7.c1
    all_goals have c90 := K9.c0
    all_goals have c91 := K9.c1
    all_goals have c60 := K6.c0
    all_goals have c61 := K6.c1
    · go_upto_region 21 with (go_at_call 43; refine (drawWithin_c _ _ _ wC ((HB1.out.below hcA).mono hcA.size) l1).mono ?_; rintro e wj ⟨vj, tx, ty, tz, rfl, t, hot, htl, hbj⟩; obtain ⟨aj, pj, hvj⟩ := hot.shape; subst hvj; have hcj := grew hcA hbj)
      replace hot := hot.mono (Nat.zero_le _)
      have K20 := BoxP.new wj tx ty
      have hbx : Below wj.heap.size wj (wj.alloc (.cells #[.int .i64 tx, .int .i64 ty] 26)) := by go_grown
      replace hot := hot.later hbx
      replace hcj := grew hcj hbx
      clear hbx
      generalize wj.heap.size = B20 at K20 ⊢
      generalize wj.alloc (.cells #[.int .i64 tx, .int .i64 ty] 26) = wk at K20 hcj hot ⊢
      have htm : t.length ≤ 1048576 := by omega
      have a200 := K20.c0
      have a201 := K20.c1
      cases hW : wiOk t tx ty tz
      all_goals (
        have hmW : (wiV t tx ty tz).length ≤ 1048576 := Nat.le_trans (wiV_len _ _ _ _) htm
        go_upto_region 24 with (first
          | (go_at_call 34; refine (withinImpl_c t tx ty tz _ _ _ _ rfl htm hot.at (cell_later hcj C0.out)).mono ?_; rw [hW]; rintro e w21 ⟨v21, rfl, ho21, hb21⟩; obtain ⟨a21, p21, hv21⟩ := ho21.shape; subst hv21; have hc21 := grew hcj hb21; have z210 := cell_later hb21 a200; have z211 := cell_later hb21 a201)
          | (go_at_call 33; refine (withinSpec_c t tx ty tz _ _ _ w21 rfl htm (hot.later hb21).at).mono ?_; rw [hW]; rintro e w22 ⟨v22, rfl, ho22, hb22⟩; obtain ⟨a22, p22, hv22⟩ := ho22.shape; subst hv22; have hc22 := grew hc21 hb22; have hq21 := ho21.later hb22)
          | (go_at_call 44; refine (drawApart_c _ _ _ w22 ((HB1.out.below hc22).mono hc22.size) l1).mono ?_; rintro e w23 ⟨ax, ay, bx, b_y, rfl, hb23⟩; have hc23 := grew hc22 hb23; have hq21b := hq21.later hb23; have hq22 := ho22.later hb23))
        have K26 := (BoxP.new w23 ax ay).later ((Below.refl _ (w23.alloc (.cells #[.int .i64 ax, .int .i64 ay] 26))).alloc (Nat.le_refl _) (.cells #[.int .i64 bx, .int .i64 b_y] 26))
        have K27 := BoxP.new (w23.alloc (.cells #[.int .i64 ax, .int .i64 ay] 26)) bx b_y
        simp only [World.size_alloc] at K27
        have hbx : Below w23.heap.size w23 ((w23.alloc (.cells #[.int .i64 ax, .int .i64 ay] 26)).alloc (.cells #[.int .i64 bx, .int .i64 b_y] 26)) := by go_grown
        replace hc23 := grew hc23 hbx
        replace hq21b := hq21b.later hbx
        replace hq22 := hq22.later hbx
        clear hbx
        generalize w23.heap.size + 1 = B27 at K27 ⊢
        generalize w23.heap.size = B26 at K26 ⊢
        generalize (w23.alloc (.cells #[.int .i64 ax, .int .i64 ay] 26)).alloc (.cells #[.int .i64 bx, .int .i64 b_y] 26) = w24 at K26 K27 hc23 hq21b hq22 ⊢
        have y0 := K26.c0
        have y1 := K26.c1
        have y2 := K27.c0
        have y3 := K27.c1
        obtain ⟨va, hva⟩ : ∃ v, apV ax ay bx b_y = v := ⟨_, rfl⟩
        cases hAo : apOk ax ay bx b_y
        all_goals (
          go_wp2_with (first
            | (go_at_call 14; refine (apartOfImpl_c ax ay bx b_y w24 (cell_later hc23 C0.out)).mono ?_; rw [hva, hAo]; rintro e w25 ⟨rfl, hb25⟩; have hc25 := grew hc23 hb25; have x0 := cell_later hb25 y0; have x1 := cell_later hb25 y1; have x2 := cell_later hb25 y2; have x3 := cell_later hb25 y3)
            | (go_at_call 12; refine (apartOfSpec_c ax ay bx b_y w25).mono ?_; rw [hva, hAo]; rintro e w26 ⟨rfl, hb26⟩; have hc26 := grew hc25 hb26)
            | (go_at_call 45; refine (same_c (wiV t tx ty tz) (wiV t tx ty tz) _ _ _ _ _ _ w26 rfl rfl hmW hmW (hq21b.later (grew hb25 hb26)).at (hq22.later (grew hb25 hb26)).at).mono ?_; rintro e w27 ⟨rfl, hb27⟩))
          go_ret
          exact ⟨by simp, grew hc26 hb27⟩))
    · obtain ⟨hAo, hWo, hin, hno⟩ := next_law hD hE
      obtain ⟨n, hn⟩ : ∃ n, apV e0 e1 x y = n := ⟨_, rfl⟩
      have HN := hid hn
      have HNO := hid hno
      rw [hn] at hWo hin
      have HAO := hid hAo
      have HWO := hid hWo
      have HIN := hid hin
      have HWm := hid (Nat.le_trans (wiV_len s x y n) hsm)
      clear hn hno hAo hWo hin
      have t39 : True := trivial
      go_upto_region 13 with (first
        | (go_at_call 14; refine (apartOfImpl_c e0 e1 x y wC (cell_later hcA C0.out)).mono ?_; rw [HN.out, HAO.out]; rintro e w4 ⟨rfl, hb4⟩; have hc4 := grew hcA hb4; have d60 := cell_later hb4 c60; have d61 := cell_later hb4 c61; have d70 := cell_later hb4 c70; have d71 := cell_later hb4 c71)
        | (go_at_call 34; refine (withinImpl_c s x y n _ _ _ w4 rfl hsm (hos.later hb4).at (cell_later hc4 C0.out)).mono ?_; rw [HWO.out]; rintro e w5 ⟨v5, rfl, ho5, hb5⟩; obtain ⟨a5, p5, hv5⟩ := ho5.shape; subst hv5; have hc5 := grew hc4 hb5; have f70 := cell_later hb5 d70; have f71 := cell_later hb5 d71)
        | (go_at_call 39; refine (hasPoint_d (wiV s x y n) e0 e1 _ _ _ w5 rfl HWm.out ho5.at).mono ?_; rw [decide_eq_true HIN.out]; rintro e wD ⟨rfl, hb6⟩; have hcD := grew hc5 hb6))
      have hb46 := grew hb4 (grew hb5 hb6)
      have HSD := hid (hos.later hb46)
      have HK6 := hid (K6.later hb46)
      have HOL := hid (ho5.later hb6)
      have HCD := hid hcD
      clear hos K6 K7 K9 ho5 hcA hc4 hc5 hcD hb4 hb5 hb6 hb46 c60 c61 c70 c71 c90 c91 d60 d61 d70 d71 f70 f71
      go_wp2
      go_loopw [88] (fun sj wr => ∃ j : Nat, j ≤ s.length ∧ sj = .int .i64 j ∧ Below wD.heap.size wD wr) (fun sj _ => s.length - (intOf sj).toNat)
      case atStart => exact ⟨0, Nat.zero_le _, rfl, Below.refl _ _⟩
      case round =>
        obtain ⟨j, hj, rfl, hbj⟩ := hrel
        by_cases hjl : j < s.length
        · obtain ⟨b, off, ex, hbN, g0, g1⟩ := ((HSD.out.at.later hbj).mono hbj.size) j hjl
          subst ex
          have hno := HNO.out j hjl
          obtain ⟨ux, hx⟩ : ∃ u, px s j = u := ⟨_, rfl⟩
          obtain ⟨uy, hy⟩ : ∃ u, py s j = u := ⟨_, rfl⟩
          rw [hx, hy] at hno
          rw [hx] at g0
          rw [hy] at g1
          obtain ⟨m, hm⟩ : ∃ m, apV ux uy x y = m := ⟨_, rfl⟩
          rw [hm, HN.out] at hno
          have HM1 := hid hm
          have HN1 := hid hno.1
          have hlt : decide (m < n) = false := decide_eq_false (by have := hno.2.1; omega)
          have hlt2 : ¬ m < n := by have := hno.2.1; omega
          have hni := hno.2.2
          obtain ⟨tb, htb⟩ : ∃ tb, decide ((ux, uy) ∈ wiV s x y n) = tb := ⟨_, rfl⟩
          have HTB := hid htb
          have heq : (m == n) = tb := by
            rw [← htb]
            by_cases k : m = n
            · rw [decide_eq_true (hni.2 k)]; simpa using k
            · rw [decide_eq_false (fun e => k (hni.1 e))]; simpa using k
          have i0 : (0 : Int) ≤ (j : Int) := by omega
          have i1 : (j : Int) < (s.length : Int) := by omega
          have K6 := HK6.out.later hbj
          have hcr := grew HCD.out hbj
          have hbr := hbj
          clear hx hy hno hm htb hni hbj
          go_upto_region 16 with fail
          have K16 := BoxP.new wr ux uy
          have hbx : Below wr.heap.size wr (wr.alloc (.cells #[.int .i64 ux, .int .i64 uy] 26)) := by go_grown
          replace K6 := K6.later hbx
          replace hcr := grew hcr hbx
          replace hbr := grew hbr hbx
          clear hbx
          generalize wr.heap.size = B16 at K16 ⊢
          generalize wr.alloc (.cells #[.int .i64 ux, .int .i64 uy] 26) = wq at K16 hcr hbr K6 ⊢
          have x0 := K6.c0
          have x1 := K6.c1
          have x2 := K16.c0
          have x3 := K16.c1
          have HL := hid ((HOL.out.later hbr))
          cases tb
          all_goals (
            go_wp2_with (first
              | (go_at_call 14; refine (apartOfImpl_c ux uy x y wq (cell_later hcr C0.out)).mono ?_; rw [HM1.out, HN1.out]; rintro e w9 ⟨rfl, hb9⟩; have y2 := cell_later hb9 x2; have y3 := cell_later hb9 x3)
              | (go_at_call 39; refine (hasPoint_d (wiV s x y n) ux uy _ _ _ w9 rfl HWm.out (HL.out.later hb9).at).mono ?_; rw [HTB.out]; rintro e w10 ⟨rfl, hb10⟩))
            go_roundw
            case rel => exact ⟨j + 1, by omega, by go_num, grew hbr (grew hb9 hb10)⟩
            case measure => simp [intOf]; omega)
        · obtain rfl : j = s.length := by omega
          have hcr := grew HCD.out hbj
          clear hbj
          go_upto_region 21 with (go_at_call 43; refine (drawWithin_c _ _ _ wr ((HB1.out.below hcr).mono hcr.size) l1).mono ?_; rintro e wj ⟨vj, tx, ty, tz, rfl, t, hot, htl, hbj⟩; obtain ⟨aj, pj, hvj⟩ := hot.shape; subst hvj; have hcj := grew hcr hbj)
          replace hot := hot.mono (Nat.zero_le _)
          have K20 := BoxP.new wj tx ty
          have hbx : Below wj.heap.size wj (wj.alloc (.cells #[.int .i64 tx, .int .i64 ty] 26)) := by go_grown
          replace hot := hot.later hbx
          replace hcj := grew hcj hbx
          clear hbx
          generalize wj.heap.size = B20 at K20 ⊢
          generalize wj.alloc (.cells #[.int .i64 tx, .int .i64 ty] 26) = wk at K20 hcj hot ⊢
          have htm : t.length ≤ 1048576 := by omega
          have a200 := K20.c0
          have a201 := K20.c1
          cases hW : wiOk t tx ty tz
          all_goals (
            have hmW : (wiV t tx ty tz).length ≤ 1048576 := Nat.le_trans (wiV_len _ _ _ _) htm
            go_upto_region 24 with (first
              | (go_at_call 34; refine (withinImpl_c t tx ty tz _ _ _ _ rfl htm hot.at (cell_later hcj C0.out)).mono ?_; rw [hW]; rintro e w21 ⟨v21, rfl, ho21, hb21⟩; obtain ⟨a21, p21, hv21⟩ := ho21.shape; subst hv21; have hc21 := grew hcj hb21; have z210 := cell_later hb21 a200; have z211 := cell_later hb21 a201)
              | (go_at_call 33; refine (withinSpec_c t tx ty tz _ _ _ w21 rfl htm (hot.later hb21).at).mono ?_; rw [hW]; rintro e w22 ⟨v22, rfl, ho22, hb22⟩; obtain ⟨a22, p22, hv22⟩ := ho22.shape; subst hv22; have hc22 := grew hc21 hb22; have hq21 := ho21.later hb22)
              | (go_at_call 44; refine (drawApart_c _ _ _ w22 ((HB1.out.below hc22).mono hc22.size) l1).mono ?_; rintro e w23 ⟨ax, ay, bx, b_y, rfl, hb23⟩; have hc23 := grew hc22 hb23; have hq21b := hq21.later hb23; have hq22 := ho22.later hb23))
            have K26 := (BoxP.new w23 ax ay).later ((Below.refl _ (w23.alloc (.cells #[.int .i64 ax, .int .i64 ay] 26))).alloc (Nat.le_refl _) (.cells #[.int .i64 bx, .int .i64 b_y] 26))
            have K27 := BoxP.new (w23.alloc (.cells #[.int .i64 ax, .int .i64 ay] 26)) bx b_y
            simp only [World.size_alloc] at K27
            have hbx : Below w23.heap.size w23 ((w23.alloc (.cells #[.int .i64 ax, .int .i64 ay] 26)).alloc (.cells #[.int .i64 bx, .int .i64 b_y] 26)) := by go_grown
            replace hc23 := grew hc23 hbx
            replace hq21b := hq21b.later hbx
            replace hq22 := hq22.later hbx
            clear hbx
            generalize w23.heap.size + 1 = B27 at K27 ⊢
            generalize w23.heap.size = B26 at K26 ⊢
            generalize (w23.alloc (.cells #[.int .i64 ax, .int .i64 ay] 26)).alloc (.cells #[.int .i64 bx, .int .i64 b_y] 26) = w24 at K26 K27 hc23 hq21b hq22 ⊢
            have y0 := K26.c0
            have y1 := K26.c1
            have y2 := K27.c0
            have y3 := K27.c1
            obtain ⟨va, hva⟩ : ∃ v, apV ax ay bx b_y = v := ⟨_, rfl⟩
            cases hAo : apOk ax ay bx b_y
            all_goals (
              go_wp2_with (first
                | (go_at_call 14; refine (apartOfImpl_c ax ay bx b_y w24 (cell_later hc23 C0.out)).mono ?_; rw [hva, hAo]; rintro e w25 ⟨rfl, hb25⟩; have hc25 := grew hc23 hb25; have x0 := cell_later hb25 y0; have x1 := cell_later hb25 y1; have x2 := cell_later hb25 y2; have x3 := cell_later hb25 y3)
                | (go_at_call 12; refine (apartOfSpec_c ax ay bx b_y w25).mono ?_; rw [hva, hAo]; rintro e w26 ⟨rfl, hb26⟩; have hc26 := grew hc25 hb26)
                | (go_at_call 45; refine (same_c (wiV t tx ty tz) (wiV t tx ty tz) _ _ _ _ _ _ w26 rfl rfl hmW hmW (hq21b.later (grew hb25 hb26)).at (hq22.later (grew hb25 hb26)).at).mono ?_; rintro e w27 ⟨rfl, hb27⟩))
              go_ret
              exact ⟨by simp, grew hc26 hb27⟩))
  · go_enter Tryd.func11, Tryd.ntmps11
    go_wp2_with (go_at_call 36; refine (big_t _ _ _ _ _ _ _ m0 m1 (by omega)).mono ?_; rintro e w' ⟨rfl, rfl⟩)
    go_ret
    exact ⟨rfl, by go_grown⟩
end Go.Proofs.YtipiamhnngmjmaaDoor
