/-
  The walk of the law FnTangents.
  Conditions: as the theorems state them.
-/
import Derived.Test.YtegmlemejmahiaaGreatDoorB5
import Derived.Test.YtegmlemejmahiaaGreatDoorTan5
import Derived.Test.YtegmlemejmahiaaGreatDoorTanLaw
import Derived.Test.YtegmlemejmahiaaGreatDoorSameI
import Derived.Test.YtegmlemejmahiaaGreatDoorB7
import Derived.Test.YtegmlemejmahiaaGreatDoorSame
namespace Go.Proofs.YtegmlemejmahiaaGreatDoor
open Go.RowKit Go.Shelf
set_option linter.unusedVariables false
theorem big_c (a0 : Option Addr) (len0 cap0 : Nat) (a1 : Option Addr) (len1 cap1 : Nat) (w : World) (h : len0 + len1 ≤ 1048576) :
    Calls Tryz.prog 4 #[.slice a0 len0 cap0, .slice a1 len1 cap1] w fun e w' => e = .returned (.bool false) ∧ w = w' := by
  have h0 : ¬ (1048576 : Int) < (len0 : Int) := by omega
  have h1 : ¬ (1048576 : Int) - (len0 : Int) < (len1 : Int) := by omega
  go_enter Tryz.func4, Tryz.ntmps4
  go_wp2
  go_ret
  exact ⟨rfl, rfl⟩
theorem big_t (a0 : Option Addr) (len0 cap0 : Nat) (a1 : Option Addr) (len1 cap1 : Nat) (w : World) (m0 : len0 ≤ maxLen) (m1 : len1 ≤ maxLen) (h : ¬ len0 + len1 ≤ 1048576) :
    Calls Tryz.prog 4 #[.slice a0 len0 cap0, .slice a1 len1 cap1] w fun e w' => e = .returned (.bool true) ∧ w = w' := by
  unfold maxLen at m0 m1
  by_cases h0 : (1048576 : Int) < (len0 : Int)
  · go_enter Tryz.func4, Tryz.ntmps4
    go_wp2
    go_ret
    exact ⟨rfl, rfl⟩
  · have h1 : (1048576 : Int) - (len0 : Int) < (len1 : Int) := by omega
    go_enter Tryz.func4, Tryz.ntmps4
    go_wp2
    go_ret
    exact ⟨rfl, rfl⟩
set_option maxRecDepth 8000 in
set_option maxHeartbeats 16000000 in
theorem tan_walk (a0 : Option Addr) (len0 cap0 : Nat) (a1 : Option Addr) (len1 cap1 : Nat) (w : World) (B0 : Bytes w.heap.size a0 len0 w) (B1 : Bytes w.heap.size a1 len1 w) (m0 : len0 ≤ maxLen) (m1 : len1 ≤ maxLen) (c0 : w.cell? ⟨0, 0, none⟩ = some (.int .i64 1000000)) :
    Calls Tryz.prog 3 #[.slice a0 len0 cap0, .slice a1 len1 cap1] w fun e w' => e = .returned (.bool true) ∧ Below w.heap.size w w' := by
  have C0 := hid c0
  have HB0 := hid B0
  have HB1 := hid B1
  clear c0 B0 B1
  by_cases hl : len0 + len1 ≤ 1048576
  · have l0 : len0 ≤ 1048576 := by omega
    have l1 : len1 ≤ 1048576 := by omega
    clear m0 m1
    go_enter Tryz.func3, Tryz.ntmps3
    go_upto_region 4 with (first
      | (go_at_call 4; refine (big_c _ _ _ _ _ _ _ hl).mono ?_; rintro e w' ⟨rfl, rfl⟩)
      | (go_at_call 5; refine (drawTan_c _ _ _ _ HB0.out l0).mono ?_; rintro e w1 ⟨v1, qx, qy, rfl, h, hoh, hh25, hb1⟩; obtain ⟨av, ps, hvs⟩ := hoh.shape; subst hvs))
    have KQ := BoxP.new w1 qx qy
    have hba : Below w1.heap.size w1 (w1.alloc (.cells #[.int .i64 qx, .int .i64 qy] 26)) := by go_grown
    have hc := grew hb1 hba
    have HO := hid (hoh.later hba)
    generalize w1.heap.size = B6 at KQ ⊢
    generalize w1.alloc (.cells #[.int .i64 qx, .int .i64 qy] 26) = wA at KQ hba hc HO ⊢
    clear hba hb1 hoh hl
    have hhm : h.length ≤ 1048576 := by omega
    obtain ⟨⟨ax, ay_⟩, hEa⟩ : ∃ e, tgA h qx qy (-1) = e := ⟨_, rfl⟩
    obtain ⟨⟨bx, b_y⟩, hEb⟩ : ∃ e, tgA h qx qy 1 = e := ⟨_, rfl⟩
    have d0 := KQ.c0
    have d1 := KQ.c1
    go_upto_region 5 with (go_at_call 6; refine (tangentsImpl_c h qx qy _ _ _ _ rfl hhm HO.out.at (cell_later hc C0.out)).mono ?_; rw [hEa, hEb]; rintro e w2 ⟨rfl, hb2⟩)
    have KA := BoxP.later (BoxP.new w2 ax ay_) ((Below.refl _ _).alloc (Nat.le_refl _) (.cells #[.int .i64 bx, .int .i64 b_y] 26))
    have KB := BoxP.new (w2.alloc (.cells #[.int .i64 ax, .int .i64 ay_] 26)) bx b_y
    simp only [World.size_alloc] at KB
    have hba : Below w2.heap.size w2 ((w2.alloc (.cells #[.int .i64 ax, .int .i64 ay_] 26)).alloc (.cells #[.int .i64 bx, .int .i64 b_y] 26)) := by go_grown
    have hbx := hb2.trans (hba.mono hb2.size)
    replace hc := grew hc hbx
    replace HO := hid (HO.out.later hbx)
    replace KQ := KQ.later hbx
    generalize w2.heap.size = B7 at KA KB ⊢
    generalize ((w2.alloc (.cells #[.int .i64 ax, .int .i64 ay_] 26)).alloc (.cells #[.int .i64 bx, .int .i64 b_y] 26)) = wB at KQ KA KB hba hbx hc HO ⊢
    clear hba hb2 hbx d0 d1
    have d0 := KQ.c0
    have d1 := KQ.c1
    go_upto_region 6 with (go_at_call 7; refine (tangentsSpec_c h qx qy _ _ _ _ rfl hhm HO.out.at).mono ?_; rw [hEa, hEb]; rintro e w3 ⟨rfl, hb3⟩)
    have KC := BoxP.later (BoxP.new w3 ax ay_) ((Below.refl _ _).alloc (Nat.le_refl _) (.cells #[.int .i64 bx, .int .i64 b_y] 26))
    have KE := BoxP.new (w3.alloc (.cells #[.int .i64 ax, .int .i64 ay_] 26)) bx b_y
    simp only [World.size_alloc] at KE
    have hba : Below w3.heap.size w3 ((w3.alloc (.cells #[.int .i64 ax, .int .i64 ay_] 26)).alloc (.cells #[.int .i64 bx, .int .i64 b_y] 26)) := by go_grown
    have hbx := hb3.trans (hba.mono hb3.size)
    replace hc := grew hc hbx
    replace HO := hid (HO.out.later hbx)
    replace KQ := KQ.later hbx
    replace KA := KA.later hbx
    replace KB := KB.later hbx
    generalize w3.heap.size = B10 at KC KE ⊢
    generalize ((w3.alloc (.cells #[.int .i64 ax, .int .i64 ay_] 26)).alloc (.cells #[.int .i64 bx, .int .i64 b_y] 26)) = w5 at KQ KA KB KC KE hba hbx hc HO ⊢
    clear hba hb3 hbx d0 d1
    have d0 := KQ.c0
    have d1 := KQ.c1
    have p0 := KA.c0
    have p1 := KA.c1
    have q0 := KB.c0
    have q1 := KB.c1
    have r0 := KC.c0
    have r1 := KC.c1
    have s0 := KE.c0
    have s1 := KE.c1
    go_upto_region 8 with fail
    clear r0 r1 s0 s1 KC KE
    cases hz : tgOk h qx qy
    · clear d0 d1 p0 p1 q0 q1 KQ KA KB HO
      go_upto_region 23 with (go_at_call 11; refine (drawIsT_c _ _ _ w5 ((HB1.out.below hc).mono hc.size) l1).mono ?_; rintro e wj ⟨vj, ux, uy, rx, ry, rfl, g1, hog, hg25, hbj⟩; obtain ⟨ag, pg, hvg⟩ := hog.shape; subst hvg)
      have hcj := grew hc hbj
      have hbx : Below wj.heap.size wj ((wj.alloc (.cells #[.int .i64 ux, .int .i64 uy] 26)).alloc (.cells #[.int .i64 rx, .int .i64 ry] 26)) := by go_grown
      have KU := BoxP.later (BoxP.new wj ux uy) ((Below.refl _ _).alloc (Nat.le_refl _) (.cells #[.int .i64 rx, .int .i64 ry] 26))
      have KR := BoxP.new (wj.alloc (.cells #[.int .i64 ux, .int .i64 uy] 26)) rx ry
      simp only [World.size_alloc] at KR
      have hck := grew hcj hbx
      have HOG := hid (hog.later hbx)
      generalize wj.heap.size = B22 at KU KR ⊢
      generalize ((wj.alloc (.cells #[.int .i64 ux, .int .i64 uy] 26)).alloc (.cells #[.int .i64 rx, .int .i64 ry] 26)) = wk at KU KR hck HOG hbx ⊢
      clear hbx hog hcj hbj
      have u0 := KU.c0
      have u1 := KU.c1
      have r0 := KR.c0
      have r1 := KR.c1
      clear KU KR
      go_upto_region 25 with (first
        | (go_at_call 12; refine (isTangentImpl_c g1 ux uy rx ry _ _ _ wk rfl (by omega) HOG.out.at (cell_later hck C0.out)).mono ?_; rintro e wl ⟨rfl, hbl⟩; have v0 := cell_later hbl u0; have v1 := cell_later hbl u1; have s0 := cell_later hbl r0; have s1 := cell_later hbl r1)
        | (go_at_call 13; refine (isTangentSpec_c g1 ux uy rx ry _ _ _ wl rfl (by omega) (HOG.out.later hbl).at).mono ?_; rintro e wm ⟨rfl, hbm⟩; have hcm := grew (grew hck hbl) hbm))
      clear u0 u1 r0 r1 v0 v1 s0 s1 hck HOG hbl hbm
      go_upto_region 26 with (go_at_call 14; refine (drawSees_c _ _ _ wm ((HB1.out.below hcm).mono hcm.size) l1).mono ?_; rintro e wn ⟨vn, zx, zy, rfl, y, hoy, hy25, hbn⟩; obtain ⟨ay, py_, hvy⟩ := hoy.shape; subst hvy)
      have hcn := grew hcm hbn
      have hbx : Below wn.heap.size wn (wn.alloc (.cells #[.int .i64 zx, .int .i64 zy] 26)) := by go_grown
      have KZ := BoxP.new wn zx zy
      have hco := grew hcn hbx
      have HOY := hid (hoy.later hbx)
      generalize wn.heap.size = B29 at KZ ⊢
      generalize wn.alloc (.cells #[.int .i64 zx, .int .i64 zy] 26) = wo at KZ hco HOY hbx ⊢
      clear hbx hoy hcn hbn hcm
      have hym : y.length ≤ 1048576 := by omega
      have z0 := KZ.c0
      have z1 := KZ.c1
      have HLS : Hid ((seL y zx zy).length ≤ 1048576) := Nat.le_trans (seL_len y zx zy) hym
      have HLP : Hid ((poL y zx zy).length ≤ 1048576) := Nat.le_trans (poL_len y zx zy) (by omega)
      go_upto_region 30 with (first
        | (go_at_call 15; refine (seesFromImpl_c y zx zy _ _ _ wo rfl hym HOY.out.at (cell_later hco C0.out)).mono ?_; rintro e wp ⟨vp, rfl, hop, hbp⟩; obtain ⟨ap, pp, hvp⟩ := hop.shape; subst hvp; have y0 := cell_later hbp z0; have y1 := cell_later hbp z1; have hcp := grew hco hbp; have HYP := hid (HOY.out.later hbp); have HPI := hid hop; clear hop)
        | (go_at_call 16; refine (seesFromSpec_c y zx zy _ _ _ wp rfl hym HYP.out.at).mono ?_; rintro e wq ⟨vq, rfl, hoq, hbq⟩; obtain ⟨aq, pq, hvq⟩ := hoq.shape; subst hvq; have x0 := cell_later hbq y0; have x1 := cell_later hbq y1; have hcq := grew hcp hbq; have HYQ := hid (HYP.out.later hbq); have HPI2 := hid (HPI.out.later hbq); have HQI := hid hoq; clear hoq)
        | (go_at_call 10; refine (putImpl_c y zx zy _ _ _ wq rfl hym HYQ.out.fit HYQ.out.at (cell_later hcq C0.out)).mono ?_; rintro e wr_ ⟨vr, rfl, hor, hbr_⟩; obtain ⟨ar, pr, hvr⟩ := hor.shape; subst hvr; have w0 := cell_later hbr_ x0; have w1_ := cell_later hbr_ x1; have hcr := grew hcq hbr_; have HYR := hid (HYQ.out.later hbr_); have HPI3 := hid (HPI2.out.later hbr_); have HQI3 := hid (HQI.out.later hbr_); have HRG := hid hor; clear hor)
        | (go_at_call 17; refine (putSpec_c y zx zy _ _ _ wr_ rfl hym HYR.out.fit HYR.out.at).mono ?_; rintro e wt ⟨vt, rfl, hot, hbt⟩; obtain ⟨at_, pt_, hvt⟩ := hot.shape; subst hvt; have KZT := cell_later hbt w0; have KZT1 := cell_later hbt w1_; have hct := grew hcr hbt; have HYT := hid (HYR.out.later hbt); have HPI4 := hid (HPI3.out.later hbt); have HQI4 := hid (HQI3.out.later hbt); have HRG4 := hid (HRG.out.later hbt); have HTG := hid hot; clear hot))
      clear z0 z1 y0 y1 x0 x1 w0 w1_ hbp hbq hbr_ hbt hco hcp hcq hcr HOY HYP HYQ HYR HPI HPI2 HPI3 HQI HQI3 HRG KZ
      go_upto_region 32 with (first
        | (go_at_call 18; refine (sameI_c (seL y zx zy) (seL y zx zy) _ _ _ _ _ _ wt rfl rfl HLS.out HLS.out HPI4.out.at HQI4.out.at).mono ?_; rw [show decide (seL y zx zy = seL y zx zy) = true from decide_eq_true rfl]; rintro e wu ⟨rfl, hbu⟩)
        | (go_at_call 19; refine (same_c (poL y zx zy) (poL y zx zy) _ _ _ _ _ _ wu rfl rfl HLP.out HLP.out (HRG4.out.later hbu).at (HTG.out.later hbu).at).mono ?_; rw [show decide (poL y zx zy = poL y zx zy) = true from decide_eq_true rfl]; rintro e wv ⟨rfl, hbv⟩))
      have hbuv := hbu.trans (hbv.mono hbu.size)
      have hcv := grew hct hbuv
      have HYV := hid (HYT.out.later hbuv)
      have HRV := hid (HRG4.out.later hbuv)
      have k0 := cell_later hbuv KZT
      have k1 := cell_later hbuv KZT1
      clear hbu hbv hbuv hct HYT HRG4 HTG HPI4 HQI4 KZT KZT1
      cases hs3 : seOk y zx zy
      · go_wp2
        go_ret
        exact ⟨rfl, hcv⟩
      · have HLK := hid (looked hs3)
        obtain ⟨n, hn⟩ : ∃ n, (seL y zx zy).length = n := ⟨_, rfl⟩
        have hLn := HLK.out.none
        rw [hn] at hLn ⊢
        have hok := HLK.out.ok
        obtain ⟨v, hv⟩ : ∃ v, whV y zx zy = v := ⟨_, rfl⟩
        rw [hv] at hLn
        have WHI : Hid True := trivial
        by_cases hv0 : v = 0
        · have hn0 : ¬ n = 0 := by rw [hv0] at hLn; simpa using hLn
          have e1 : ((n : Int) == 0) = false := by simpa using hn0
          have e2 : (v != 0) = false := by simpa using hv0
          have HV0 := hid hv0
          clear hv0 hn0 hLn
          cases hp5 : poOk y zx zy
          · go_wp2_with (go_at_call 20; refine (whereIsImpl_c y zx zy _ _ _ wv rfl hym HYV.out.at (cell_later hcv C0.out)).mono ?_; rw [hok, hv]; rintro e ww ⟨rfl, hbw⟩; have hcw := grew hcv hbw; have HYW := hid (HYV.out.later hbw); have HRW := hid (HRV.out.later hbw))
            go_ret
            exact ⟨rfl, hcw⟩
          · have HPU := putIn hs3 hp5
            have hc1 := HPU.cok
            have hc2 := HPU.cov
            have hsm : decide (poL y zx zy = y) = false := by rw [HPU.same, hv, decide_eq_true HV0.out]; rfl
            go_wp2_with (first
              | (go_at_call 20; refine (whereIsImpl_c y zx zy _ _ _ wv rfl hym HYV.out.at (cell_later hcv C0.out)).mono ?_; rw [hok, hv]; rintro e ww ⟨rfl, hbw⟩; have hcw := grew hcv hbw; have HYW := hid (HYV.out.later hbw); have HRW := hid (HRV.out.later hbw))
              | (go_at_call 21; refine (coversImpl_c (poL y zx zy) y _ _ _ _ _ _ ww rfl rfl HLP.out hym HRW.out.at HYW.out.at (cell_later hcw C0.out)).mono ?_; rw [hc1, hc2]; rintro e wx ⟨rfl, hbx⟩; have hcx := grew hcw hbx)
              | (go_at_call 19; refine (same_c (poL y zx zy) y _ _ _ _ _ _ wx rfl rfl HLP.out hym (HRW.out.later hbx).at (HYW.out.later hbx).at).mono ?_; rw [hsm]; rintro e wy ⟨rfl, hby⟩; have hcy := grew hcx hby))
            go_ret
            exact ⟨ret_bool (by simp), hcy⟩
        · have hn0 : n = 0 := by rw [decide_eq_false hv0] at hLn; simpa using hLn
          have e1 : ((n : Int) == 0) = true := by simpa using hn0
          have e2 : (v != 0) = true := by simpa using hv0
          have HV0 := hid hv0
          clear hv0 hn0 hLn
          cases hp5 : poOk y zx zy
          · go_wp2_with (go_at_call 20; refine (whereIsImpl_c y zx zy _ _ _ wv rfl hym HYV.out.at (cell_later hcv C0.out)).mono ?_; rw [hok, hv]; rintro e ww ⟨rfl, hbw⟩; have hcw := grew hcv hbw; have HYW := hid (HYV.out.later hbw); have HRW := hid (HRV.out.later hbw))
            go_ret
            exact ⟨rfl, hcw⟩
          · have HPU := putIn hs3 hp5
            have hc1 := HPU.cok
            have hc2 := HPU.cov
            have hsm : decide (poL y zx zy = y) = true := by rw [HPU.same, hv, decide_eq_false HV0.out]; rfl
            go_wp2_with (first
              | (go_at_call 20; refine (whereIsImpl_c y zx zy _ _ _ wv rfl hym HYV.out.at (cell_later hcv C0.out)).mono ?_; rw [hok, hv]; rintro e ww ⟨rfl, hbw⟩; have hcw := grew hcv hbw; have HYW := hid (HYV.out.later hbw); have HRW := hid (HRV.out.later hbw))
              | (go_at_call 21; refine (coversImpl_c (poL y zx zy) y _ _ _ _ _ _ ww rfl rfl HLP.out hym HRW.out.at HYW.out.at (cell_later hcw C0.out)).mono ?_; rw [hc1, hc2]; rintro e wx ⟨rfl, hbx⟩; have hcx := grew hcw hbx)
              | (go_at_call 19; refine (same_c (poL y zx zy) y _ _ _ _ _ _ wx rfl rfl HLP.out hym (HRW.out.later hbx).at (HYW.out.later hbx).at).mono ?_; rw [hsm]; rintro e wy ⟨rfl, hby⟩; have hcy := grew hcx hby))
            go_ret
            exact ⟨ret_bool (by simp), hcy⟩
    · have HSN : Hid (Seen h qx qy (ax, ay_) (bx, b_y)) := by have := seen hz; rw [hEa, hEb] at this; exact this
      have tk1 : True := trivial
      go_upto_region 11 with (first
        | (go_at_call 8; clear tk1; refine (hasPoint_c h ax ay_ _ _ _ _ rfl hhm HO.out.at HSN.out.ma).mono ?_; rintro e w6 ⟨rfl, hb6⟩; replace q0 := cell_later hb6 q0; replace q1 := cell_later hb6 q1; have HO6 := hid (HO.out.later hb6))
        | (go_at_call 8; refine (hasPoint_c h bx b_y _ _ _ _ rfl hhm HO6.out.at HSN.out.mb).mono ?_; rintro e w7 ⟨rfl, hb7⟩))
      have hb67 := hb6.trans (hb7.mono hb6.size)
      have hc7 := grew hc hb67
      have HO7 := hid (HO.out.later hb67)
      have KQ7 := KQ.later hb67
      have KA7 := KA.later hb67
      have KB7 := KB.later hb67
      clear hc HO HO6 KQ KA KB hb6 hb7 hb67 d0 d1 p0 p1 q0 q1
      go_wp2
      go_loopw [90] (fun ii wr => ∃ i : Nat, i ≤ h.length ∧ ii = .int .i64 i ∧ BoxP wr B6 (qx, qy) ∧ BoxP wr B7 (ax, ay_) ∧ BoxP wr (B7 + 1) (bx, b_y) ∧ Below w7.heap.size w7 wr) (fun ii _ => h.length - (intOf ii).toNat)
      case atStart => exact ⟨0, Nat.zero_le _, rfl, KQ7, KA7, KB7, Below.refl _ _⟩
      case round =>
        clear KQ7 KA7 KB7
        obtain ⟨i, hi, rfl, KQ, KA, KB, hbr⟩ := hrel
        by_cases hil : i < h.length
        · obtain ⟨b, off, e0, hbN, g0, g1⟩ := (HO7.out.later hbr).at i hil
          subst e0
          have o1 := HSN.out.oka i hil
          have o2 := HSN.out.okb i hil
          have n1 := HSN.out.na i hil
          have n2 := HSN.out.nb i hil
          obtain ⟨x, hx⟩ : ∃ x, px h i = x := ⟨_, rfl⟩
          obtain ⟨y, hy⟩ : ∃ y, py h i = y := ⟨_, rfl⟩
          rw [hx] at g0
          rw [hy] at g1
          simp only at o1 o2 n1 n2
          rw [hx, hy] at o1 o2 n1 n2
          clear hx hy
          obtain ⟨s, hs⟩ : ∃ s, sideN qx qy ax ay_ x y = s := ⟨_, rfl⟩
          obtain ⟨t, ht⟩ : ∃ t, sideN qx qy bx b_y x y = t := ⟨_, rfl⟩
          rw [hs] at n1
          rw [ht] at n2
          have n3 : ¬ s < 0 := by omega
          have n4 : ¬ 0 < t := by omega
          have j0 : (0 : Int) ≤ (i : Int) := by omega
          have j1 : (i : Int) < (h.length : Int) := by omega
          have hbq : Below wr.heap.size wr (wr.alloc (.cells #[.int .i64 x, .int .i64 y] 26)) := by go_grown
          have KX := BoxP.new wr x y
          have HBR := hid (grew hbr hbq)
          have HCR := hid (grew hc7 (grew hbr hbq))
          replace KQ := KQ.later hbq
          replace KA := KA.later hbq
          replace KB := KB.later hbq
          have tk2 : True := trivial
          go_upto_region 14 with fail
          generalize wr.heap.size = B14 at KX ⊢
          generalize wr.alloc (.cells #[.int .i64 x, .int .i64 y] 26) = wx at KX KQ KA KB HBR HCR hbq ⊢
          clear g0 g1 hbq hbr
          have d0 := KQ.c0
          have d1 := KQ.c1
          have p0 := KA.c0
          have p1 := KA.c1
          have q0 := KB.c0
          have q1 := KB.c1
          have x0 := KX.c0
          have x1 := KX.c1
          go_wp2_with (first
            | (go_at_call 9; clear tk2; refine (sideOfImpl_c qx qy ax ay_ x y wx (cell_later HCR.out C0.out)).mono ?_; rw [hs, o1]; rintro e w8 ⟨rfl, hb8⟩; replace d0 := cell_later hb8 d0; replace d1 := cell_later hb8 d1; replace q0 := cell_later hb8 q0; replace q1 := cell_later hb8 q1; replace x0 := cell_later hb8 x0; replace x1 := cell_later hb8 x1)
            | (go_at_call 9; refine (sideOfImpl_c qx qy bx b_y x y w8 (cell_later (grew HCR.out hb8) C0.out)).mono ?_; rw [ht, o2]; rintro e w9 ⟨rfl, hb9⟩; have hb89 := hb8.trans (hb9.mono hb8.size)))
          go_roundw
          case rel => exact ⟨i + 1, by omega, by go_num, KQ.later hb89, KA.later hb89, KB.later hb89, grew HBR.out hb89⟩
          case measure => simp [intOf]; omega
        · obtain rfl : i = h.length := by omega
          have hc9 := grew hc7 hbr
          have HO9 := hid (HO7.out.later hbr)
          clear hc7 HO7 hbr KA KB
          generalize wr = wE at hc9 HO9 KQ ⊢
          have d0 := KQ.c0
          have d1 := KQ.c1
          cases hp : poOk h qx qy
          · go_upto_region 22 with (go_at_call 10; refine (putImpl_c h qx qy _ _ _ wE rfl hhm HO9.out.fit HO9.out.at (cell_later hc9 C0.out)).mono ?_; rw [hp]; rintro e wF ⟨vF, rfl, hoF, hbF⟩; obtain ⟨aF, pF, hvF⟩ := hoF.shape; subst hvF)
            have hcF := grew hc9 hbF
            clear hbF hoF hc9 HO9 d0 d1 KQ hp
            go_upto_region 23 with (go_at_call 11; refine (drawIsT_c _ _ _ wF ((HB1.out.below hcF).mono hcF.size) l1).mono ?_; rintro e wj ⟨vj, ux, uy, rx, ry, rfl, g1, hog, hg25, hbj⟩; obtain ⟨ag, pg, hvg⟩ := hog.shape; subst hvg)
            have hcj := grew hcF hbj
            have hbx : Below wj.heap.size wj ((wj.alloc (.cells #[.int .i64 ux, .int .i64 uy] 26)).alloc (.cells #[.int .i64 rx, .int .i64 ry] 26)) := by go_grown
            have KU := BoxP.later (BoxP.new wj ux uy) ((Below.refl _ _).alloc (Nat.le_refl _) (.cells #[.int .i64 rx, .int .i64 ry] 26))
            have KR := BoxP.new (wj.alloc (.cells #[.int .i64 ux, .int .i64 uy] 26)) rx ry
            simp only [World.size_alloc] at KR
            have hck := grew hcj hbx
            have HOG := hid (hog.later hbx)
            generalize wj.heap.size = B22 at KU KR ⊢
            generalize ((wj.alloc (.cells #[.int .i64 ux, .int .i64 uy] 26)).alloc (.cells #[.int .i64 rx, .int .i64 ry] 26)) = wk at KU KR hck HOG hbx ⊢
            clear hbx hog hcj hbj
            have u0 := KU.c0
            have u1 := KU.c1
            have r0 := KR.c0
            have r1 := KR.c1
            clear KU KR
            go_upto_region 25 with (first
              | (go_at_call 12; refine (isTangentImpl_c g1 ux uy rx ry _ _ _ wk rfl (by omega) HOG.out.at (cell_later hck C0.out)).mono ?_; rintro e wl ⟨rfl, hbl⟩; have v0 := cell_later hbl u0; have v1 := cell_later hbl u1; have s0 := cell_later hbl r0; have s1 := cell_later hbl r1)
              | (go_at_call 13; refine (isTangentSpec_c g1 ux uy rx ry _ _ _ wl rfl (by omega) (HOG.out.later hbl).at).mono ?_; rintro e wm ⟨rfl, hbm⟩; have hcm := grew (grew hck hbl) hbm))
            clear u0 u1 r0 r1 v0 v1 s0 s1 hck HOG hbl hbm
            go_upto_region 26 with (go_at_call 14; refine (drawSees_c _ _ _ wm ((HB1.out.below hcm).mono hcm.size) l1).mono ?_; rintro e wn ⟨vn, zx, zy, rfl, y, hoy, hy25, hbn⟩; obtain ⟨ay, py_, hvy⟩ := hoy.shape; subst hvy)
            have hcn := grew hcm hbn
            have hbx : Below wn.heap.size wn (wn.alloc (.cells #[.int .i64 zx, .int .i64 zy] 26)) := by go_grown
            have KZ := BoxP.new wn zx zy
            have hco := grew hcn hbx
            have HOY := hid (hoy.later hbx)
            generalize wn.heap.size = B29 at KZ ⊢
            generalize wn.alloc (.cells #[.int .i64 zx, .int .i64 zy] 26) = wo at KZ hco HOY hbx ⊢
            clear hbx hoy hcn hbn hcm
            have hym : y.length ≤ 1048576 := by omega
            have z0 := KZ.c0
            have z1 := KZ.c1
            have HLS : Hid ((seL y zx zy).length ≤ 1048576) := Nat.le_trans (seL_len y zx zy) hym
            have HLP : Hid ((poL y zx zy).length ≤ 1048576) := Nat.le_trans (poL_len y zx zy) (by omega)
            go_upto_region 30 with (first
              | (go_at_call 15; refine (seesFromImpl_c y zx zy _ _ _ wo rfl hym HOY.out.at (cell_later hco C0.out)).mono ?_; rintro e wp ⟨vp, rfl, hop, hbp⟩; obtain ⟨ap, pp, hvp⟩ := hop.shape; subst hvp; have y0 := cell_later hbp z0; have y1 := cell_later hbp z1; have hcp := grew hco hbp; have HYP := hid (HOY.out.later hbp); have HPI := hid hop; clear hop)
              | (go_at_call 16; refine (seesFromSpec_c y zx zy _ _ _ wp rfl hym HYP.out.at).mono ?_; rintro e wq ⟨vq, rfl, hoq, hbq⟩; obtain ⟨aq, pq, hvq⟩ := hoq.shape; subst hvq; have x0 := cell_later hbq y0; have x1 := cell_later hbq y1; have hcq := grew hcp hbq; have HYQ := hid (HYP.out.later hbq); have HPI2 := hid (HPI.out.later hbq); have HQI := hid hoq; clear hoq)
              | (go_at_call 10; refine (putImpl_c y zx zy _ _ _ wq rfl hym HYQ.out.fit HYQ.out.at (cell_later hcq C0.out)).mono ?_; rintro e wr_ ⟨vr, rfl, hor, hbr_⟩; obtain ⟨ar, pr, hvr⟩ := hor.shape; subst hvr; have w0 := cell_later hbr_ x0; have w1_ := cell_later hbr_ x1; have hcr := grew hcq hbr_; have HYR := hid (HYQ.out.later hbr_); have HPI3 := hid (HPI2.out.later hbr_); have HQI3 := hid (HQI.out.later hbr_); have HRG := hid hor; clear hor)
              | (go_at_call 17; refine (putSpec_c y zx zy _ _ _ wr_ rfl hym HYR.out.fit HYR.out.at).mono ?_; rintro e wt ⟨vt, rfl, hot, hbt⟩; obtain ⟨at_, pt_, hvt⟩ := hot.shape; subst hvt; have KZT := cell_later hbt w0; have KZT1 := cell_later hbt w1_; have hct := grew hcr hbt; have HYT := hid (HYR.out.later hbt); have HPI4 := hid (HPI3.out.later hbt); have HQI4 := hid (HQI3.out.later hbt); have HRG4 := hid (HRG.out.later hbt); have HTG := hid hot; clear hot))
            clear z0 z1 y0 y1 x0 x1 w0 w1_ hbp hbq hbr_ hbt hco hcp hcq hcr HOY HYP HYQ HYR HPI HPI2 HPI3 HQI HQI3 HRG KZ
            go_upto_region 32 with (first
              | (go_at_call 18; refine (sameI_c (seL y zx zy) (seL y zx zy) _ _ _ _ _ _ wt rfl rfl HLS.out HLS.out HPI4.out.at HQI4.out.at).mono ?_; rw [show decide (seL y zx zy = seL y zx zy) = true from decide_eq_true rfl]; rintro e wu ⟨rfl, hbu⟩)
              | (go_at_call 19; refine (same_c (poL y zx zy) (poL y zx zy) _ _ _ _ _ _ wu rfl rfl HLP.out HLP.out (HRG4.out.later hbu).at (HTG.out.later hbu).at).mono ?_; rw [show decide (poL y zx zy = poL y zx zy) = true from decide_eq_true rfl]; rintro e wv ⟨rfl, hbv⟩))
            have hbuv := hbu.trans (hbv.mono hbu.size)
            have hcv := grew hct hbuv
            have HYV := hid (HYT.out.later hbuv)
            have HRV := hid (HRG4.out.later hbuv)
            have k0 := cell_later hbuv KZT
            have k1 := cell_later hbuv KZT1
            clear hbu hbv hbuv hct HYT HRG4 HTG HPI4 HQI4 KZT KZT1
            cases hs3 : seOk y zx zy
            · go_wp2
              go_ret
              exact ⟨rfl, hcv⟩
            · have HLK := hid (looked hs3)
              obtain ⟨n, hn⟩ : ∃ n, (seL y zx zy).length = n := ⟨_, rfl⟩
              have hLn := HLK.out.none
              rw [hn] at hLn ⊢
              have hok := HLK.out.ok
              obtain ⟨v, hv⟩ : ∃ v, whV y zx zy = v := ⟨_, rfl⟩
              rw [hv] at hLn
              have WHI : Hid True := trivial
              by_cases hv0 : v = 0
              · have hn0 : ¬ n = 0 := by rw [hv0] at hLn; simpa using hLn
                have e1 : ((n : Int) == 0) = false := by simpa using hn0
                have e2 : (v != 0) = false := by simpa using hv0
                have HV0 := hid hv0
                clear hv0 hn0 hLn
                cases hp5 : poOk y zx zy
                · go_wp2_with (go_at_call 20; refine (whereIsImpl_c y zx zy _ _ _ wv rfl hym HYV.out.at (cell_later hcv C0.out)).mono ?_; rw [hok, hv]; rintro e ww ⟨rfl, hbw⟩; have hcw := grew hcv hbw; have HYW := hid (HYV.out.later hbw); have HRW := hid (HRV.out.later hbw))
                  go_ret
                  exact ⟨rfl, hcw⟩
                · have HPU := putIn hs3 hp5
                  have hc1 := HPU.cok
                  have hc2 := HPU.cov
                  have hsm : decide (poL y zx zy = y) = false := by rw [HPU.same, hv, decide_eq_true HV0.out]; rfl
                  go_wp2_with (first
                    | (go_at_call 20; refine (whereIsImpl_c y zx zy _ _ _ wv rfl hym HYV.out.at (cell_later hcv C0.out)).mono ?_; rw [hok, hv]; rintro e ww ⟨rfl, hbw⟩; have hcw := grew hcv hbw; have HYW := hid (HYV.out.later hbw); have HRW := hid (HRV.out.later hbw))
                    | (go_at_call 21; refine (coversImpl_c (poL y zx zy) y _ _ _ _ _ _ ww rfl rfl HLP.out hym HRW.out.at HYW.out.at (cell_later hcw C0.out)).mono ?_; rw [hc1, hc2]; rintro e wx ⟨rfl, hbx⟩; have hcx := grew hcw hbx)
                    | (go_at_call 19; refine (same_c (poL y zx zy) y _ _ _ _ _ _ wx rfl rfl HLP.out hym (HRW.out.later hbx).at (HYW.out.later hbx).at).mono ?_; rw [hsm]; rintro e wy ⟨rfl, hby⟩; have hcy := grew hcx hby))
                  go_ret
                  exact ⟨ret_bool (by simp), hcy⟩
              · have hn0 : n = 0 := by rw [decide_eq_false hv0] at hLn; simpa using hLn
                have e1 : ((n : Int) == 0) = true := by simpa using hn0
                have e2 : (v != 0) = true := by simpa using hv0
                have HV0 := hid hv0
                clear hv0 hn0 hLn
                cases hp5 : poOk y zx zy
                · go_wp2_with (go_at_call 20; refine (whereIsImpl_c y zx zy _ _ _ wv rfl hym HYV.out.at (cell_later hcv C0.out)).mono ?_; rw [hok, hv]; rintro e ww ⟨rfl, hbw⟩; have hcw := grew hcv hbw; have HYW := hid (HYV.out.later hbw); have HRW := hid (HRV.out.later hbw))
                  go_ret
                  exact ⟨rfl, hcw⟩
                · have HPU := putIn hs3 hp5
                  have hc1 := HPU.cok
                  have hc2 := HPU.cov
                  have hsm : decide (poL y zx zy = y) = true := by rw [HPU.same, hv, decide_eq_false HV0.out]; rfl
                  go_wp2_with (first
                    | (go_at_call 20; refine (whereIsImpl_c y zx zy _ _ _ wv rfl hym HYV.out.at (cell_later hcv C0.out)).mono ?_; rw [hok, hv]; rintro e ww ⟨rfl, hbw⟩; have hcw := grew hcv hbw; have HYW := hid (HYV.out.later hbw); have HRW := hid (HRV.out.later hbw))
                    | (go_at_call 21; refine (coversImpl_c (poL y zx zy) y _ _ _ _ _ _ ww rfl rfl HLP.out hym HRW.out.at HYW.out.at (cell_later hcw C0.out)).mono ?_; rw [hc1, hc2]; rintro e wx ⟨rfl, hbx⟩; have hcx := grew hcw hbx)
                    | (go_at_call 19; refine (same_c (poL y zx zy) y _ _ _ _ _ _ wx rfl rfl HLP.out hym (HRW.out.later hbx).at (HYW.out.later hbx).at).mono ?_; rw [hsm]; rintro e wy ⟨rfl, hby⟩; have hcy := grew hcx hby))
                  go_ret
                  exact ⟨ret_bool (by simp), hcy⟩
          · have HMQ := hid (put_seen hz hp)
            have HLQ : Hid ((poL h qx qy).length ≤ 1048576) := Nat.le_trans (poL_len h qx qy) (by omega)
            go_upto_region 22 with (first
              | (go_at_call 10; refine (putImpl_c h qx qy _ _ _ wE rfl hhm HO9.out.fit HO9.out.at (cell_later hc9 C0.out)).mono ?_; rw [hp]; rintro e wF ⟨vF, rfl, hoF, hbF⟩; obtain ⟨aF, pF, hvF⟩ := hoF.shape; subst hvF; replace d0 := cell_later hbF d0; replace d1 := cell_later hbF d1)
              | (go_at_call 8; refine (hasPoint_c (poL h qx qy) qx qy _ _ _ wF rfl HLQ.out hoF.at HMQ.out).mono ?_; rintro e wG ⟨rfl, hbG⟩))
            have hcG := grew (grew hc9 hbF) hbG
            clear hbF hbG hoF hc9 HO9 d0 d1 KQ hp HLQ HMQ
            go_upto_region 23 with (go_at_call 11; refine (drawIsT_c _ _ _ wG ((HB1.out.below hcG).mono hcG.size) l1).mono ?_; rintro e wj ⟨vj, ux, uy, rx, ry, rfl, g1, hog, hg25, hbj⟩; obtain ⟨ag, pg, hvg⟩ := hog.shape; subst hvg)
            have hcj := grew hcG hbj
            have hbx : Below wj.heap.size wj ((wj.alloc (.cells #[.int .i64 ux, .int .i64 uy] 26)).alloc (.cells #[.int .i64 rx, .int .i64 ry] 26)) := by go_grown
            have KU := BoxP.later (BoxP.new wj ux uy) ((Below.refl _ _).alloc (Nat.le_refl _) (.cells #[.int .i64 rx, .int .i64 ry] 26))
            have KR := BoxP.new (wj.alloc (.cells #[.int .i64 ux, .int .i64 uy] 26)) rx ry
            simp only [World.size_alloc] at KR
            have hck := grew hcj hbx
            have HOG := hid (hog.later hbx)
            generalize wj.heap.size = B22 at KU KR ⊢
            generalize ((wj.alloc (.cells #[.int .i64 ux, .int .i64 uy] 26)).alloc (.cells #[.int .i64 rx, .int .i64 ry] 26)) = wk at KU KR hck HOG hbx ⊢
            clear hbx hog hcj hbj
            have u0 := KU.c0
            have u1 := KU.c1
            have r0 := KR.c0
            have r1 := KR.c1
            clear KU KR
            go_upto_region 25 with (first
              | (go_at_call 12; refine (isTangentImpl_c g1 ux uy rx ry _ _ _ wk rfl (by omega) HOG.out.at (cell_later hck C0.out)).mono ?_; rintro e wl ⟨rfl, hbl⟩; have v0 := cell_later hbl u0; have v1 := cell_later hbl u1; have s0 := cell_later hbl r0; have s1 := cell_later hbl r1)
              | (go_at_call 13; refine (isTangentSpec_c g1 ux uy rx ry _ _ _ wl rfl (by omega) (HOG.out.later hbl).at).mono ?_; rintro e wm ⟨rfl, hbm⟩; have hcm := grew (grew hck hbl) hbm))
            clear u0 u1 r0 r1 v0 v1 s0 s1 hck HOG hbl hbm
            go_upto_region 26 with (go_at_call 14; refine (drawSees_c _ _ _ wm ((HB1.out.below hcm).mono hcm.size) l1).mono ?_; rintro e wn ⟨vn, zx, zy, rfl, y, hoy, hy25, hbn⟩; obtain ⟨ay, py_, hvy⟩ := hoy.shape; subst hvy)
            have hcn := grew hcm hbn
            have hbx : Below wn.heap.size wn (wn.alloc (.cells #[.int .i64 zx, .int .i64 zy] 26)) := by go_grown
            have KZ := BoxP.new wn zx zy
            have hco := grew hcn hbx
            have HOY := hid (hoy.later hbx)
            generalize wn.heap.size = B29 at KZ ⊢
            generalize wn.alloc (.cells #[.int .i64 zx, .int .i64 zy] 26) = wo at KZ hco HOY hbx ⊢
            clear hbx hoy hcn hbn hcm
            have hym : y.length ≤ 1048576 := by omega
            have z0 := KZ.c0
            have z1 := KZ.c1
            have HLS : Hid ((seL y zx zy).length ≤ 1048576) := Nat.le_trans (seL_len y zx zy) hym
            have HLP : Hid ((poL y zx zy).length ≤ 1048576) := Nat.le_trans (poL_len y zx zy) (by omega)
            go_upto_region 30 with (first
              | (go_at_call 15; refine (seesFromImpl_c y zx zy _ _ _ wo rfl hym HOY.out.at (cell_later hco C0.out)).mono ?_; rintro e wp ⟨vp, rfl, hop, hbp⟩; obtain ⟨ap, pp, hvp⟩ := hop.shape; subst hvp; have y0 := cell_later hbp z0; have y1 := cell_later hbp z1; have hcp := grew hco hbp; have HYP := hid (HOY.out.later hbp); have HPI := hid hop; clear hop)
              | (go_at_call 16; refine (seesFromSpec_c y zx zy _ _ _ wp rfl hym HYP.out.at).mono ?_; rintro e wq ⟨vq, rfl, hoq, hbq⟩; obtain ⟨aq, pq, hvq⟩ := hoq.shape; subst hvq; have x0 := cell_later hbq y0; have x1 := cell_later hbq y1; have hcq := grew hcp hbq; have HYQ := hid (HYP.out.later hbq); have HPI2 := hid (HPI.out.later hbq); have HQI := hid hoq; clear hoq)
              | (go_at_call 10; refine (putImpl_c y zx zy _ _ _ wq rfl hym HYQ.out.fit HYQ.out.at (cell_later hcq C0.out)).mono ?_; rintro e wr_ ⟨vr, rfl, hor, hbr_⟩; obtain ⟨ar, pr, hvr⟩ := hor.shape; subst hvr; have w0 := cell_later hbr_ x0; have w1_ := cell_later hbr_ x1; have hcr := grew hcq hbr_; have HYR := hid (HYQ.out.later hbr_); have HPI3 := hid (HPI2.out.later hbr_); have HQI3 := hid (HQI.out.later hbr_); have HRG := hid hor; clear hor)
              | (go_at_call 17; refine (putSpec_c y zx zy _ _ _ wr_ rfl hym HYR.out.fit HYR.out.at).mono ?_; rintro e wt ⟨vt, rfl, hot, hbt⟩; obtain ⟨at_, pt_, hvt⟩ := hot.shape; subst hvt; have KZT := cell_later hbt w0; have KZT1 := cell_later hbt w1_; have hct := grew hcr hbt; have HYT := hid (HYR.out.later hbt); have HPI4 := hid (HPI3.out.later hbt); have HQI4 := hid (HQI3.out.later hbt); have HRG4 := hid (HRG.out.later hbt); have HTG := hid hot; clear hot))
            clear z0 z1 y0 y1 x0 x1 w0 w1_ hbp hbq hbr_ hbt hco hcp hcq hcr HOY HYP HYQ HYR HPI HPI2 HPI3 HQI HQI3 HRG KZ
            go_upto_region 32 with (first
              | (go_at_call 18; refine (sameI_c (seL y zx zy) (seL y zx zy) _ _ _ _ _ _ wt rfl rfl HLS.out HLS.out HPI4.out.at HQI4.out.at).mono ?_; rw [show decide (seL y zx zy = seL y zx zy) = true from decide_eq_true rfl]; rintro e wu ⟨rfl, hbu⟩)
              | (go_at_call 19; refine (same_c (poL y zx zy) (poL y zx zy) _ _ _ _ _ _ wu rfl rfl HLP.out HLP.out (HRG4.out.later hbu).at (HTG.out.later hbu).at).mono ?_; rw [show decide (poL y zx zy = poL y zx zy) = true from decide_eq_true rfl]; rintro e wv ⟨rfl, hbv⟩))
            have hbuv := hbu.trans (hbv.mono hbu.size)
            have hcv := grew hct hbuv
            have HYV := hid (HYT.out.later hbuv)
            have HRV := hid (HRG4.out.later hbuv)
            have k0 := cell_later hbuv KZT
            have k1 := cell_later hbuv KZT1
            clear hbu hbv hbuv hct HYT HRG4 HTG HPI4 HQI4 KZT KZT1
            cases hs3 : seOk y zx zy
            · go_wp2
              go_ret
              exact ⟨rfl, hcv⟩
            · have HLK := hid (looked hs3)
              obtain ⟨n, hn⟩ : ∃ n, (seL y zx zy).length = n := ⟨_, rfl⟩
              have hLn := HLK.out.none
              rw [hn] at hLn ⊢
              have hok := HLK.out.ok
              obtain ⟨v, hv⟩ : ∃ v, whV y zx zy = v := ⟨_, rfl⟩
              rw [hv] at hLn
              have WHI : Hid True := trivial
              by_cases hv0 : v = 0
              · have hn0 : ¬ n = 0 := by rw [hv0] at hLn; simpa using hLn
                have e1 : ((n : Int) == 0) = false := by simpa using hn0
                have e2 : (v != 0) = false := by simpa using hv0
                have HV0 := hid hv0
                clear hv0 hn0 hLn
                cases hp5 : poOk y zx zy
                · go_wp2_with (go_at_call 20; refine (whereIsImpl_c y zx zy _ _ _ wv rfl hym HYV.out.at (cell_later hcv C0.out)).mono ?_; rw [hok, hv]; rintro e ww ⟨rfl, hbw⟩; have hcw := grew hcv hbw; have HYW := hid (HYV.out.later hbw); have HRW := hid (HRV.out.later hbw))
                  go_ret
                  exact ⟨rfl, hcw⟩
                · have HPU := putIn hs3 hp5
                  have hc1 := HPU.cok
                  have hc2 := HPU.cov
                  have hsm : decide (poL y zx zy = y) = false := by rw [HPU.same, hv, decide_eq_true HV0.out]; rfl
                  go_wp2_with (first
                    | (go_at_call 20; refine (whereIsImpl_c y zx zy _ _ _ wv rfl hym HYV.out.at (cell_later hcv C0.out)).mono ?_; rw [hok, hv]; rintro e ww ⟨rfl, hbw⟩; have hcw := grew hcv hbw; have HYW := hid (HYV.out.later hbw); have HRW := hid (HRV.out.later hbw))
                    | (go_at_call 21; refine (coversImpl_c (poL y zx zy) y _ _ _ _ _ _ ww rfl rfl HLP.out hym HRW.out.at HYW.out.at (cell_later hcw C0.out)).mono ?_; rw [hc1, hc2]; rintro e wx ⟨rfl, hbx⟩; have hcx := grew hcw hbx)
                    | (go_at_call 19; refine (same_c (poL y zx zy) y _ _ _ _ _ _ wx rfl rfl HLP.out hym (HRW.out.later hbx).at (HYW.out.later hbx).at).mono ?_; rw [hsm]; rintro e wy ⟨rfl, hby⟩; have hcy := grew hcx hby))
                  go_ret
                  exact ⟨ret_bool (by simp), hcy⟩
              · have hn0 : n = 0 := by rw [decide_eq_false hv0] at hLn; simpa using hLn
                have e1 : ((n : Int) == 0) = true := by simpa using hn0
                have e2 : (v != 0) = true := by simpa using hv0
                have HV0 := hid hv0
                clear hv0 hn0 hLn
                cases hp5 : poOk y zx zy
                · go_wp2_with (go_at_call 20; refine (whereIsImpl_c y zx zy _ _ _ wv rfl hym HYV.out.at (cell_later hcv C0.out)).mono ?_; rw [hok, hv]; rintro e ww ⟨rfl, hbw⟩; have hcw := grew hcv hbw; have HYW := hid (HYV.out.later hbw); have HRW := hid (HRV.out.later hbw))
                  go_ret
                  exact ⟨rfl, hcw⟩
                · have HPU := putIn hs3 hp5
                  have hc1 := HPU.cok
                  have hc2 := HPU.cov
                  have hsm : decide (poL y zx zy = y) = true := by rw [HPU.same, hv, decide_eq_false HV0.out]; rfl
                  go_wp2_with (first
                    | (go_at_call 20; refine (whereIsImpl_c y zx zy _ _ _ wv rfl hym HYV.out.at (cell_later hcv C0.out)).mono ?_; rw [hok, hv]; rintro e ww ⟨rfl, hbw⟩; have hcw := grew hcv hbw; have HYW := hid (HYV.out.later hbw); have HRW := hid (HRV.out.later hbw))
                    | (go_at_call 21; refine (coversImpl_c (poL y zx zy) y _ _ _ _ _ _ ww rfl rfl HLP.out hym HRW.out.at HYW.out.at (cell_later hcw C0.out)).mono ?_; rw [hc1, hc2]; rintro e wx ⟨rfl, hbx⟩; have hcx := grew hcw hbx)
                    | (go_at_call 19; refine (same_c (poL y zx zy) y _ _ _ _ _ _ wx rfl rfl HLP.out hym (HRW.out.later hbx).at (HYW.out.later hbx).at).mono ?_; rw [hsm]; rintro e wy ⟨rfl, hby⟩; have hcy := grew hcx hby))
                  go_ret
                  exact ⟨ret_bool (by simp), hcy⟩
  · go_enter Tryz.func3, Tryz.ntmps3
    go_wp2_with (go_at_call 4; refine (big_t _ _ _ _ _ _ _ m0 m1 (by omega)).mono ?_; rintro e w' ⟨rfl, rfl⟩)
    go_ret
    exact ⟨rfl, by go_grown⟩
end Go.Proofs.YtegmlemejmahiaaGreatDoor
