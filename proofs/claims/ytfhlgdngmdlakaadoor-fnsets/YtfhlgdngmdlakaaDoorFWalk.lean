/-
  The walk of the law FnSets.
  Conditions: as the theorems state them.
-/
import Derived.Test.YtfhlgdngmdlakaaDoorDrawT
import Derived.Test.YtfhlgdngmdlakaaDoorMWalk
namespace Go.Proofs.YtfhlgdngmdlakaaDoor
open Go.RowKit
set_option linter.unusedVariables false
set_option maxRecDepth 4000 in
set_option maxHeartbeats 4000000 in
theorem sets_walk (a0 : Option Addr) (len0 cap0 : Nat) (a1 : Option Addr) (len1 cap1 : Nat) (w : World) (B0 : Bytes w.heap.size a0 len0 w) (B1 : Bytes w.heap.size a1 len1 w) (m0 : len0 ≤ maxLen) (m1 : len1 ≤ maxLen) (c0 : w.cell? ⟨0, 0, none⟩ = some (.int .i64 1000000)) :
    Calls Tryd.prog 3 #[.slice a0 len0 cap0, .slice a1 len1 cap1] w fun e w' => e = .returned (.bool true) ∧ Below w.heap.size w w' := by
  have C0 := hid c0
  have HB0 := hid B0
  have HB1 := hid B1
  clear c0 B0 B1
  by_cases hl : len0 + len1 ≤ 1048576
  · have l0 : len0 ≤ 1048576 := by omega
    have l1 : len1 ≤ 1048576 := by omega
    clear m0 m1
    go_enter Tryd.func3, Tryd.ntmps3
    go_upto_region 4 with (first
      | (go_at_call 5; refine (big_c _ _ _ _ _ _ _ hl).mono ?_; rintro e w' ⟨rfl, rfl⟩)
      | (go_at_call 6; refine (drawPut_c _ _ _ _ HB0.out l0).mono ?_; rintro e w1 ⟨v1, x, y, rfl, l, ho1, hl1, hb1⟩; obtain ⟨av, pv, hvv⟩ := ho1.shape; subst hvv))
    have r0 := box0 w1 x y 26
    have r1 := box1 w1 x y 26
    have hbB : Below w.heap.size w (w1.alloc (.cells #[.int .i64 x, .int .i64 y] 26)) := grew hb1 (by go_grown)
    have hoB := ho1.later (by go_grown : Below w1.heap.size w1 (w1.alloc (.cells #[.int .i64 x, .int .i64 y] 26)))
    generalize w1.alloc (.cells #[.int .i64 x, .int .i64 y] 26) = wB at r0 r1 hbB hoB ⊢
    clear ho1
    have hlm : l.length ≤ 1048576 := by omega
    have t1 : True := trivial
    have t2 : True := trivial
    have t3 : True := trivial
    have t4 : True := trivial
    have t5 : True := trivial
    cases hM : putOk l x y
    · have hmR : putA l x y = [] := by rw [putA, hM]; rfl
      have hMl : 0 ≤ 1048576 := Nat.zero_le _
      go_upto_region 14 with (first
        | (go_at_call 7; refine (putImpl_c l x y _ _ _ wB rfl hlm hoB.fit hoB.at (cell_later hbB C0.out)).mono ?_; rw [hM, hmR]; rintro e w2 ⟨v2, rfl, ho2, hb2⟩; obtain ⟨a2, p2, hv2⟩ := ho2.shape; subst hv2; have r20 := cell_later hb2 r0; have r21 := cell_later hb2 r1)
        | (go_at_call 8; refine (putSpec_c l x y _ _ _ w2 rfl hlm hoB.fit (hoB.later hb2).at).mono ?_; rw [hM, hmR]; rintro e w3 ⟨v3, rfl, ho3, hb3⟩; obtain ⟨a3, p3, hv3⟩ := ho3.shape; subst hv3; have hB3 := grew hb2 hb3)
        | (go_at_call 9; clear t1; refine (same_c [] [] _ _ _ _ _ _ w3 rfl rfl hMl hMl (ho2.later hb3).at ho3.at).mono ?_; rintro e w4 ⟨rfl, hb4⟩; have hB4 := grew hB3 hb4; have hc4 := grew hbB hB4)
        | (go_at_call 10; clear t2; refine (goodSetImpl_c l _ _ _ w4 rfl hlm (hoB.later hB4).at (cell_later hc4 C0.out)).mono ?_; rintro e w5 ⟨rfl, hb5⟩; have hB5 := grew hB4 hb5)
        | (go_at_call 11; clear t3; refine (goodSetSpec_c l _ _ _ w5 rfl hlm (hoB.later hB5).at).mono ?_; rintro e w6 ⟨rfl, hb6⟩; have hB6 := grew hB5 hb6; have hc6 := grew hbB hB6; have r60 := cell_later hB6 r0; have r61 := cell_later hB6 r1; have hq6 := ho2.later (grew hb3 (grew hb4 (grew hb5 hb6))))
        | (go_at_call 14; refine (drawDrop_c _ _ _ w6 ((HB1.out.below hc6).mono hc6.size) l1).mono ?_; rintro e wj ⟨vj, xj, yj, rfl, lj, hoj, hlj, hbj⟩; obtain ⟨aj, pj, hvj⟩ := hoj.shape; subst hvj; have hcj := grew hc6 hbj))
      have s0 := box0 wj xj yj 26
      have s1 := box1 wj xj yj 26
      have hck : Below w.heap.size w (wj.alloc (.cells #[.int .i64 xj, .int .i64 yj] 26)) := grew hcj (by go_grown)
      have hok := hoj.later (by go_grown : Below wj.heap.size wj (wj.alloc (.cells #[.int .i64 xj, .int .i64 yj] 26)))
      generalize wj.alloc (.cells #[.int .i64 xj, .int .i64 yj] 26) = wk at s0 s1 hck hok ⊢
      have hjm : lj.length ≤ 1048576 := by omega
      have hdm := dropA_len lj xj yj hjm
      have u1 : True := trivial
      have u2 : True := trivial
      go_upto_region 19 with (first
        | (go_at_call 13; refine (dropImpl_c lj xj yj _ _ _ wk rfl hjm hok.fit hok.at (cell_later hck C0.out)).mono ?_; rintro e k1 ⟨z1, rfl, ho21, hb21⟩; obtain ⟨a21, p21, hv21⟩ := ho21.shape; subst hv21; have s20 := cell_later hb21 s0; have s21 := cell_later hb21 s1)
        | (go_at_call 15; refine (dropSpec_c lj xj yj _ _ _ k1 rfl hjm hok.fit (hok.later hb21).at).mono ?_; rintro e k2 ⟨z2, rfl, ho22, hb22⟩; obtain ⟨a22, p22, hv22⟩ := ho22.shape; subst hv22; have hK2 := grew hb21 hb22; have hck2 := grew hck hK2; have s30 := cell_later hK2 s0; have s31 := cell_later hK2 s1)
        | (go_at_call 12; refine (placeImpl_c lj xj yj _ _ _ k2 rfl hjm (hok.later hK2).at (cell_later hck2 C0.out)).mono ?_; rintro e k3 ⟨rfl, hb23⟩; have hK3 := grew hK2 hb23; have s40 := cell_later hK3 s0; have s41 := cell_later hK3 s1)
        | (go_at_call 16; refine (placeSpec_c lj xj yj _ _ _ k3 rfl hjm (hok.later hK3).at).mono ?_; rintro e k4 ⟨rfl, hb24⟩; have hK4 := grew hK3 hb24; have hck4 := grew hck hK4)
        | (go_at_call 17; refine (drawFrom_c _ _ _ k4 ((HB1.out.below hck4).mono hck4.size) l1).mono ?_; rintro e k5 ⟨z5, rfl, lf, hof, hlf, hb25⟩; obtain ⟨af, pf, hvf⟩ := hof.shape; subst hvf; have hck5 := grew hck4 hb25))
      have hfm : lf.length ≤ 1048576 := by omega
      have hsm := setA_len lf hfm
      have hq21 := ho21.later (grew hb22 (grew hb23 (grew hb24 hb25)))
      have hq22 := ho22.later (grew hb23 (grew hb24 hb25))
      cases hS : setOk lf
      · go_wp2_with (first
          | (go_at_call 18; refine (setImpl_c lf _ _ _ k5 rfl hfm hof.at (cell_later hck5 C0.out)).mono ?_; rw [hS]; rintro e k6 ⟨z6, rfl, ho26, hb26⟩; obtain ⟨a26, p26, hv26⟩ := ho26.shape; subst hv26)
          | (go_at_call 19; refine (setSpec_c lf _ _ _ k6 rfl hfm (hof.later hb26).at).mono ?_; rw [hS]; rintro e k7 ⟨z7, rfl, ho27, hb27⟩; obtain ⟨a27, p27, hv27⟩ := ho27.shape; subst hv27)
          | (go_at_call 9; clear u1; refine (same_c (dropA lj xj yj) (dropA lj xj yj) _ _ _ _ _ _ k7 rfl rfl hdm hdm (hq21.later (grew hb26 hb27)).at (hq22.later (grew hb26 hb27)).at).mono ?_; rintro e k8 ⟨rfl, hb28⟩)
          | (go_at_call 9; clear u2; refine (same_c (setA lf) (setA lf) _ _ _ _ _ _ k8 rfl rfl hsm hsm (ho26.later (grew hb27 hb28)).at (ho27.later hb28).at).mono ?_; rintro e k9 ⟨rfl, hb29⟩))
        all_goals go_ret
        all_goals exact ⟨rfl, grew hck5 (grew hb26 (grew hb27 (grew hb28 hb29)))⟩
      · have HGS := hid (good_setA hS)
        have hsA : setA lf = fromL lf := by rw [setA, hS]; rfl
        have HSA := hid hsA
        clear hsA
        go_wp2_with (first
          | (go_at_call 18; refine (setImpl_c lf _ _ _ k5 rfl hfm hof.at (cell_later hck5 C0.out)).mono ?_; rw [hS]; rintro e k6 ⟨z6, rfl, ho26, hb26⟩; obtain ⟨a26, p26, hv26⟩ := ho26.shape; subst hv26)
          | (go_at_call 19; refine (setSpec_c lf _ _ _ k6 rfl hfm (hof.later hb26).at).mono ?_; rw [hS]; rintro e k7 ⟨z7, rfl, ho27, hb27⟩; obtain ⟨a27, p27, hv27⟩ := ho27.shape; subst hv27)
          | (go_at_call 9; clear u1; refine (same_c (dropA lj xj yj) (dropA lj xj yj) _ _ _ _ _ _ k7 rfl rfl hdm hdm (hq21.later (grew hb26 hb27)).at (hq22.later (grew hb26 hb27)).at).mono ?_; rintro e k8 ⟨rfl, hb28⟩)
          | (go_at_call 9; clear u2; refine (same_c (setA lf) (setA lf) _ _ _ _ _ _ k8 rfl rfl hsm hsm (ho26.later (grew hb27 hb28)).at (ho27.later hb28).at).mono ?_; rintro e k9 ⟨rfl, hb29⟩)
          | (go_at_call 10; refine (goodSetImpl_c (setA lf) _ _ _ k9 rfl hsm (ho26.later (grew hb27 (grew hb28 hb29))).at (cell_later (grew hck5 (grew hb26 (grew hb27 (grew hb28 hb29)))) C0.out)).mono ?_; rw [HGS.out]; rintro e kA ⟨rfl, hb30⟩))
        have HcA := hid (grew hck5 (grew hb26 (grew hb27 (grew hb28 (grew hb29 hb30)))))
        have HfA := hid (ho26.later (grew hb27 (grew hb28 (grew hb29 hb30))))
        have HlA := hid (hof.later (grew hb26 (grew hb27 (grew hb28 (grew hb29 hb30))))).at
        go_loopw [193] (fun si wr => ∃ k : Nat, k ≤ lf.length ∧ si = .int .i64 k ∧ Below kA.heap.size kA wr) (fun si _ => lf.length - (intOf si).toNat)
        case atStart => exact ⟨0, Nat.zero_le _, rfl, Below.refl _ _⟩
        case round =>
          obtain ⟨kk, hkk, rfl, hbr⟩ := hrel
          have hsr := hbr.size
          by_cases hkl : kk < lf.length
          · obtain ⟨bb, off, rfl, hbN, g0, g1⟩ := HlA.out kk hkl
            have q0 := cell_later hbr g0
            have q1 := cell_later hbr g1
            clear g0 g1
            have hbb : bb < wr.heap.size := by omega
            have hmem : (px lf kk, py lf kk) ∈ setA lf := by rw [HSA.out, mem_fromL, pair_of hkl]; exact List.getElem_mem hkl
            have HME := hid hmem
            clear hmem
            go_wp2_with (go_at_call 20; refine (hasPoint_c (setA lf) _ _ _ _ _ _ rfl hsm ((HfA.out.later hbr).later (by go_grown)).at HME.out).mono ?_; rintro e kB ⟨rfl, hb31⟩)
            go_roundw
            case rel => exact ⟨kk + 1, by omega, by go_num, grew hbr (grew (by go_grown) hb31)⟩
            case measure => simp [intOf]; omega
          · go_wp2
            go_ret
            exact ⟨rfl, grew HcA.out hbr⟩
    · have hmR : putA l x y = putR l x y := by rw [putA, hM]; rfl
      have hMl : l.length + 1 ≤ 1048576 := by omega
      have hpn : plcN (putR l x y) x y = plc l x y := by rw [plcN, put_there hM, plc_putR]; rfl
      go_upto_region 11 with (first
        | (go_at_call 7; refine (putImpl_c l x y _ _ _ wB rfl hlm hoB.fit hoB.at (cell_later hbB C0.out)).mono ?_; rw [hM, hmR]; rintro e w2 ⟨v2, rfl, ho2, hb2⟩; obtain ⟨a2, p2, hv2⟩ := ho2.shape; rw [putR_len] at hv2; subst hv2; have r20 := cell_later hb2 r0; have r21 := cell_later hb2 r1)
        | (go_at_call 8; refine (putSpec_c l x y _ _ _ w2 rfl hlm hoB.fit (hoB.later hb2).at).mono ?_; rw [hM, hmR]; rintro e w3 ⟨v3, rfl, ho3, hb3⟩; obtain ⟨a3, p3, hv3⟩ := ho3.shape; rw [putR_len] at hv3; subst hv3; have hB3 := grew hb2 hb3)
        | (go_at_call 9; clear t1; refine (same_c (putR l x y) (putR l x y) _ _ (l.length + 1) _ (l.length + 1) _ w3 (putR_len l x y) (putR_len l x y) hMl hMl (ho2.later hb3).at ho3.at).mono ?_; rintro e w4 ⟨rfl, hb4⟩; have hB4 := grew hB3 hb4; have hc4 := grew hbB hB4)
        | (go_at_call 10; clear t2; refine (goodSetImpl_c l _ _ _ w4 rfl hlm (hoB.later hB4).at (cell_later hc4 C0.out)).mono ?_; rintro e w5 ⟨rfl, hb5⟩; have hB5 := grew hB4 hb5)
        | (go_at_call 11; clear t3; refine (goodSetSpec_c l _ _ _ w5 rfl hlm (hoB.later hB5).at).mono ?_; rintro e w6 ⟨rfl, hb6⟩; have hB6 := grew hB5 hb6; have hc6 := grew hbB hB6; have r60 := cell_later hB6 r0; have r61 := cell_later hB6 r1; have hq6 := ho2.later (grew hb3 (grew hb4 (grew hb5 hb6))))
        | (go_at_call 12; clear t4; refine (placeImpl_c (putR l x y) x y _ (l.length + 1) _ w6 (putR_len l x y) hMl hq6.at (cell_later hc6 C0.out)).mono ?_; rw [put_there hM, hpn]; rintro e w7 ⟨rfl, hb7⟩; have hB7 := grew hB6 hb7; have hc7 := grew hbB hB7; have r70 := cell_later hB7 r0; have r71 := cell_later hB7 r1)
        | (go_at_call 13; clear t5; refine (dropImpl_c (putR l x y) x y _ (l.length + 1) _ w7 (putR_len l x y) hMl hq6.fit (hq6.later hb7).at (cell_later hc7 C0.out)).mono ?_; rw [put_there hM, put_drop hM]; rintro e w8 ⟨v8, rfl, ho8, hb8⟩; obtain ⟨a8, p8, hv8⟩ := ho8.shape; subst hv8; have hB8 := grew hB7 hb8; have hc8 := grew hbB hB8))
      have r80 := cell_later hB8 r0
      have r81 := cell_later hB8 r1
      have hq8 := hq6.later (grew hb7 hb8)
      have hk := plc_le l x y
      obtain ⟨g2, off2, e2, hg2, q0, q1⟩ := hq8.at (plc l x y) (by rw [putR_len]; omega)
      rw [px_putR_at] at q0
      rw [py_putR_at] at q1
      subst e2
      have HQ8 := hid hq8
      have hsB8 := hoB.later hB8
      clear hq8 hq6 hpn
      generalize plc l x y = k at q0 q1 hk ⊢
      have hk1 : (0 : Int) ≤ (k : Int) := by omega
      have hk2 : (k : Int) < (l.length : Int) + 1 := by omega
      have hk3 : k < l.length + 1 := by omega
      have hk4 : decide (l.length + 1 ≤ k) = false := decide_eq_false (by omega)
      have hk5 : decide ((l.length : Int) + 1 ≤ (k : Int)) = false := decide_eq_false (by omega)
      go_region_held3 (fun u => u.cell? ⟨w1.heap.size, 0, none⟩ = some (.int .i64 x) ∧ u.cell? ⟨w1.heap.size, 1, none⟩ = some (.int .i64 y) ∧ u.cell? ⟨g2, off2 + k * 2, none⟩ = some (.int .i64 x) ∧ u.cell? ⟨g2, off2 + k * 2 + 1, none⟩ = some (.int .i64 y) ∧ Below w8.heap.size w8 u) (first | exact keep4 (by with_reducible assumption) (by with_reducible assumption) | exact start4 (Below.refl _ _).drew r80 r81 q0 q1 (Below.refl _ _)) (first
        | (go_at_call 10; refine (goodSetImpl_c (putR l x y) _ (l.length + 1) _ _ (putR_len l x y) hMl (HQ8.out.later (fin4 (by with_reducible assumption))).at (cell_later (grew hc8 (fin4 (by with_reducible assumption))) C0.out)).mono ?_; rw [good_putR hM]; rintro e w9 ⟨rfl, hb9⟩)
        | (go_at_call 9; refine (same_c l l _ _ _ _ _ _ _ rfl rfl hlm hlm (ho8.later (fin4 (by with_reducible assumption))).at (hsB8.later (fin4 (by with_reducible assumption))).at).mono ?_; rintro e w10 ⟨rfl, hb10⟩))
      have hS10 : Below w8.heap.size w8 w10 := fin4 (by with_reducible assumption)
      have hc10 := grew hc8 hS10
      go_upto_region 14 with (go_at_call 14; refine (drawDrop_c _ _ _ w10 ((HB1.out.below hc10).mono hc10.size) l1).mono ?_; rintro e wj ⟨vj, xj, yj, rfl, lj, hoj, hlj, hbj⟩; obtain ⟨aj, pj, hvj⟩ := hoj.shape; subst hvj; have hcj := grew hc10 hbj)
      have s0 := box0 wj xj yj 26
      have s1 := box1 wj xj yj 26
      have hck : Below w.heap.size w (wj.alloc (.cells #[.int .i64 xj, .int .i64 yj] 26)) := grew hcj (by go_grown)
      have hok := hoj.later (by go_grown : Below wj.heap.size wj (wj.alloc (.cells #[.int .i64 xj, .int .i64 yj] 26)))
      generalize wj.alloc (.cells #[.int .i64 xj, .int .i64 yj] 26) = wk at s0 s1 hck hok ⊢
      have hjm : lj.length ≤ 1048576 := by omega
      have hdm := dropA_len lj xj yj hjm
      have u1 : True := trivial
      have u2 : True := trivial
      go_upto_region 19 with (first
        | (go_at_call 13; refine (dropImpl_c lj xj yj _ _ _ wk rfl hjm hok.fit hok.at (cell_later hck C0.out)).mono ?_; rintro e k1 ⟨z1, rfl, ho21, hb21⟩; obtain ⟨a21, p21, hv21⟩ := ho21.shape; subst hv21; have s20 := cell_later hb21 s0; have s21 := cell_later hb21 s1)
        | (go_at_call 15; refine (dropSpec_c lj xj yj _ _ _ k1 rfl hjm hok.fit (hok.later hb21).at).mono ?_; rintro e k2 ⟨z2, rfl, ho22, hb22⟩; obtain ⟨a22, p22, hv22⟩ := ho22.shape; subst hv22; have hK2 := grew hb21 hb22; have hck2 := grew hck hK2; have s30 := cell_later hK2 s0; have s31 := cell_later hK2 s1)
        | (go_at_call 12; refine (placeImpl_c lj xj yj _ _ _ k2 rfl hjm (hok.later hK2).at (cell_later hck2 C0.out)).mono ?_; rintro e k3 ⟨rfl, hb23⟩; have hK3 := grew hK2 hb23; have s40 := cell_later hK3 s0; have s41 := cell_later hK3 s1)
        | (go_at_call 16; refine (placeSpec_c lj xj yj _ _ _ k3 rfl hjm (hok.later hK3).at).mono ?_; rintro e k4 ⟨rfl, hb24⟩; have hK4 := grew hK3 hb24; have hck4 := grew hck hK4)
        | (go_at_call 17; refine (drawFrom_c _ _ _ k4 ((HB1.out.below hck4).mono hck4.size) l1).mono ?_; rintro e k5 ⟨z5, rfl, lf, hof, hlf, hb25⟩; obtain ⟨af, pf, hvf⟩ := hof.shape; subst hvf; have hck5 := grew hck4 hb25))
      have hfm : lf.length ≤ 1048576 := by omega
      have hsm := setA_len lf hfm
      have hq21 := ho21.later (grew hb22 (grew hb23 (grew hb24 hb25)))
      have hq22 := ho22.later (grew hb23 (grew hb24 hb25))
      cases hS : setOk lf
      · go_wp2_with (first
          | (go_at_call 18; refine (setImpl_c lf _ _ _ k5 rfl hfm hof.at (cell_later hck5 C0.out)).mono ?_; rw [hS]; rintro e k6 ⟨z6, rfl, ho26, hb26⟩; obtain ⟨a26, p26, hv26⟩ := ho26.shape; subst hv26)
          | (go_at_call 19; refine (setSpec_c lf _ _ _ k6 rfl hfm (hof.later hb26).at).mono ?_; rw [hS]; rintro e k7 ⟨z7, rfl, ho27, hb27⟩; obtain ⟨a27, p27, hv27⟩ := ho27.shape; subst hv27)
          | (go_at_call 9; clear u1; refine (same_c (dropA lj xj yj) (dropA lj xj yj) _ _ _ _ _ _ k7 rfl rfl hdm hdm (hq21.later (grew hb26 hb27)).at (hq22.later (grew hb26 hb27)).at).mono ?_; rintro e k8 ⟨rfl, hb28⟩)
          | (go_at_call 9; clear u2; refine (same_c (setA lf) (setA lf) _ _ _ _ _ _ k8 rfl rfl hsm hsm (ho26.later (grew hb27 hb28)).at (ho27.later hb28).at).mono ?_; rintro e k9 ⟨rfl, hb29⟩))
        all_goals go_ret
        all_goals exact ⟨rfl, grew hck5 (grew hb26 (grew hb27 (grew hb28 hb29)))⟩
      · have HGS := hid (good_setA hS)
        have hsA : setA lf = fromL lf := by rw [setA, hS]; rfl
        have HSA := hid hsA
        clear hsA
        go_wp2_with (first
          | (go_at_call 18; refine (setImpl_c lf _ _ _ k5 rfl hfm hof.at (cell_later hck5 C0.out)).mono ?_; rw [hS]; rintro e k6 ⟨z6, rfl, ho26, hb26⟩; obtain ⟨a26, p26, hv26⟩ := ho26.shape; subst hv26)
          | (go_at_call 19; refine (setSpec_c lf _ _ _ k6 rfl hfm (hof.later hb26).at).mono ?_; rw [hS]; rintro e k7 ⟨z7, rfl, ho27, hb27⟩; obtain ⟨a27, p27, hv27⟩ := ho27.shape; subst hv27)
          | (go_at_call 9; clear u1; refine (same_c (dropA lj xj yj) (dropA lj xj yj) _ _ _ _ _ _ k7 rfl rfl hdm hdm (hq21.later (grew hb26 hb27)).at (hq22.later (grew hb26 hb27)).at).mono ?_; rintro e k8 ⟨rfl, hb28⟩)
          | (go_at_call 9; clear u2; refine (same_c (setA lf) (setA lf) _ _ _ _ _ _ k8 rfl rfl hsm hsm (ho26.later (grew hb27 hb28)).at (ho27.later hb28).at).mono ?_; rintro e k9 ⟨rfl, hb29⟩)
          | (go_at_call 10; refine (goodSetImpl_c (setA lf) _ _ _ k9 rfl hsm (ho26.later (grew hb27 (grew hb28 hb29))).at (cell_later (grew hck5 (grew hb26 (grew hb27 (grew hb28 hb29)))) C0.out)).mono ?_; rw [HGS.out]; rintro e kA ⟨rfl, hb30⟩))
        have HcA := hid (grew hck5 (grew hb26 (grew hb27 (grew hb28 (grew hb29 hb30)))))
        have HfA := hid (ho26.later (grew hb27 (grew hb28 (grew hb29 hb30))))
        have HlA := hid (hof.later (grew hb26 (grew hb27 (grew hb28 (grew hb29 hb30))))).at
        go_loopw [193] (fun si wr => ∃ k : Nat, k ≤ lf.length ∧ si = .int .i64 k ∧ Below kA.heap.size kA wr) (fun si _ => lf.length - (intOf si).toNat)
        case atStart => exact ⟨0, Nat.zero_le _, rfl, Below.refl _ _⟩
        case round =>
          obtain ⟨kk, hkk, rfl, hbr⟩ := hrel
          have hsr := hbr.size
          by_cases hkl : kk < lf.length
          · obtain ⟨bb, off, rfl, hbN, g0, g1⟩ := HlA.out kk hkl
            have q0 := cell_later hbr g0
            have q1 := cell_later hbr g1
            clear g0 g1
            have hbb : bb < wr.heap.size := by omega
            have hmem : (px lf kk, py lf kk) ∈ setA lf := by rw [HSA.out, mem_fromL, pair_of hkl]; exact List.getElem_mem hkl
            have HME := hid hmem
            clear hmem
            go_wp2_with (go_at_call 20; refine (hasPoint_c (setA lf) _ _ _ _ _ _ rfl hsm ((HfA.out.later hbr).later (by go_grown)).at HME.out).mono ?_; rintro e kB ⟨rfl, hb31⟩)
            go_roundw
            case rel => exact ⟨kk + 1, by omega, by go_num, grew hbr (grew (by go_grown) hb31)⟩
            case measure => simp [intOf]; omega
          · go_wp2
            go_ret
            exact ⟨rfl, grew HcA.out hbr⟩
  · go_enter Tryd.func3, Tryd.ntmps3
    go_wp2_with (go_at_call 5; refine (big_t _ _ _ _ _ _ _ m0 m1 hl).mono ?_; rintro e w' ⟨rfl, rfl⟩)
    go_ret
    exact ⟨rfl, by go_grown⟩
end Go.Proofs.YtfhlgdngmdlakaaDoor
