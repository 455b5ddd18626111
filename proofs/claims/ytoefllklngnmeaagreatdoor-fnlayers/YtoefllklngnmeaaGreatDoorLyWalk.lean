/-
  The walk of the law FnLayers.
  Conditions: as the theorems state them.
-/
import Derived.Test.YtoefllklngnmeaaGreatDoorDrLay
import Derived.Test.YtoefllklngnmeaaGreatDoorLyLaw
import Derived.Test.YtoefllklngnmeaaGreatDoorLy9h
import Derived.Test.YtoefllklngnmeaaGreatDoorHHull
namespace Go.Proofs.YtoefllklngnmeaaGreatDoor
open Go.RowKit
set_option linter.unusedVariables false
set_option maxRecDepth 8000
theorem lysL_nth (l : List (Int × Int)) {i : Nat} (hi : i < (lysL l).length) : (nth (lysL l) i).length ≤ 1000 := by
  have : nth (lysL l) i ∈ lysL l := by unfold nth; rw [List.getD_eq_getElem?_getD, List.getElem?_eq_getElem hi]; exact List.getElem_mem hi
  have := lysL_in l _ this
  omega
theorem peN_most : ∀ (n m : Nat) (s : List (Int × Int)), s.length ≤ n → goodL s = true → (peeN n m s).length ≤ m
  | 0, m, s, h, _ => by show s.length ≤ m; omega
  | n + 1, m, s, h, hG => by
    show (if s.length ≤ m then s else peeN n m (rstL s)).length ≤ m
    split
    · assumption
    · exact peN_most n m _ (by have := rst_less hG (by omega); omega) (rstL_good hG)
theorem peV_most {l : List (Int × Int)} {m : Int} (h : peOk l m = true) : ((peV l m).length : Int) ≤ m := by
  obtain ⟨hG, h0, h6⟩ := pe_parts h
  unfold peV
  rw [if_pos h]
  have := peN_most l.length m.toNat l (Nat.le_refl _) hG
  unfold peeL
  omega
theorem big_c (a0 : Option Addr) (len0 cap0 : Nat) (a1 : Option Addr) (len1 cap1 : Nat) (w : World) (h : len0 + len1 ≤ 1048576) :
    Calls Tryz.prog 4 #[.slice a0 len0 cap0, .slice a1 len1 cap1] w fun e w' => e = .returned (.bool false) ∧ w = w' := by
  have h0 : ¬ (1048576 : Int) < (len0 : Int) := by omega
  have h1 : ¬ (1048576 : Int) - (len0 : Int) < (len1 : Int) := by omega
  go_enter Tryz.func4, Tryz.ntmps4
  go_wp2
  go_ret
  exact ⟨rfl, rfl⟩
theorem big_t (a0 : Option Addr) (len0 cap0 : Nat) (a1 : Option Addr) (len1 cap1 : Nat) (w : World) (m0 : len0 ≤ maxLen) (m1 : len1 ≤ maxLen) (h : ¬ len0 + len1 ≤ 1048576) :
    Calls Tryz.prog 4 #[.slice a0 len0 cap0, .slice a1 len1 cap1] w fun e w' => e = .returned (.bool true) ∧ w = w' := by
  unfold maxLen at m0 m1
  by_cases h0 : (1048576 : Int) < (len0 : Int)
  · go_enter Tryz.func4, Tryz.ntmps4
    go_wp2
    go_ret
    exact ⟨rfl, rfl⟩
  · have h1 : (1048576 : Int) - (len0 : Int) < (len1 : Int) := by omega
    go_enter Tryz.func4, Tryz.ntmps4
    go_wp2
    go_ret
    exact ⟨rfl, rfl⟩
set_option maxHeartbeats 4000000 in
theorem sameFans_c (L : List (List (Int × Int))) (a c : Option Addr) (n cap cam : Nat) (w : World) (hn : L.length = n) (h1 : n ≤ 1048576) (h2 : ∀ i, i < n → (nth L i).length ≤ 1048576) (hA : AtSS w.heap.size a L w) (hB : AtSS w.heap.size c L w) :
    Calls Tryz.prog 12 #[.slice a n cap, .slice c n cam] w fun e w' => e = .returned (.bool true) ∧ Below w.heap.size w w' := by
  subst hn
  have HA := hid hA
  have HB := hid hB
  clear hA hB
  go_enter Tryz.func12, Tryz.ntmps12
  go_wp2
  go_loopw [13] (fun ii wr => ∃ i : Nat, i ≤ L.length ∧ ii = .int .i64 i ∧ Below w.heap.size w wr) (fun ii _ => L.length - (intOf ii).toNat)
  case atStart => exact ⟨0, Nat.zero_le _, rfl, Below.refl _ _⟩
  case round =>
    obtain ⟨i, hi, rfl, hbw⟩ := hrel
    by_cases hil : i < L.length
    · obtain ⟨b, off, ai, ci, rfl, hN, g0, i0⟩ := HA.out i hil
      obtain ⟨b2, off2, aj, cj, rfl, hN2, g1, i1⟩ := HB.out i hil
      have q0 := cell_later hbw g0
      have q1 := cell_later hbw g1
      have hin := h2 i hil
      have I0 := hid i0
      have I1 := hid i1
      have j0 : (0 : Int) ≤ (i : Int) := by omega
      have j1 : (i : Int) < (L.length : Int) := by omega
      clear g0 g1 i0 i1
      go_wp2
      go_region_held3 (fun u => u.cell? ⟨b, off + i, none⟩ = some (.slice ai (nth L i).length ci) ∧ u.cell? ⟨b2, off2 + i, none⟩ = some (.slice aj (nth L i).length cj) ∧ Below w.heap.size w u) (first | exact keep2 (by with_reducible assumption) (by with_reducible assumption) | exact ⟨cell_later (Below.refl _ _).drew q0, cell_later (Below.refl _ _).drew q1, hbw.trans ((Below.refl _ _).drew)⟩) (first | (go_at_call 13; refine (same_c (nth L i) (nth L i) _ _ _ _ _ _ _ rfl rfl hin hin ?_ ?_).mono ?_; (exact (I0.out.later (fin2 (by with_reducible assumption))).mono (fin2 (by with_reducible assumption)).size); (exact (I1.out.later (fin2 (by with_reducible assumption))).mono (fin2 (by with_reducible assumption)).size); rintro e w' ⟨rfl, hb⟩))
      go_wp2
      go_roundw
      case rel => exact ⟨i + 1, by omega, by go_num, fin2 (by with_reducible assumption)⟩
      case measure => simp [intOf]; omega
    · obtain rfl : i = L.length := by omega
      go_wp2
      go_ret
      exact ⟨rfl, hbw⟩
theorem sum_step {L : List (List (Int × Int))} {k : Nat} (h : k < L.length) : sumLen (L.take (k + 1)) = sumLen (L.take k) + (nth L k).length := by
  have e : nth L k = L[k] := by unfold nth; rw [List.getD_eq_getElem?_getD, List.getElem?_eq_getElem h]; rfl
  rw [List.take_add_one, List.getElem?_eq_getElem h, sumLen_append, e]
  simp [sumLen]
theorem sum_le (L : List (List (Int × Int))) (k : Nat) : sumLen (L.take k) ≤ sumLen L := by
  have := sumLen_append (L.take k) (L.drop k)
  rw [List.take_append_drop] at this
  omega
set_option maxRecDepth 8000 in
set_option maxHeartbeats 16000000 in
theorem layers_walk (a0 : Option Addr) (len0 cap0 : Nat) (a1 : Option Addr) (len1 cap1 : Nat) (w : World) (B0 : Bytes w.heap.size a0 len0 w) (B1 : Bytes w.heap.size a1 len1 w) (m0 : len0 ≤ maxLen) (m1 : len1 ≤ maxLen) (c0 : w.cell? ⟨0, 0, none⟩ = some (.int .i64 1000000)) :
    Calls Tryz.prog 3 #[.slice a0 len0 cap0, .slice a1 len1 cap1] w fun e w' => e = .returned (.bool true) ∧ Below w.heap.size w w' := by
  have C0 := hid c0
  have HB0 := hid B0
  have HB1 := hid B1
  clear c0 B0 B1
  by_cases hl : len0 + len1 ≤ 1048576
  · have l0 : len0 ≤ 1048576 := by omega
    have l1 : len1 ≤ 1048576 := by omega
    clear m0 m1
    go_enter Tryz.func3, Tryz.ntmps3
    go_upto_region 4 with (first
      | (go_at_call 4; refine (big_c _ _ _ _ _ _ _ hl).mono ?_; rintro e w' ⟨rfl, rfl⟩)
      | (go_at_call 5; refine (drawLays_c _ _ _ _ HB0.out l0).mono ?_; rintro e w1 ⟨v1, rfl, s, hos, hs13, hb1⟩; obtain ⟨av, ps, hvs⟩ := hos.shape; subst hvs))
    have hsm : s.length ≤ 1048576 := by omega
    cases hG : goodL s
    · go_upto_region 34 with (first
        | (go_at_call 6; refine (layersImpl_c s _ _ _ w1 rfl hsm hos.at (cell_later hb1 C0.out)).mono ?_; rw [hG]; rintro e w2 ⟨v2, vs2, rfl, ho2, hb2⟩; obtain ⟨a2, p2, hv2⟩ := ho2.shape; subst hv2; have hc2 := grew hb1 hb2)
        | (go_at_call 7; refine (layersSpec_c s _ _ _ w2 rfl hsm hos.fit (hos.later hb2).at).mono ?_; rw [hG]; rintro e w3 ⟨v3, vs3, rfl, ho3, hb3⟩; obtain ⟨a3, p3, hv3⟩ := ho3.shape; subst hv3; have hB3 := grew hb2 hb3; have hc3 := grew hb1 hB3)
        | (go_at_call 8; refine (manyImpl_c s _ _ _ w3 rfl hsm (hos.later hB3).at (cell_later hc3 C0.out)).mono ?_; rw [hG]; rintro e w4 ⟨rfl, hb4⟩; have hB4 := grew hB3 hb4; have hc4 := grew hb1 hB4)
        | (go_at_call 9; refine (manySpec_c s _ _ _ w4 rfl hsm hos.fit (hos.later hB4).at).mono ?_; rw [hG]; rintro e w5 ⟨rfl, hb5⟩; have hB5 := grew hB4 hb5; have hc5 := grew hb1 hB5)
        | (go_at_call 10; refine (withoutImpl_c s _ _ _ w5 rfl hsm (hos.later hB5).at (cell_later hc5 C0.out)).mono ?_; rw [hG]; rintro e w6 ⟨v6, rfl, ho6, hb6⟩; obtain ⟨a6, p6, hv6⟩ := ho6.shape; subst hv6; have hB6 := grew hB5 hb6)
        | (go_at_call 11; refine (withoutSpec_c s _ _ _ w6 rfl hsm hos.fit (hos.later hB6).at).mono ?_; rw [hG]; rintro e w7 ⟨v7, rfl, ho7, hb7⟩; obtain ⟨a7, p7, hv7⟩ := ho7.shape; subst hv7; have hB7 := grew hB6 hb7; have hc7 := grew hb1 hB7; have q27 := grew hb3 (grew hb4 (grew hb5 (grew hb6 hb7))); have q37 := grew hb4 (grew hb5 (grew hb6 hb7)); have hq2 := ho2.later q27; have hq3 := ho3.later q37; have hq6 := ho6.later hb7)
        | (go_at_call 12; refine (sameFans_c (lysL s) _ _ _ _ _ w7 rfl (by have := lysL_len s; omega) (fun i hi => Nat.le_trans (lysL_nth s hi) (by omega)) hq2.at hq3.at).mono ?_; rintro e w8 ⟨rfl, hb8⟩; have hB8 := grew hB7 hb8; have hc8 := grew hb1 hB8)
        | (go_at_call 13; refine (same_c (woL s) (woL s) _ _ _ _ _ _ w8 rfl rfl (by have := woL_len s; omega) (by have := woL_len s; omega) (hq6.later hb8).at (ho7.later hb8).at).mono ?_; rintro e w9 ⟨rfl, hb9⟩; have hB9 := grew hB8 hb9; have hc9 := grew hb1 hB9))
      go_upto_region 35 with (go_at_call 17; refine (drawPeel_c _ _ _ w9 ((HB1.out.below hc9).mono hc9.size) l1).mono ?_; rintro e wj ⟨vj, m, rfl, lj, hoj, hlj, hmj, hbj⟩; obtain ⟨aj, pj, hvj⟩ := hoj.shape; subst hvj; have hcj := grew hc9 hbj)
      cases hPk : peOk lj m
      · go_wp2_with (first
          | (go_at_call 18; refine (peelImpl_c lj m _ _ _ wj rfl (by omega) hoj.at (cell_later hcj C0.out)).mono ?_; rw [hPk]; rintro e wk ⟨vk, rfl, hok, hbk⟩; obtain ⟨ak, pk, hvk⟩ := hok.shape; subst hvk; have hck := grew hcj hbk)
          | (go_at_call 19; refine (peelSpec_c lj m _ _ _ wk rfl (by omega) hoj.fit (hoj.later hbk).at).mono ?_; rw [hPk]; rintro e wl ⟨vl, rfl, hol, hbl⟩; obtain ⟨al, pl, hvl⟩ := hol.shape; subst hvl; have hcl := grew hck hbl; have hkl2 := hok.later hbl)
          | (go_at_call 20; refine (drawLay_c _ _ _ wl ((HB1.out.below hcl).mono hcl.size) l1).mono ?_; rintro e wm ⟨vm, ux, uy, rfl, lm, hom, hlm, hbm⟩; obtain ⟨am, pm, hvm⟩ := hom.shape; subst hvm; have hcm := grew hcl hbm; have hkm := hkl2.later hbm; have hlm2 := hol.later hbm)
          | (go_at_call 14; refine (layerImpl_c lm ux uy _ _ _ _ rfl (by omega) (hom.later (show Below wm.heap.size wm (wm.alloc (.cells #[.int .i64 ux, .int .i64 uy] 36)) by go_grown)).at (cell_later (grew hcm (show Below wm.heap.size wm (wm.alloc (.cells #[.int .i64 ux, .int .i64 uy] 36)) by go_grown)) C0.out)).mono ?_; rintro e wn ⟨rfl, hbn⟩; have hbn2 := (show Below wm.heap.size wm (wm.alloc (.cells #[.int .i64 ux, .int .i64 uy] 36)) by go_grown).trans (hbn.mono (by simp)); have hcn := grew hcm hbn2; have n0 := cell_later hbn (box0 wm ux uy 36); have n1 := cell_later hbn (box1 wm ux uy 36))
          | (go_at_call 21; refine (layerSpec_c lm ux uy _ _ _ wn rfl (by omega) hom.fit (hom.later hbn2).at).mono ?_; rintro e wo ⟨rfl, hbo⟩; have hco := grew hcn hbo; have hko := hkm.later (grew hbn2 hbo); have hlo := hlm2.later (grew hbn2 hbo))
          | (go_at_call 13; refine (same_c (peV lj m) (peV lj m) _ _ _ _ _ _ wo rfl rfl (by have := peV_len lj m; omega) (by have := peV_len lj m; omega) hko.at hlo.at).mono ?_; rintro e wp ⟨rfl, hbp⟩))
        all_goals go_ret
        all_goals exact ⟨rfl, grew hco hbp⟩
      · have hmost := peV_most hPk
        have hd9 : decide (((peV lj m).length : Int) ≤ m) = true := decide_eq_true hmost
        go_wp2_with (first
          | (go_at_call 18; refine (peelImpl_c lj m _ _ _ wj rfl (by omega) hoj.at (cell_later hcj C0.out)).mono ?_; rw [hPk]; rintro e wk ⟨vk, rfl, hok, hbk⟩; obtain ⟨ak, pk, hvk⟩ := hok.shape; subst hvk; have hck := grew hcj hbk)
          | (go_at_call 19; refine (peelSpec_c lj m _ _ _ wk rfl (by omega) hoj.fit (hoj.later hbk).at).mono ?_; rw [hPk]; rintro e wl ⟨vl, rfl, hol, hbl⟩; obtain ⟨al, pl, hvl⟩ := hol.shape; subst hvl; have hcl := grew hck hbl; have hkl2 := hok.later hbl)
          | (go_at_call 20; refine (drawLay_c _ _ _ wl ((HB1.out.below hcl).mono hcl.size) l1).mono ?_; rintro e wm ⟨vm, ux, uy, rfl, lm, hom, hlm, hbm⟩; obtain ⟨am, pm, hvm⟩ := hom.shape; subst hvm; have hcm := grew hcl hbm; have hkm := hkl2.later hbm; have hlm2 := hol.later hbm)
          | (go_at_call 14; refine (layerImpl_c lm ux uy _ _ _ _ rfl (by omega) (hom.later (show Below wm.heap.size wm (wm.alloc (.cells #[.int .i64 ux, .int .i64 uy] 36)) by go_grown)).at (cell_later (grew hcm (show Below wm.heap.size wm (wm.alloc (.cells #[.int .i64 ux, .int .i64 uy] 36)) by go_grown)) C0.out)).mono ?_; rintro e wn ⟨rfl, hbn⟩; have hbn2 := (show Below wm.heap.size wm (wm.alloc (.cells #[.int .i64 ux, .int .i64 uy] 36)) by go_grown).trans (hbn.mono (by simp)); have hcn := grew hcm hbn2; have n0 := cell_later hbn (box0 wm ux uy 36); have n1 := cell_later hbn (box1 wm ux uy 36))
          | (go_at_call 21; refine (layerSpec_c lm ux uy _ _ _ wn rfl (by omega) hom.fit (hom.later hbn2).at).mono ?_; rintro e wo ⟨rfl, hbo⟩; have hco := grew hcn hbo; have hko := hkm.later (grew hbn2 hbo); have hlo := hlm2.later (grew hbn2 hbo))
          | (go_at_call 13; refine (same_c (peV lj m) (peV lj m) _ _ _ _ _ _ wo rfl rfl (by have := peV_len lj m; omega) (by have := peV_len lj m; omega) hko.at hlo.at).mono ?_; rintro e wp ⟨rfl, hbp⟩))
        all_goals go_ret
        all_goals exact ⟨rfl, grew hco hbp⟩
    · have hE : lysL s = layL s := by unfold lysL; rw [if_pos hG]
      have HSUMQ : Hid (sumLen (lysL s) = s.length) := hid (by rw [hE]; exact sum_all s.length s (Nat.le_refl _) hG)
      have HSUM : Hid (sumLen (lysL s) ≤ 60) := hid (by rw [HSUMQ.out]; omega)
      have HGD : Hid (∀ k, k < (lysL s).length → goodL (nth (lysL s) k) = true) := hid (fun k hk => by rw [hE] at hk ⊢; rw [(layL_at hG hk).1]; exact rimL_good (rstK_good hG k))
      have HNO : Hid (∀ k, k < (lysL s).length → ∀ j, j < (nth (lysL s) k).length → lyOk s (px (nth (lysL s) k) j, py (nth (lysL s) k) j) = true ∧ lyV s (px (nth (lysL s) k) j, py (nth (lysL s) k) j) = k) := hid (fun k hk j hj => by rw [hE] at hk hj ⊢; exact lay_no hG hk (pt_mem hj))
      have HCV : Hid (∀ k, k + 1 < (lysL s).length → cvOk (hulL (nth (lysL s) k)) (hulL (nth (lysL s) (k + 1))) = true ∧ cvB (hulL (nth (lysL s) k)) (hulL (nth (lysL s) (k + 1))) = true) := hid (fun k hk => by rw [hE] at hk ⊢; exact lay_cover hG (by omega) hk)
      clear hE
      go_upto_region 14 with (first
        | (go_at_call 6; refine (layersImpl_c s _ _ _ w1 rfl hsm hos.at (cell_later hb1 C0.out)).mono ?_; rw [hG]; rintro e w2 ⟨v2, vs2, rfl, ho2, hb2⟩; obtain ⟨a2, p2, hv2⟩ := ho2.shape; subst hv2; have hc2 := grew hb1 hb2)
        | (go_at_call 7; refine (layersSpec_c s _ _ _ w2 rfl hsm hos.fit (hos.later hb2).at).mono ?_; rw [hG]; rintro e w3 ⟨v3, vs3, rfl, ho3, hb3⟩; obtain ⟨a3, p3, hv3⟩ := ho3.shape; subst hv3; have hB3 := grew hb2 hb3; have hc3 := grew hb1 hB3)
        | (go_at_call 8; refine (manyImpl_c s _ _ _ w3 rfl hsm (hos.later hB3).at (cell_later hc3 C0.out)).mono ?_; rw [hG]; rintro e w4 ⟨rfl, hb4⟩; have hB4 := grew hB3 hb4; have hc4 := grew hb1 hB4)
        | (go_at_call 9; refine (manySpec_c s _ _ _ w4 rfl hsm hos.fit (hos.later hB4).at).mono ?_; rw [hG]; rintro e w5 ⟨rfl, hb5⟩; have hB5 := grew hB4 hb5; have hc5 := grew hb1 hB5)
        | (go_at_call 10; refine (withoutImpl_c s _ _ _ w5 rfl hsm (hos.later hB5).at (cell_later hc5 C0.out)).mono ?_; rw [hG]; rintro e w6 ⟨v6, rfl, ho6, hb6⟩; obtain ⟨a6, p6, hv6⟩ := ho6.shape; subst hv6; have hB6 := grew hB5 hb6)
        | (go_at_call 11; refine (withoutSpec_c s _ _ _ w6 rfl hsm hos.fit (hos.later hB6).at).mono ?_; rw [hG]; rintro e w7 ⟨v7, rfl, ho7, hb7⟩; obtain ⟨a7, p7, hv7⟩ := ho7.shape; subst hv7; have hB7 := grew hB6 hb7; have hc7 := grew hb1 hB7; have q27 := grew hb3 (grew hb4 (grew hb5 (grew hb6 hb7))); have q37 := grew hb4 (grew hb5 (grew hb6 hb7)); have hq2 := ho2.later q27; have hq3 := ho3.later q37; have hq6 := ho6.later hb7)
        | (go_at_call 12; refine (sameFans_c (lysL s) _ _ _ _ _ w7 rfl (by have := lysL_len s; omega) (fun i hi => Nat.le_trans (lysL_nth s hi) (by omega)) hq2.at hq3.at).mono ?_; rintro e w8 ⟨rfl, hb8⟩; have hB8 := grew hB7 hb8; have hc8 := grew hb1 hB8)
        | (go_at_call 13; refine (same_c (woL s) (woL s) _ _ _ _ _ _ w8 rfl rfl (by have := woL_len s; omega) (by have := woL_len s; omega) (hq6.later hb8).at (ho7.later hb8).at).mono ?_; rintro e w9 ⟨rfl, hb9⟩; have hB9 := grew hB8 hb9; have hc9 := grew hb1 hB9))
      have HSA := hos.later hB9
      have HLA := hid (hq2.later (grew hb8 hb9)).at
      have HCA := hid hc9
      obtain ⟨wA, hwA⟩ : ∃ wA, wA = w9 := ⟨_, rfl⟩
      subst hwA
      clear hos ho2 ho3 ho6 ho7 hq2 hq3 hq6 hb1 hb2 hb3 hb4 hb5 hb6 hb7 hb8 hb9 hB3 hB4 hB5 hB6 hB7 hB8 hB9 hc2 hc3 hc4 hc5 hc7 hc8 hc9 q27 q37
      go_wp2
      go_loopw [18, 120] (fun sv sk wr => ∃ k : Nat, k ≤ (lysL s).length ∧ sv = .int .i64 (sumLen ((lysL s).take k) : Nat) ∧ sk = .int .i64 k ∧ Below wA.heap.size wA wr) (fun _ sk _ => (lysL s).length - (intOf sk).toNat)
      case atStart => exact ⟨0, Nat.zero_le _, by simp [sumLen], rfl, Below.refl _ _⟩
      case round =>
        obtain ⟨k, hk, rfl, rfl, hbr⟩ := hrel
        have hL60 := lysL_len s
        by_cases hkl : k < (lysL s).length
        · obtain ⟨b, off, ai, ci, ea, hN, g0, i0⟩ := HLA.out k hkl
          subst ea
          have q0 := cell_later hbr g0
          have IX := hid ((i0.later hbr).mono hbr.size)
          have HGX := hid (HGD.out k hkl)
          have hxm := Nat.le_trans (lysL_nth s hkl) (show 1000 ≤ 1048576 by omega)
          have hx60 := lysL_nth s hkl
          have HNX := hid (HNO.out k hkl)
          have hsum : sumLen ((lysL s).take (k + 1)) = sumLen ((lysL s).take k) + (nth (lysL s) k).length := sum_step hkl
          have hsle : sumLen ((lysL s).take (k + 1)) ≤ 60 := Nat.le_trans (sum_le _ _) HSUM.out
          obtain ⟨x, hx⟩ : ∃ x, nth (lysL s) k = x := ⟨_, rfl⟩
          have HX := hid hx
          rw [hx] at IX HGX HNX hxm hx60 hsum q0
          obtain ⟨sm, hsm2⟩ : ∃ n, sumLen ((lysL s).take k) = n := ⟨_, rfl⟩
          rw [hsm2] at hsum ⊢
          have HSU := hid hsum
          have hsmb : sm + x.length ≤ 60 := by omega
          have HBA := hid hbr
          have HCB := hid (grew HCA.out hbr)
          have HSB := HSA.later hbr
          have hbl : b < wr.heap.size := by have := hbr.size; omega
          have j0 : (0 : Int) ≤ (k : Int) := by omega
          have j1 : (k : Int) < ((lysL s).length : Int) := by omega
          clear g0 i0 hx hsm2 hsum hsle hbr
          obtain ⟨wB, rfl⟩ : ∃ wB, wB = wr := ⟨wr, rfl⟩
          go_wp2
          go_loopw [131] (fun sj wr => ∃ j : Nat, j ≤ x.length ∧ sj = .int .i64 j ∧ Below wB.heap.size wB wr) (fun sj _ => x.length - (intOf sj).toNat)
          case atStart => exact ⟨0, Nat.zero_le _, rfl, Below.refl _ _⟩
          case round =>
            obtain ⟨j, hj, rfl, hbj⟩ := hrel
            by_cases hjl : j < x.length
            · obtain ⟨bx, ox, ex, hbx, g0, g1⟩ := ((IX.out.later hbj).mono hbj.size) j hjl
              subst ex
              have hno := HNX.out j hjl
              obtain ⟨ux, hx⟩ : ∃ u, px x j = u := ⟨_, rfl⟩
              obtain ⟨uy, hy⟩ : ∃ u, py x j = u := ⟨_, rfl⟩
              rw [hx, hy] at hno
              rw [hx] at g0
              rw [hy] at g1
              have HNO1 := hid hno.1
              have HNO2 := hid hno.2
              have hbX : Below wr.heap.size wr (wr.alloc (.cells #[.int .i64 ux, .int .i64 uy] 36)) := by go_grown
              have HBX := hid (grew hbj hbX)
              have HCX := hid (grew HCB.out HBX.out)
              have i0 : (0 : Int) ≤ (j : Int) := by omega
              have i1 : (j : Int) < (x.length : Int) := by omega
              clear hx hy hno hbX hbj
              go_wp2_with (go_at_call 14; refine (layerImpl_c s ux uy _ _ _ _ rfl hsm (HSB.later HBX.out).at (cell_later HCX.out C0.out)).mono ?_; rw [HNO1.out, HNO2.out]; rintro e w9 ⟨rfl, hb9⟩)
              go_roundw
              case rel => exact ⟨j + 1, by omega, by go_num, grew HBX.out hb9⟩
              case measure => simp [intOf]; omega
            · obtain rfl : j = x.length := by omega
              have HCR := hid (grew HCB.out hbj)
              have HBJ := hid hbj
              have IXR := hid ((IX.out.later hbj).mono hbj.size)
              have hszj := hbj.size
              by_cases hk0 : 0 < k
              · obtain ⟨k', rfl⟩ : ∃ k', k = k' + 1 := ⟨k - 1, by omega⟩
                obtain ⟨b2, off2, aj, cj, e2, hN2, g2, i2⟩ := HLA.out k' (by omega)
                obtain ⟨rfl, rfl⟩ : b = b2 ∧ off = off2 := by simpa using e2
                have q2 := cell_later hbj (cell_later HBA.out g2)
                have IP := hid (((i2.later HBA.out).mono HBA.out.size |>.later hbj).mono hbj.size)
                have hgp := HGD.out k' (by omega)
                have hlp := Nat.le_trans (lysL_nth s (i := k') (by omega)) (show 1000 ≤ 1048576 by omega)
                have hcv := HCV.out k' (by omega)
                rw [HX.out] at hcv
                obtain ⟨y, hy⟩ : ∃ y, nth (lysL s) k' = y := ⟨_, rfl⟩
                rw [hy] at hgp hlp hcv q2 IP
                have HC1 := hid hcv.1
                have HC2 := hid hcv.2
                have hw1 : IntKind.i64.wrap (((k' + 1 : Nat) : Int) - 1) = (k' : Int) := by rw [IntKind.wrap_i64]; omega
                have hd0 : decide ((0 : Int) < ((k' + 1 : Nat) : Int)) = true := decide_eq_true (by omega)
                have i4 : (0 : Int) ≤ (k' : Int) := by omega
                have i5 : (k' : Int) < ((lysL s).length : Int) := by omega
                have hbl2 : b < wr.heap.size := by have := HBA.out.size; omega
                have t5 : True := trivial
                clear g2 i2 e2 hbj hy hcv
                go_wp2_with (first
                  | (go_at_call 15; clear t5; refine (hullImpl_c y _ _ _ wr rfl hlp IP.out (cell_later HCR.out C0.out)).mono ?_; rw [hgp]; rintro e w21 ⟨v21, rfl, ho21, hb21⟩; obtain ⟨a21, p21, hv21⟩ := ho21.shape; subst hv21; have hc21 := grew HCR.out hb21)
                  | (go_at_call 15; refine (hullImpl_c x _ _ _ w21 rfl hxm ((IXR.out.later hb21).mono hb21.size) (cell_later hc21 C0.out)).mono ?_; rw [HGX.out]; rintro e w22 ⟨v22, rfl, ho22, hb22⟩; obtain ⟨a22, p22, hv22⟩ := ho22.shape; subst hv22; have hc22 := grew hc21 hb22)
                  | (go_at_call 16; refine (coversImpl_c (hulL y) (hulL x) _ _ _ _ _ _ w22 rfl rfl (hulL_len _ hlp) (hulL_len _ hxm) (ho21.later hb22).at ho22.at (cell_later hc22 C0.out)).mono ?_; rw [HC1.out, HC2.out]; rintro e w23 ⟨rfl, hb23⟩))
                go_roundw
                case rel => exact ⟨k' + 1 + 1, by omega, by rw [HSU.out]; go_num, by go_num, grew HBA.out (grew HBJ.out (grew hb21 (grew hb22 hb23)))⟩
                case measure => simp [intOf]; omega
              · obtain rfl : k = 0 := by omega
                go_wp2
                go_roundw
                case rel => exact ⟨0 + 1, by omega, by rw [HSU.out]; go_num, by go_num, grew HBA.out HBJ.out⟩
                case measure => simp [intOf]; omega
        · obtain rfl : k = (lysL s).length := by omega
          have hcz := grew HCA.out hbr
          have hsq : sumLen ((lysL s).take (lysL s).length) = s.length := by rw [List.take_length]; exact HSUMQ.out
          rw [hsq]
          clear hbr
          go_upto_region 34 with fail
          go_upto_region 35 with (go_at_call 17; refine (drawPeel_c _ _ _ wr ((HB1.out.below hcz).mono hcz.size) l1).mono ?_; rintro e wj ⟨vj, m, rfl, lj, hoj, hlj, hmj, hbj⟩; obtain ⟨aj, pj, hvj⟩ := hoj.shape; subst hvj; have hcj := grew hcz hbj)
          cases hPk : peOk lj m
          · go_wp2_with (first
              | (go_at_call 18; refine (peelImpl_c lj m _ _ _ wj rfl (by omega) hoj.at (cell_later hcj C0.out)).mono ?_; rw [hPk]; rintro e wk ⟨vk, rfl, hok, hbk⟩; obtain ⟨ak, pk, hvk⟩ := hok.shape; subst hvk; have hck := grew hcj hbk)
              | (go_at_call 19; refine (peelSpec_c lj m _ _ _ wk rfl (by omega) hoj.fit (hoj.later hbk).at).mono ?_; rw [hPk]; rintro e wl ⟨vl, rfl, hol, hbl⟩; obtain ⟨al, pl, hvl⟩ := hol.shape; subst hvl; have hcl := grew hck hbl; have hkl2 := hok.later hbl)
              | (go_at_call 20; refine (drawLay_c _ _ _ wl ((HB1.out.below hcl).mono hcl.size) l1).mono ?_; rintro e wm ⟨vm, ux, uy, rfl, lm, hom, hlm, hbm⟩; obtain ⟨am, pm, hvm⟩ := hom.shape; subst hvm; have hcm := grew hcl hbm; have hkm := hkl2.later hbm; have hlm2 := hol.later hbm)
              | (go_at_call 14; refine (layerImpl_c lm ux uy _ _ _ _ rfl (by omega) (hom.later (show Below wm.heap.size wm (wm.alloc (.cells #[.int .i64 ux, .int .i64 uy] 36)) by go_grown)).at (cell_later (grew hcm (show Below wm.heap.size wm (wm.alloc (.cells #[.int .i64 ux, .int .i64 uy] 36)) by go_grown)) C0.out)).mono ?_; rintro e wn ⟨rfl, hbn⟩; have hbn2 := (show Below wm.heap.size wm (wm.alloc (.cells #[.int .i64 ux, .int .i64 uy] 36)) by go_grown).trans (hbn.mono (by simp)); have hcn := grew hcm hbn2; have n0 := cell_later hbn (box0 wm ux uy 36); have n1 := cell_later hbn (box1 wm ux uy 36))
              | (go_at_call 21; refine (layerSpec_c lm ux uy _ _ _ wn rfl (by omega) hom.fit (hom.later hbn2).at).mono ?_; rintro e wo ⟨rfl, hbo⟩; have hco := grew hcn hbo; have hko := hkm.later (grew hbn2 hbo); have hlo := hlm2.later (grew hbn2 hbo))
              | (go_at_call 13; refine (same_c (peV lj m) (peV lj m) _ _ _ _ _ _ wo rfl rfl (by have := peV_len lj m; omega) (by have := peV_len lj m; omega) hko.at hlo.at).mono ?_; rintro e wp ⟨rfl, hbp⟩))
            all_goals go_ret
            all_goals exact ⟨rfl, grew hco hbp⟩
          · have hmost := peV_most hPk
            have hd9 : decide (((peV lj m).length : Int) ≤ m) = true := decide_eq_true hmost
            go_wp2_with (first
              | (go_at_call 18; refine (peelImpl_c lj m _ _ _ wj rfl (by omega) hoj.at (cell_later hcj C0.out)).mono ?_; rw [hPk]; rintro e wk ⟨vk, rfl, hok, hbk⟩; obtain ⟨ak, pk, hvk⟩ := hok.shape; subst hvk; have hck := grew hcj hbk)
              | (go_at_call 19; refine (peelSpec_c lj m _ _ _ wk rfl (by omega) hoj.fit (hoj.later hbk).at).mono ?_; rw [hPk]; rintro e wl ⟨vl, rfl, hol, hbl⟩; obtain ⟨al, pl, hvl⟩ := hol.shape; subst hvl; have hcl := grew hck hbl; have hkl2 := hok.later hbl)
              | (go_at_call 20; refine (drawLay_c _ _ _ wl ((HB1.out.below hcl).mono hcl.size) l1).mono ?_; rintro e wm ⟨vm, ux, uy, rfl, lm, hom, hlm, hbm⟩; obtain ⟨am, pm, hvm⟩ := hom.shape; subst hvm; have hcm := grew hcl hbm; have hkm := hkl2.later hbm; have hlm2 := hol.later hbm)
              | (go_at_call 14; refine (layerImpl_c lm ux uy _ _ _ _ rfl (by omega) (hom.later (show Below wm.heap.size wm (wm.alloc (.cells #[.int .i64 ux, .int .i64 uy] 36)) by go_grown)).at (cell_later (grew hcm (show Below wm.heap.size wm (wm.alloc (.cells #[.int .i64 ux, .int .i64 uy] 36)) by go_grown)) C0.out)).mono ?_; rintro e wn ⟨rfl, hbn⟩; have hbn2 := (show Below wm.heap.size wm (wm.alloc (.cells #[.int .i64 ux, .int .i64 uy] 36)) by go_grown).trans (hbn.mono (by simp)); have hcn := grew hcm hbn2; have n0 := cell_later hbn (box0 wm ux uy 36); have n1 := cell_later hbn (box1 wm ux uy 36))
              | (go_at_call 21; refine (layerSpec_c lm ux uy _ _ _ wn rfl (by omega) hom.fit (hom.later hbn2).at).mono ?_; rintro e wo ⟨rfl, hbo⟩; have hco := grew hcn hbo; have hko := hkm.later (grew hbn2 hbo); have hlo := hlm2.later (grew hbn2 hbo))
              | (go_at_call 13; refine (same_c (peV lj m) (peV lj m) _ _ _ _ _ _ wo rfl rfl (by have := peV_len lj m; omega) (by have := peV_len lj m; omega) hko.at hlo.at).mono ?_; rintro e wp ⟨rfl, hbp⟩))
            all_goals go_ret
            all_goals exact ⟨rfl, grew hco hbp⟩
  · go_enter Tryz.func3, Tryz.ntmps3
    go_wp2_with (go_at_call 4; refine (big_t _ _ _ _ _ _ _ m0 m1 (by omega)).mono ?_; rintro e w' ⟨rfl, rfl⟩)
    go_ret
    exact ⟨rfl, by go_grown⟩
end Go.Proofs.YtoefllklngnmeaaGreatDoor
