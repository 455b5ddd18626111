/-
  How far the nearest two are apart, from both halves: the program's search; NearestByHalves, the program's and the specification's (contracts for the walks).
  Conditions: as each theorem states them.
-/
import Derived.Test.YtipiamhnngmjmaaDoorNr6
import Derived.Test.YtipiamhnngmjmaaDoorNr7
namespace Go.Proofs.YtipiamhnngmjmaaDoor
open Go.RowKit Go.Shelf
set_option linter.unusedVariables false
set_option maxRecDepth 8000
set_option maxHeartbeats 4000000 in
theorem leastApart_c : ∀ (n : Nat) (l : List (Int × Int)) (a : Option Addr) (len cap : Nat) (w : World) (hl : l.length = len) (hn : len ≤ n) (h1 : len ≤ 1048576) (hF : Fit a len cap) (hA : At w.heap.size a l w) (hG : allG l) (hX : XP l),
    Calls Tryd.prog 53 #[.slice a len cap] w fun e w' => e = .returned (.int .i64 (lea l)) ∧ Below w.heap.size w w' := by
  intro n
  induction n with
  | zero =>
    intro l a len cap w hl hn h1 hF hA hG hX
    subst hl
    have hlt : l.length < 2 := by omega
    rw [lea_short hlt]
    have hlt2 : (l.length : Int) < 2 := by omega
    have hlt3 : decide ((l.length : Int) < 2) = true := decide_eq_true hlt2
    clear hA hF hn hG hX
    go_enter Tryd.func53, Tryd.ntmps53
    go_wp2_with fail
    go_ret
    exact ⟨by simp [BIG], Below.refl _ _⟩
  | succ n ih =>
    intro l a len cap w hl hn h1 hF hA hG hX
    subst hl
    have HA := hid hA
    have HF := hid hF
    clear hA hF
    by_cases h2 : l.length < 2
    · rw [lea_short h2]
      have hlt2 : (l.length : Int) < 2 := by omega
      have hlt3 : decide ((l.length : Int) < 2) = true := decide_eq_true hlt2
      clear hn ih hG hX
      go_enter Tryd.func53, Tryd.ntmps53
      go_wp2_with fail
      go_ret
      exact ⟨by simp [BIG], Below.refl _ _⟩
    · obtain ⟨b, off, rfl, hbN, _, _⟩ := HA.out 0 (by omega)
      obtain ⟨hlc, hcm⟩ : l.length ≤ cap ∧ cap ≤ maxLen := by
        rcases HF.out with ⟨h0, _, _⟩ | ⟨_, h3, h4⟩
        · cases h0
        · exact ⟨h3, h4⟩
      obtain ⟨k, hk⟩ : ∃ k, l.length / 2 = k := ⟨_, rfl⟩
      rw [lea_halves l k]
      have IH1 := hid (ih (l.take k) (some ⟨b, off, none⟩) k cap)
      have IH2 := hid (ih (l.drop k) (some ⟨b, off + k * 2, none⟩) (l.length - k) (cap - k))
      obtain ⟨A1, hA1⟩ : ∃ A1, lea (l.take k) = A1 := ⟨_, rfl⟩
      obtain ⟨A2, hA2⟩ : ∃ A2, lea (l.drop k) = A2 := ⟨_, rfl⟩
      rw [hA1] at IH1 ⊢
      rw [hA2] at IH2 ⊢
      have hx1 : (0 : Int) ≤ (k : Int) := by omega
      have hx2 : (k : Int) ≤ (l.length : Int) := by omega
      have hx3 : (k : Int) ≤ (cap : Int) := by omega
      have hx4 : (l.length : Int) ≤ (cap : Int) := by omega
      have hx5 : k ≤ l.length := by omega
      have hx6 : k ≤ cap := by omega
      have hne : ¬ l.length = k := by omega
      have hcz : ¬ cap - k = 0 := by omega
      have hcz2 : ¬ cap = k := by omega
      have h22 : ¬ (l.length : Int) < 2 := by omega
      have h23 : decide ((l.length : Int) < 2) = false := decide_eq_false h22
      have HC := hid (XP.across hX k)
      have HX1 := hid (hX.take k)
      have HX2 := hid (hX.drop k)
      have HG1 : Hid (allG (l.take k)) := fun p hp => hG p (List.mem_of_mem_take hp)
      have HG2 : Hid (allG (l.drop k)) := fun p hp => hG p (List.mem_of_mem_drop hp)
      have M1 : Hid ((l.take k).length = k) := by show _ = _; rw [List.length_take]; omega
      have M2 : Hid ((l.drop k).length = l.length - k) := by show _ = _; rw [List.length_drop]
      have K1 := hid (⟨by omega, by omega⟩ : k ≤ n ∧ k ≤ 1048576)
      have K2 := hid (⟨by omega, by omega, by omega⟩ : l.length - k ≤ n ∧ l.length - k ≤ 1048576 ∧ 0 < l.length - k)
      have K3 : Hid (Fit (some ⟨b, off, none⟩) k cap) := .inr ⟨⟨_, _, rfl⟩, hx6, hcm⟩
      have K4 : Hid (Fit (some ⟨b, off + k * 2, none⟩) (l.length - k) (cap - k)) := .inr ⟨⟨_, _, rfl⟩, by omega, Nat.le_trans (Nat.sub_le _ _) hcm⟩
      have hq : (l.length : Int).tdiv 2 = (k : Int) := by rw [Int.tdiv_eq_ediv_of_nonneg (by omega)]; omega
      have hw2 : IntKind.i64.wrap (k : Int) = (k : Int) := by clear hq; rw [IntKind.wrap_i64]; omega
      have hw : wrap64 (k : Int) = (k : Int) := by clear hq hw2; unfold wrap64; omega
      clear ih hn h1 hk hA1 hA2 hG hX
      by_cases hc : A2 < A1
      · have HM := hid (show min A1 A2 = A2 from Int.min_eq_right (by omega))
        rw [HM.out]
        have tk1 : True := trivial
        go_enter Tryd.func53, Tryd.ntmps53
        go_wp2_with fail
        go_quiet (fail)
        go_wp2_with (first
          | (go_at_call 53; clear tk1; refine (IH1.out _ M1.out K1.out.1 K1.out.2 K3.out ((HA.out.take' k).later (drewN_below _ _) |>.mono (drewN_below _ _).size) HG1.out HX1.out).mono ?_; rintro e w1 ⟨rfl, hb1⟩; have hbw := grew (drewN_below _ w) hb1)
          | (go_at_call 53; refine (IH2.out _ M2.out K2.out.1 K2.out.2.1 K4.out (((HA.out.later hbw).mono hbw.size).drop k) HG2.out HX2.out).mono ?_; rintro e w2 ⟨rfl, hb2⟩; have hbw2 := grew hbw hb2)
          | (go_at_call 80; refine (across_c (l.take k) (l.drop k) _ _ _ _ _ _ _ _ M1.out M2.out K1.out.2 K2.out.2.1 K2.out.2.2 (((HA.out.later hbw2).mono hbw2.size).take' k) (((HA.out.later hbw2).mono hbw2.size).drop k) HG1.out HG2.out HX1.out HX2.out HC.out).mono ?_; rintro e w3 ⟨rfl, hb3⟩))
        go_ret
        exact ⟨rfl, grew hbw2 hb3⟩
      · have HM := hid (show min A1 A2 = A1 from Int.min_eq_left (by omega))
        rw [HM.out]
        have tk1 : True := trivial
        go_enter Tryd.func53, Tryd.ntmps53
        go_wp2_with fail
        go_quiet (fail)
        go_wp2_with (first
          | (go_at_call 53; clear tk1; refine (IH1.out _ M1.out K1.out.1 K1.out.2 K3.out ((HA.out.take' k).later (drewN_below _ _) |>.mono (drewN_below _ _).size) HG1.out HX1.out).mono ?_; rintro e w1 ⟨rfl, hb1⟩; have hbw := grew (drewN_below _ w) hb1)
          | (go_at_call 53; refine (IH2.out _ M2.out K2.out.1 K2.out.2.1 K4.out (((HA.out.later hbw).mono hbw.size).drop k) HG2.out HX2.out).mono ?_; rintro e w2 ⟨rfl, hb2⟩; have hbw2 := grew hbw hb2)
          | (go_at_call 80; refine (across_c (l.take k) (l.drop k) _ _ _ _ _ _ _ _ M1.out M2.out K1.out.2 K2.out.2.1 K2.out.2.2 (((HA.out.later hbw2).mono hbw2.size).take' k) (((HA.out.later hbw2).mono hbw2.size).drop k) HG1.out HG2.out HX1.out HX2.out HC.out).mono ?_; rintro e w3 ⟨rfl, hb3⟩))
        go_ret
        exact ⟨rfl, grew hbw2 hb3⟩
def nhV (l : List (Int × Int)) : Int := if bsOk l = true then apc (bst 1 l) else 0
theorem bsOk_parts {l : List (Int × Int)} (h : bsOk l = true) : goodL l = true ∧ 2 ≤ l.length := by
  unfold bsOk at h
  rw [Bool.and_eq_true] at h
  exact ⟨h.1, of_decide_eq_true h.2⟩
set_option maxHeartbeats 4000000 in
theorem halfNearSpec_c (l : List (Int × Int)) (a : Option Addr) (len cap : Nat) (w : World) (hl : l.length = len) (h1 : len ≤ 1048576) (hF : Fit a len cap) (hA : At w.heap.size a l w) :
    Calls Tryd.prog 21 #[.slice a len cap] w fun e w' => e = .returned (.tuple #[.int .i64 (nhV l), .bool (bsOk l)]) ∧ Below w.heap.size w w' := by
  subst hl
  have HA := hid hA
  have HF := hid hF
  clear hA hF
  cases hK : bsOk l
  · have HV := hid (show nhV l = 0 by unfold nhV; rw [hK]; rfl)
    have HE := hid (show bsV 1 l = ((0, 0), (0, 0)) by unfold bsV; rw [hK]; rfl)
    go_enter Tryd.func21, Tryd.ntmps21
    go_wp2_with (go_at_call 16; refine (nearestSpec_c l _ _ _ w rfl h1 HF.out HA.out).mono ?_; rw [HE.out, hK]; rintro e w1 ⟨rfl, hb1⟩)
    go_ret2
    exact ⟨ret_ib2 HV.out.symm rfl, hb1.trans ((by go_grown : Below w1.heap.size w1 _).mono hb1.size)⟩
  · obtain ⟨hG, h2⟩ := bsOk_parts hK
    obtain ⟨⟨⟨e0, e1⟩, e2, e3⟩, hE⟩ : ∃ e, bst 1 l = e := ⟨_, rfl⟩
    have HE := hid (show bsV 1 l = ((e0, e1), (e2, e3)) by unfold bsV; rw [if_pos hK, hE])
    have hgp := bst_gp (k := 1) (goodL_all hG) h2
    rw [hE] at hgp
    have HGP := hid hgp
    have HV := hid (show nhV l = apF (e0, e1) (e2, e3) by unfold nhV apc; rw [if_pos hK, hE])
    clear hgp hE hG h2
    go_enter Tryd.func21, Tryd.ntmps21
    go_wp2_with (first
      | (go_at_call 16; refine (nearestSpec_c l _ _ _ w rfl h1 HF.out HA.out).mono ?_; rw [HE.out, hK]; rintro e w1 ⟨rfl, hb1⟩; have HB1 := hid hb1)
      | (go_at_call 47; refine (apartS_c _ _ _ _ _ HGP.out.1 HGP.out.2).mono ?_; rintro e w2 ⟨rfl, hb2⟩))
    go_ret2
    exact ⟨ret_ib2 HV.out.symm rfl, (HB1.out.trans ((by go_grown : Below w1.heap.size w1 _).mono HB1.out.size)).trans (hb2.mono (by have := HB1.out.size; go_size))⟩
set_option maxHeartbeats 4000000 in
theorem halfNearImpl_c (l : List (Int × Int)) (a : Option Addr) (len cap : Nat) (w : World) (hl : l.length = len) (h1 : len ≤ 1048576) (hF : Fit a len cap) (hA : At w.heap.size a l w) (c0 : w.cell? ⟨0, 0, none⟩ = some (.int .i64 1000000)) :
    Calls Tryd.prog 22 #[.slice a len cap] w fun e w' => e = .returned (.tuple #[.int .i64 (nhV l), .bool (bsOk l)]) ∧ Below w.heap.size w w' := by
  subst hl
  have HA := hid hA
  have HF := hid hF
  have C0 := hid c0
  clear hA hF c0
  cases hG : goodL l
  · have hK := hid (show bsOk l = false by unfold bsOk; rw [hG]; rfl)
    have HV := hid (show nhV l = 0 by unfold nhV; rw [hK.out]; rfl)
    go_enter Tryd.func22, Tryd.ntmps22
    go_wp2_with (go_at_call 52; refine (goodSetImpl_c l _ _ _ w rfl h1 HA.out C0.out).mono ?_; rw [hG]; rintro e w1 ⟨rfl, hb1⟩)
    go_ret2
    exact ⟨ret_ib2 HV.out.symm hK.out.symm, hb1⟩
  · by_cases h2 : 2 ≤ l.length
    · have hK := hid (show bsOk l = true by unfold bsOk; rw [hG, decide_eq_true h2]; rfl)
      have HV := hid (show nhV l = lea l by unfold nhV; rw [if_pos hK.out, lea_bst (goodL_all hG) h2])
      have hlt : ¬ l.length < 2 := by omega
      have HG := hid (goodL_all hG)
      have HX := hid (XP.of (XUp.of (goodL_rises hG)))
      go_enter Tryd.func22, Tryd.ntmps22
      go_wp2_with (first
        | (go_at_call 52; refine (goodSetImpl_c l _ _ _ w rfl h1 HA.out C0.out).mono ?_; rw [hG]; rintro e w1 ⟨rfl, hb1⟩)
        | (go_at_call 53; refine (leastApart_c l.length l _ _ _ w1 rfl (Nat.le_refl _) h1 HF.out ((HA.out.later hb1).mono hb1.size) HG.out HX.out).mono ?_; rintro e w2 ⟨rfl, hb2⟩))
      go_ret2
      exact ⟨ret_ib2 HV.out.symm hK.out.symm, grew hb1 hb2⟩
    · have hK := hid (show bsOk l = false by unfold bsOk; rw [hG, decide_eq_false h2]; rfl)
      have HV := hid (show nhV l = 0 by unfold nhV; rw [hK.out]; rfl)
      have hlt : l.length < 2 := by omega
      go_enter Tryd.func22, Tryd.ntmps22
      go_wp2_with (go_at_call 52; refine (goodSetImpl_c l _ _ _ w rfl h1 HA.out C0.out).mono ?_; rw [hG]; rintro e w1 ⟨rfl, hb1⟩)
      go_ret2
      exact ⟨ret_ib2 HV.out.symm hK.out.symm, hb1⟩
end Go.Proofs.YtipiamhnngmjmaaDoor
