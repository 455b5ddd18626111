/-
  The walk of a law (see the text that imports this one).
  Conditions: as the theorem states them.
-/
import Derived.Test.YtipiamhnngmjmaaDoorAc9
namespace Go.Proofs.YtipiamhnngmjmaaDoor.fnExactAcrossOf
open Go.RowKit
set_option linter.unusedVariables false
set_option maxRecDepth 8000
set_option maxHeartbeats 2000000 in
theorem walk (l : List (Int × Int)) (a : Option Addr) (len cap : Nat) (w : World) (hl : l.length = len) (hm : len ≤ maxLen) (hA : At w.heap.size a l w) (c0 : w.cell? ⟨0, 0, none⟩ = some (.int .i64 1000000)) (c1 : w.cell? ⟨0, 1, none⟩ = some (.int .i64 1099511627776)) (c2 : w.cell? ⟨0, 2, none⟩ = some (.int .i64 4398046511104)) (c3 : w.cell? ⟨0, 3, none⟩ = some (.int .i64 40)) :
    Calls Tryd.prog 7 #[.slice a len cap] w fun e w' => e = .returned (.bool true) ∧ Below w.heap.size w w' := by
  subst hl
  have HA := hid hA
  have C0 := hid c0
  clear hA c0 c1 c2 c3
  by_cases h20 : l.length ≤ 1048576
  · clear hm
    have hR1 : (acV l).length ≤ 4000 := acV_len l
    have hR : (acV l).length ≤ 1048576 := Nat.le_trans hR1 (by omega)
    have hRR : ∀ i, i < (acV l).length → (nthI (acV l) i).length ≤ 1000 := fun i hi => acV_nth l hi
    have hR3 : ∀ i, i < (acV l).length → (nthI (acV l) i).length ≤ 1048576 := fun i hi => Nat.le_trans (hRR i hi) (by omega)
    have hof := offI_in hRR (acV l).length (Nat.le_refl _)
    obtain ⟨of, hOF⟩ : ∃ of, offI (acV l) 1 (acV l).length = of := ⟨_, rfl⟩
    rw [hOF] at hof
    have hneg : decide (of < 0) = false := decide_eq_false (by omega)
    have hn : (0 : Int) ≤ 1048576 - (l.length : Int) := by omega
    have tk1 : True := trivial
    have tk4 : True := trivial
    have tk6 : True := trivial
    have tk7 : True := trivial
    have tk8 : True := trivial
    have tk9 : True := trivial
    have tk10 : True := trivial
    have tk11 : True := trivial
    have tk13 : True := trivial
    go_enter Tryd.func7, Tryd.ntmps7
    go_wp2_with (first
      | (go_at_call 15; refine (szPointS_c _ _ _ _ ?_ ?_ _).mono ?_; (omega); (omega); rintro e w' ⟨rfl, rfl⟩)
      | (go_at_call 17; clear tk1; refine (toPointS_e l _ _ _ w rfl h20 HA.out).mono ?_; rintro e w1 ⟨b1, rfl, hc1, hb1⟩; have ha1 := hc1.at)
      | (go_at_call 25; refine (acrossOfSpec_c l _ _ _ w1 rfl h20 ha1).mono ?_; rintro e w3 ⟨v3, vs3, rfl, ho3, hb3⟩; obtain ⟨a3, p3, hv3⟩ := ho3.shape; subst hv3; have ha3 := ho3.at; have hbw3 := grew hb1 hb3)
      | (go_at_call 17; clear tk4; refine (toPointS_e l _ _ _ w3 rfl h20 ((HA.out.later hbw3).mono hbw3.size)).mono ?_; rintro e w5 ⟨b4, rfl, hc5, hb35⟩; have hge4 := hc5.le; have hlt5 := hc5.row.lt; have hw5 := grew hbw3 hb35)
      | (go_at_call 26; clear tk6; refine (acrossOfImpl_c l _ _ _ w5 rfl h20 hc5.at (cell_later hw5 C0.out)).mono ?_; rintro e w6 ⟨v6, vs6, rfl, ho6, hb6⟩; obtain ⟨a6, p6, hv6⟩ := ho6.shape; subst hv6; have hc6 := hc5.later hb6; have hb36 := grew hb35 hb6; have ha36 := (ha3.later hb36).mono hb36.size)
      | (go_at_call 27; clear tk7; refine (eqIS_c (acV l) _ _ _ _ _ w6 rfl hR hR3 ho6.at ha36).mono ?_; rintro e w7 ⟨rfl, hb7⟩; have hc7 := hc6.later hb7; have ho7 := ho6.later hb7; have hb37 := grew hb36 hb7; have hw7 := grew hbw3 hb37)
      | (go_at_call 17; clear tk8; refine (toPointS_e l _ _ _ w7 rfl h20 ((HA.out.later hw7).mono hw7.size)).mono ?_; rintro e w8 ⟨b8, rfl, hc8, hb8⟩; have ha8 := hc8.at; have hx8 := hc7.later hb8; have ho8 := ho7.later hb8; have hb38 := grew hb37 hb8)
      | (go_at_call 20; clear tk9; refine (eqPointS_c l l _ _ _ _ _ _ w8 rfl rfl h20 h20 hx8.at ha8).mono ?_; rintro e w9 ⟨rfl, hb9⟩; have hx9 := hx8.later hb9; have ho9 := ho8.later hb9; have hb39 := grew hb38 hb9)
      | (go_at_call 28; clear tk10; refine (mark_c l w3.heap.size _ _ _ 1 w9 (by omega) (by omega) h20 (hx9.own h20)).mono ?_; rintro e w10 ⟨rfl, hm10, hs10⟩; have hs10s := hs10.size; have ho10 := ho9.spared hs10 (by intro b off e; cases e; exact hlt5); have hb310 := hb39.trans (hs10.below hb39.size (by intro b off e; cases e; exact hge4)); have ha310 := (ha3.later hb310).mono hb310.size; clear hm10 hs10)
      | (go_at_call 27; clear tk11; refine (eqIS_c (acV l) _ _ _ _ _ w10 rfl hR hR3 ho10.at ha310).mono ?_; rintro e w11 ⟨rfl, hb11⟩; have ho11 := ho10.later hb11; have hb311 := grew hb310 hb11)
      | (go_at_call 29; refine (markIS_c w5.heap.size (acV l) vs6 _ _ _ w11 rfl hR1 hRR ho11 (by have := hb6.size; have := hb7.size; have := hb8.size; have := hb9.size; have := hs10s; have := hb11.size; omega)).mono ?_; rw [hOF]; rintro e w12 ⟨rfl, hm12, hB12⟩; have hb312 := hb311.trans (hB12.mono hb35.size); have hmA := hm12.at)
      | (go_at_call 30; clear tk13; refine (heldIS_c (acV l) _ _ _ w12 rfl hR1 hRR hmA).mono ?_; rw [hOF]; rintro e w13 ⟨rfl, hb13⟩; have hm13 := hm12.later hb13; have hb313 := grew hb312 hb13; have hw13 := grew hbw3 hb313)
      | (go_at_call 17; refine (toPointS_e l _ _ _ w13 rfl h20 ((HA.out.later hw13).mono hw13.size)).mono ?_; rintro e w15 ⟨b15, rfl, hc15, hb15⟩; have hw15 := grew hw13 hb15; have hm15 := hm13.later hb15; have hb315 := grew hb313 hb15)
      | (go_at_call 26; refine (acrossOfImpl_c l _ _ _ w15 rfl h20 hc15.at (cell_later hw15 C0.out)).mono ?_; rintro e w16 ⟨v16, vs16, rfl, ho16, hb16⟩; obtain ⟨a16, p16, hv16⟩ := ho16.shape; subst hv16; have hm16 := hm15.later hb16; have hb316 := grew hb315 hb16; have ha316 := (ha3.later hb316).mono hb316.size)
      | (go_at_call 27; refine (eqIS_c (acV l) _ _ _ _ _ w16 rfl hR hR3 ho16.at ha316).mono ?_; rintro e w17 ⟨rfl, hb17⟩; have hm17 := hm16.later hb17; have hb317 := grew hb316 hb17)
      | (go_at_call 30; refine (heldIS_c (acV l) _ _ _ w17 rfl hR1 hRR hm17.at).mono ?_; rw [hOF]; rintro e w18 ⟨rfl, hb18⟩; have hb318 := grew hb317 hb18))
    all_goals go_ret
    all_goals exact ⟨rfl, grew hbw3 hb318⟩
  · have hn : (1048576 : Int) < (l.length : Int) := by omega
    go_enter Tryd.func7, Tryd.ntmps7
    go_wp2_with (go_at_call 15; refine (szPointS_f _ _ _ _ ?_ ?_ hm _).mono ?_; (omega); (omega); rintro e w' ⟨rfl, rfl⟩)
    go_ret
    exact ⟨rfl, by go_grown⟩
end Go.Proofs.YtipiamhnngmjmaaDoor.fnExactAcrossOf
