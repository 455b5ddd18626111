/-
  The walk of a law (see the text that imports this one).
  Conditions: as the theorem states them.
-/
import Derived.Test.YtipiamhnngmjmaaDoorNr5
namespace Go.Proofs.YtipiamhnngmjmaaDoor.fnExactWithinOf
open Go.RowKit
set_option linter.unusedVariables false
set_option maxRecDepth 8000
set_option maxHeartbeats 2000000 in
theorem walk (l : List (Int × Int)) (a : Option Addr) (len cap : Nat) (x y m : Int) (w : World) (hl : l.length = len) (hm : len ≤ maxLen) (hA : At w.heap.size a l w) (wm : (Lit.int .i64 m).wf = true) (c0 : w.cell? ⟨0, 0, none⟩ = some (.int .i64 1000000)) (c1 : w.cell? ⟨0, 1, none⟩ = some (.int .i64 1099511627776)) (c2 : w.cell? ⟨0, 2, none⟩ = some (.int .i64 4398046511104)) (c3 : w.cell? ⟨0, 3, none⟩ = some (.int .i64 40)) :
    Calls Tryd.prog 9 #[.slice a len cap, .agg #[.int .i64 x, .int .i64 y], .int .i64 m] w fun e w' => e = .returned (.bool true) ∧ Below w.heap.size w w' := by
  subst hl
  have HA := hid hA
  have C0 := hid c0
  clear hA c0 c1 c2 c3
  by_cases h20 : l.length ≤ 1048576
  · clear hm
    have hR : (wiV l x y m).length ≤ 1048576 := Nat.le_trans (wiV_len l x y m) h20
    have hn : (0 : Int) ≤ 1048576 - (l.length : Int) := by omega
    have B0 := box0 w x y 23
    have B1 := box1 w x y 23
    go_enter Tryd.func9, Tryd.ntmps9
    go_wp2_with (go_at_call 15; refine (szPointS_c _ _ _ _ ?_ ?_ _).mono ?_; (omega); (omega); rintro e w' ⟨rfl, rfl⟩)
    go_region_held3 (fun u => u.cell? ⟨w.heap.size, 0, none⟩ = some (.int .i64 x) ∧ u.cell? ⟨w.heap.size, 1, none⟩ = some (.int .i64 y) ∧ Below w.heap.size w u) (first | exact keep2 (by with_reducible assumption) (by with_reducible assumption) | exact ⟨cell_later (Below.refl _ _).drew B0, cell_later (Below.refl _ _).drew B1, by go_grown⟩) (first
      | (go_at_call 17; refine (toPointS_e l _ _ _ _ rfl h20 ((HA.out.later (fin2 (by with_reducible assumption))).mono (fin2 (by with_reducible assumption)).size)).mono ?_; rintro e w1 ⟨b1, rfl, hc1, hb1⟩; have ha1 := hc1.at)
      | (go_at_call 13; refine (toPoint_c _ _ _).mono ?_; rintro e w2 ⟨rfl, hb2⟩)
      | (go_at_call 33; refine (withinSpec_c l x y m _ _ _ _ rfl h20 ((ha1.later hb2).mono hb2.size)).mono ?_; rintro e w3 ⟨v3, rfl, ho3, hb3⟩; obtain ⟨a3, p3, hv3⟩ := ho3.shape; subst hv3; have ha3 := ho3.at))
    have hS : w3.cell? ⟨w.heap.size, 0, none⟩ = some (.int .i64 x) ∧ w3.cell? ⟨w.heap.size, 1, none⟩ = some (.int .i64 y) ∧ Below w.heap.size w w3 := by with_reducible assumption
    obtain ⟨r0, r1, hbw3⟩ := hS
    clear B0 B1
    have tk4 : True := trivial
    have tk7 : True := trivial
    have tk9 : True := trivial
    have tk10 : True := trivial
    go_wp2_with (first
      | (go_at_call 17; clear tk4; refine (toPointS_e l _ _ _ _ rfl h20 ((HA.out.later hbw3).mono hbw3.size)).mono ?_; rintro e w4 ⟨b4, rfl, hc4, hb4⟩; have hw4 := grew hbw3 hb4; have ha4 := hc4.at; have r40 := cell_later hb4 r0; have r41 := cell_later hb4 r1; have hge4 := hc4.le; have hlt4 := hc4.row.lt)
      | (go_at_call 13; refine (toPoint_c _ _ w4).mono ?_; rintro e w5 ⟨rfl, hb5⟩; have hb35 := grew hb4 hb5; have hc5 := hc4.later hb5; have hlt5 := hc5.row.lt; have hw5 := grew hbw3 hb35)
      | (go_at_call 34; refine (withinImpl_c l x y m _ _ _ w5 rfl h20 hc5.at (cell_later hw5 C0.out)).mono ?_; rintro e w6 ⟨v6, rfl, ho6, hb6⟩; obtain ⟨a6, p6, hv6⟩ := ho6.shape; subst hv6; have hc6 := hc5.later hb6; have hb36 := grew hb35 hb6; have hw6 := grew hbw3 hb36; have ha36 := (ha3.later hb36).mono hb36.size)
      | (go_at_call 20; clear tk7; refine (eqPointS_c (wiV l x y m) (wiV l x y m) _ _ _ _ _ _ w6 rfl rfl hR hR ho6.at ha36).mono ?_; rintro e w7 ⟨rfl, hb7⟩; have hc7 := hc6.later hb7; have ho7 := ho6.later hb7; have hb37 := grew hb36 hb7; have hw7 := grew hbw3 hb37)
      | (go_at_call 17; refine (toPointS_e l _ _ _ w7 rfl h20 ((HA.out.later hw7).mono hw7.size)).mono ?_; rintro e w8 ⟨b8, rfl, hc8, hb8⟩; have ha8 := hc8.at; have hx8 := hc7.later hb8; have ho8 := ho7.later hb8; have hb38 := grew hb37 hb8)
      | (go_at_call 20; clear tk9; refine (eqPointS_c l l _ _ _ _ _ _ w8 rfl rfl h20 h20 hx8.at ha8).mono ?_; rintro e w9 ⟨rfl, hb9⟩; have hx9 := hx8.later hb9; have ho9 := ho8.later hb9; have hb39 := grew hb38 hb9)
      | (go_at_call 28; clear tk10; refine (mark_c l w3.heap.size _ _ _ 1 w9 (by omega) (by omega) h20 (hx9.own h20)).mono ?_; rintro e w10 ⟨rfl, hm10, hs10⟩; have ho10 := ho9.spared hs10 (by intro b off e; cases e; exact hlt5); have hb310 := hb39.trans (hs10.below hb39.size (by intro b off e; cases e; exact hge4)); have ha310 := (ha3.later hb310).mono hb310.size; clear hm10 hs10)
      | (go_at_call 20; refine (eqPointS_c (wiV l x y m) (wiV l x y m) _ _ _ _ _ _ w10 rfl rfl hR hR ho10.at ha310).mono ?_; rintro e w11 ⟨rfl, hb11⟩; have ho11 := ho10.later hb11; have hb311 := grew hb310 hb11)
      | (go_at_call 28; refine (markC_c (wiV l x y m) w5.heap.size _ _ _ 1 w11 (by omega) (by omega) hR ho11).mono ?_; rintro e w12 ⟨rfl, hm12, hs12⟩; have hb312 := hb311.trans (hs12.below hb311.size (fun b off e => Nat.le_trans hb35.size (ho11.ge b off e))); clear hs12)
      | (go_at_call 35; refine (held_c _ _ _ 1 w12 (by omega) (by omega) hR hm12.at).mono ?_; rintro e w13 ⟨rfl, hb13⟩; have hm13 := hm12.later hb13; have hb313 := grew hb312 hb13))
    have hbw13 := grew hbw3 hb313
    have z0 := cell_later hb313 r0
    have z1 := cell_later hb313 r1
    go_region_held3 (fun u => u.cell? ⟨w.heap.size, 0, none⟩ = some (.int .i64 x) ∧ u.cell? ⟨w.heap.size, 1, none⟩ = some (.int .i64 y) ∧ Below w13.heap.size w13 u) (first | exact keep2 (by with_reducible assumption) (by with_reducible assumption) | exact ⟨cell_later (Below.refl _ _).drew z0, cell_later (Below.refl _ _).drew z1, (Below.refl _ _).drew⟩) (first
      | (go_at_call 17; refine (toPointS_e l _ _ _ _ rfl h20 ((HA.out.later (grew hbw13 (fin2 (by with_reducible assumption)))).mono (grew hbw13 (fin2 (by with_reducible assumption))).size)).mono ?_; rintro e w14 ⟨b14, rfl, hc14, hb14⟩; have ha14 := hc14.at; have HB1314 := hid (grew (fin2 (by with_reducible assumption) : Below w13.heap.size w13 _) hb14))
      | (go_at_call 13; refine (toPoint_c _ _ _).mono ?_; rintro e w15 ⟨rfl, hb15⟩; have HW15 := hid (grew hbw13 (grew HB1314.out hb15)))
      | (go_at_call 34; refine (withinImpl_c l x y m _ _ _ w15 rfl h20 ((ha14.later hb15).mono hb15.size) (cell_later HW15.out C0.out)).mono ?_; rintro e w16 ⟨v16, rfl, ho16, hb16⟩; obtain ⟨a16, p16, hv16⟩ := ho16.shape; subst hv16))
    have hS : w16.cell? ⟨w.heap.size, 0, none⟩ = some (.int .i64 x) ∧ w16.cell? ⟨w.heap.size, 1, none⟩ = some (.int .i64 y) ∧ Below w13.heap.size w13 w16 := by with_reducible assumption
    obtain ⟨_, _, hb1316⟩ := hS
    have hb316 := grew hb313 hb1316
    have ha316 := (ha3.later hb316).mono hb316.size
    have hm16 := hm13.later hb1316
    go_wp2_with (first
      | (go_at_call 20; refine (eqPointS_c (wiV l x y m) (wiV l x y m) _ _ _ _ _ _ w16 rfl rfl hR hR ho16.at ha316).mono ?_; rintro e w17 ⟨rfl, hb17⟩; have hm17 := hm16.later hb17; have hb317 := grew hb316 hb17)
      | (go_at_call 35; refine (held_c _ _ _ 1 w17 (by omega) (by omega) hR hm17.at).mono ?_; rintro e w18 ⟨rfl, hb18⟩; have hb318 := grew hb317 hb18))
    all_goals go_ret
    all_goals exact ⟨rfl, grew hbw3 hb318⟩
  · have hn : (1048576 : Int) < (l.length : Int) := by omega
    go_enter Tryd.func9, Tryd.ntmps9
    go_wp2_with (go_at_call 15; refine (szPointS_f _ _ _ _ ?_ ?_ hm _).mono ?_; (omega); (omega); rintro e w' ⟨rfl, rfl⟩)
    go_ret
    exact ⟨rfl, by go_grown⟩
end Go.Proofs.YtipiamhnngmjmaaDoor.fnExactWithinOf
