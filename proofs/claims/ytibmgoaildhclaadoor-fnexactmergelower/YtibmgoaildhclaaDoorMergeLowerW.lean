/-
  The walk of a law (see the text that imports this one).
  Conditions: as the theorem states them.
-/
import Derived.Test.YtibmgoaildhclaaDoorBr7m
namespace Go.Proofs.YtibmgoaildhclaaDoor.fnExactMergeLower
open Go.RowKit
set_option linter.unusedVariables false
set_option maxRecDepth 8000
set_option maxHeartbeats 8000000 in
theorem walk (l : List (Int × Int)) (a : Option Addr) (len cap : Nat) (m : List (Int × Int)) (c : Option Addr) (lem cam : Nat) (w : World) (hl : l.length = len) (hm : len ≤ maxLen) (hA : At w.heap.size a l w) (hl2 : m.length = lem) (hm2 : lem ≤ maxLen) (hB : At w.heap.size c m w) (c0 : w.cell? ⟨0, 0, none⟩ = some (.int .i64 1000000)) (c1 : w.cell? ⟨0, 1, none⟩ = some (.int .i64 1099511627776)) (c2 : w.cell? ⟨0, 2, none⟩ = some (.int .i64 4398046511104)) (c3 : w.cell? ⟨0, 3, none⟩ = some (.int .i64 40)) :
    Calls Tryd.prog 3 #[.slice a len cap, .slice c lem cam] w fun e w' => e = .returned (.bool true) ∧ Below w.heap.size w w' := by
  subst hl hl2
  have HA := hid hA
  have HB := hid hB
  have C0 := hid c0
  clear hA hB c0 c1 c2 c3
  by_cases h20 : l.length ≤ 1048576
  · by_cases hs : l.length + m.length ≤ 1048576
    · have h21 : m.length ≤ 1048576 := by omega
      clear hm hm2
      have hR : (mgV l m).length ≤ 1048576 := by have := mgV_len l m; omega
      have hn : (0 : Int) ≤ 1048576 - (l.length : Int) := by omega
      have hn2 : (0 : Int) ≤ 1048576 - (l.length : Int) - (m.length : Int) := by omega
      have tz : True := trivial
      have t1 : True := trivial
      have t2 : True := trivial
      have t4 : True := trivial
      have t5 : True := trivial
      have t6 : True := trivial
      have t7 : True := trivial
      have t8 : True := trivial
      have t9 : True := trivial
      have t10 : True := trivial
      have t11 : True := trivial
      have t12 : True := trivial
      have t13 : True := trivial
      have t14 : True := trivial
      have t16 : True := trivial
      have t17 : True := trivial
      go_enter Tryd.func3, Tryd.ntmps3
      go_wp2_with (first
        | (go_at_call 5; clear tz; refine (szPointS_c _ _ _ _ ?_ ?_ _).mono ?_; (omega); (omega); rintro e w' ⟨rfl, rfl⟩)
        | (go_at_call 5; refine (szPointS_c _ _ _ _ ?_ ?_ _).mono ?_; (omega); (omega); rintro e w' ⟨rfl, rfl⟩)
        | (go_at_call 7; clear t1; refine (toPointS_e l _ _ _ w rfl h20 HA.out).mono ?_; rintro e w1 ⟨b1, rfl, hcw1, hbw1⟩)
        | (go_at_call 7; clear t2; refine (toPointS_e m _ _ _ w1 rfl h21 ((HB.out.later hbw1).mono hbw1.size)).mono ?_; rintro e w2 ⟨b2, rfl, hcw2, hbw2⟩; have hx2 := hcw1.later hbw2; have hbA2 := grew hbw1 hbw2)
        | (go_at_call 6; refine (mergeTopSpec_c l m _ _ _ _ _ _ w2 rfl rfl h20 h21 (fit_row _ _ h20) (fit_row _ _ h21) hx2.at hcw2.at).mono ?_; rintro e w3 ⟨v3, rfl, ho3, hb3⟩; obtain ⟨a3, p3, hv3⟩ := ho3.shape; subst hv3; have ha3 := ho3.at; have hbw3 := grew hbA2 hb3)
        | (go_at_call 7; clear t4; refine (toPointS_e l _ _ _ w3 rfl h20 ((HA.out.later hbw3).mono hbw3.size)).mono ?_; rintro e w4 ⟨b4, rfl, hcw4, hbw4⟩; have hge4 := hcw4.le; have hlt4 := hcw4.row.lt; have hA4 := grew hbw3 hbw4)
        | (go_at_call 7; clear t5; refine (toPointS_e m _ _ _ w4 rfl h21 ((HB.out.later hA4).mono hA4.size)).mono ?_; rintro e w5 ⟨b5, rfl, hcw5, hbw5⟩; have hge5 := hcw5.le; have hlt5 := hcw5.row.lt; have hx5 := hcw4.later hbw5; have hb35 := grew hbw4 hbw5; have hA5 := grew hbw3 hb35)
        | (go_at_call 8; clear t6; refine (mergeTopImpl_c l m _ _ _ _ _ _ w5 rfl rfl h20 h21 (fit_row _ _ h20) (fit_row _ _ h21) hx5.at hcw5.at (cell_later hA5 C0.out)).mono ?_; rintro e w6 ⟨v6, rfl, ho6, hb6⟩; obtain ⟨a6, p6, hv6⟩ := ho6.shape; subst hv6; have hx6 := hx5.later hb6; have hy6 := hcw5.later hb6; have hb36 := grew hb35 hb6; have ha36 := (ha3.later hb36).mono hb36.size)
        | (go_at_call 9; clear t7; refine (eqPointS_c (mgV l m) (mgV l m) _ _ _ _ _ _ w6 rfl rfl hR hR ho6.at ha36).mono ?_; rintro e w7 ⟨rfl, hb7⟩; have hx7 := hx6.later hb7; have hy7 := hy6.later hb7; have ho7 := ho6.later hb7; have hb37 := grew hb36 hb7; have hA7 := grew hbw3 hb37)
        | (go_at_call 7; clear t8; refine (toPointS_e l _ _ _ w7 rfl h20 ((HA.out.later hA7).mono hA7.size)).mono ?_; rintro e w8 ⟨b8, rfl, hcw8, hbw8⟩; have hx8 := hx7.later hbw8; have hy8 := hy7.later hbw8; have ho8 := ho7.later hbw8; have hb38 := grew hb37 hbw8)
        | (go_at_call 9; clear t9; refine (eqPointS_c l l _ _ _ _ _ _ w8 rfl rfl h20 h20 hx8.at hcw8.at).mono ?_; rintro e w9 ⟨rfl, hb9⟩; have hx9 := hx8.later hb9; have hy9 := hy8.later hb9; have ho9 := ho8.later hb9; have hb39 := grew hb38 hb9; have hA9 := grew hbw3 hb39)
        | (go_at_call 7; clear t10; refine (toPointS_e m _ _ _ w9 rfl h21 ((HB.out.later hA9).mono hA9.size)).mono ?_; rintro e w10 ⟨b10, rfl, hcw10, hbw10⟩; have hx10 := hx9.later hbw10; have hy10 := hy9.later hbw10; have ho10 := ho9.later hbw10; have hb310 := grew hb39 hbw10)
        | (go_at_call 9; clear t11; refine (eqPointS_c m m _ _ _ _ _ _ w10 rfl rfl h21 h21 hy10.at hcw10.at).mono ?_; rintro e w11 ⟨rfl, hb11⟩; have hx11 := hx10.later hb11; have hy11 := hy10.later hb11; have ho11 := ho10.later hb11; have hb311 := grew hb310 hb11)
        | (go_at_call 10; clear t12; refine (mark_c l w3.heap.size _ _ _ 1 w11 (by omega) (by omega) h20 (hx11.own h20)).mono ?_; rintro e w12 ⟨rfl, hm12, hs12⟩; have ho12 := ho11.spared hs12 (by intro b off e; cases e; omega); have hy12 := (hy11.own h21).spared hs12 (by intro b off e; cases e; omega); have hb312 := hb311.trans (hs12.below hb311.size (by intro b off e; cases e; exact hge4)); clear hm12 hs12)
        | (go_at_call 10; clear t13; refine (mark_c m w4.heap.size _ _ _ _ w12 (by omega) (by omega) h21 hy12).mono ?_; rintro e w13 ⟨rfl, hm13, hs13⟩; have ho13 := ho12.spared hs13 (by intro b off e; cases e; omega); have hb313 := hb312.trans (hs13.below hb312.size (by intro b off e; cases e; omega)); have ha313 := (ha3.later hb313).mono hb313.size; clear hm13 hs13)
        | (go_at_call 9; clear t14; refine (eqPointS_c (mgV l m) (mgV l m) _ _ _ _ _ _ w13 rfl rfl hR hR ho13.at ha313).mono ?_; rintro e w14 ⟨rfl, hb14⟩; have ho14 := ho13.later hb14; have hb314 := grew hb313 hb14)
        | (go_at_call 10; refine (mark_c (mgV l m) w5.heap.size _ _ _ 1 w14 (by omega) (by omega) hR ho14).mono ?_; rintro e w15 ⟨rfl, hm15, hs15⟩; have hb315 := hb314.trans (hs15.below hb314.size (fun b off e => Nat.le_trans hb35.size (ho14.ge b off e))); clear hs15)
        | (go_at_call 11; clear t16; refine (held_c _ _ _ 1 w15 (by omega) (by omega) hR hm15.at).mono ?_; rintro e w16 ⟨rfl, hb16⟩; have hm16 := hm15.later hb16; have hb316 := grew hb315 hb16; have hA16 := grew hbw3 hb316)
        | (go_at_call 7; clear t17; refine (toPointS_e l _ _ _ w16 rfl h20 ((HA.out.later hA16).mono hA16.size)).mono ?_; rintro e w17 ⟨b17, rfl, hcw17, hbw17⟩; have hm17 := hm16.later hbw17; have hb317 := grew hb316 hbw17; have hA17 := grew hbw3 hb317)
        | (go_at_call 7; refine (toPointS_e m _ _ _ w17 rfl h21 ((HB.out.later hA17).mono hA17.size)).mono ?_; rintro e w18 ⟨b18, rfl, hcw18, hbw18⟩; have hm18 := hm17.later hbw18; have hx18 := hcw17.later hbw18; have hb318 := grew hb317 hbw18; have hA18 := grew hbw3 hb318)
        | (go_at_call 8; refine (mergeTopImpl_c l m _ _ _ _ _ _ w18 rfl rfl h20 h21 (fit_row _ _ h20) (fit_row _ _ h21) hx18.at hcw18.at (cell_later hA18 C0.out)).mono ?_; rintro e w19 ⟨v19, rfl, ho19, hb19⟩; obtain ⟨a19, p19, hv19⟩ := ho19.shape; subst hv19; have hm19 := hm18.later hb19; have hb319 := grew hb318 hb19; have ha319 := (ha3.later hb319).mono hb319.size)
        | (go_at_call 9; refine (eqPointS_c (mgV l m) (mgV l m) _ _ _ _ _ _ w19 rfl rfl hR hR ho19.at ha319).mono ?_; rintro e w20 ⟨rfl, hb20⟩; have hm20 := hm19.later hb20; have hb320 := grew hb319 hb20)
        | (go_at_call 11; refine (held_c _ _ _ 1 w20 (by omega) (by omega) hR hm20.at).mono ?_; rintro e w21 ⟨rfl, hb21⟩; have hb321 := grew hb320 hb21))
      all_goals go_ret
      all_goals exact ⟨rfl, grew hbw3 hb321⟩
    · have hn : (0 : Int) ≤ 1048576 - (l.length : Int) := by omega
      have hn2 : (1048576 : Int) - (l.length : Int) < (m.length : Int) := by omega
      have tz : True := trivial
      go_enter Tryd.func3, Tryd.ntmps3
      go_wp2_with (first | (go_at_call 5; clear tz; refine (szPointS_c _ _ _ _ ?_ ?_ _).mono ?_; (omega); (omega); rintro e w' ⟨rfl, rfl⟩) | (go_at_call 5; refine (szPointS_f _ _ _ _ ?_ ?_ hm2 _).mono ?_; (omega); (omega); rintro e w' ⟨rfl, rfl⟩))
      go_ret
      exact ⟨rfl, by go_grown⟩
  · have hn : (1048576 : Int) < (l.length : Int) := by omega
    go_enter Tryd.func3, Tryd.ntmps3
    go_wp2_with (go_at_call 5; refine (szPointS_f _ _ _ _ ?_ ?_ hm _).mono ?_; (omega); (omega); rintro e w' ⟨rfl, rfl⟩)
    go_ret
    exact ⟨rfl, by go_grown⟩
end Go.Proofs.YtibmgoaildhclaaDoor.fnExactMergeLower
