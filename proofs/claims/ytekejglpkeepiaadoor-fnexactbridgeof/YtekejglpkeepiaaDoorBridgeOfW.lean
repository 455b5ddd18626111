/-
  The walk of a law (see the text that imports this one).
  Conditions: as the theorem states them.
-/
import Derived.Test.YtekejglpkeepiaaDoorBr7d
namespace Go.Proofs.YtekejglpkeepiaaDoor.fnExactBridgeOf
open Go.RowKit
set_option linter.unusedVariables false
set_option maxRecDepth 8000
set_option maxHeartbeats 4000000 in
theorem walk (l : List (Int × Int)) (a : Option Addr) (len cap : Nat) (m : List (Int × Int)) (c : Option Addr) (lem cam : Nat) (w : World) (hl : l.length = len) (hm : len ≤ maxLen) (hA : At w.heap.size a l w) (hl2 : m.length = lem) (hm2 : lem ≤ maxLen) (hB : At w.heap.size c m w) (c0 : w.cell? ⟨0, 0, none⟩ = some (.int .i64 1000000)) (c1 : w.cell? ⟨0, 1, none⟩ = some (.int .i64 1099511627776)) (c2 : w.cell? ⟨0, 2, none⟩ = some (.int .i64 4398046511104)) (c3 : w.cell? ⟨0, 3, none⟩ = some (.int .i64 40)) :
    Calls Tryd.prog 5 #[.slice a len cap, .slice c lem cam] w fun e w' => e = .returned (.bool true) ∧ Below w.heap.size w w' := by
  subst hl hl2
  have HA := hid hA
  have HB := hid hB
  have C0 := hid c0
  clear hA hB c0 c1 c2 c3
  by_cases h20 : l.length ≤ 1048576
  · by_cases hs : l.length + m.length ≤ 1048576
    · have h21 : m.length ≤ 1048576 := by omega
      clear hm hm2
      have hn : (0 : Int) ≤ 1048576 - (l.length : Int) := by omega
      have hn2 : (0 : Int) ≤ 1048576 - (l.length : Int) - (m.length : Int) := by omega
      have tz : True := trivial
      have t1 : True := trivial
      go_enter Tryd.func5, Tryd.ntmps5
      go_upto_region 8 with (first | (go_at_call 43; clear tz; refine (szPointS_c _ _ _ _ ?_ ?_ _).mono ?_; (omega); (omega); rintro e w' ⟨rfl, rfl⟩) | (go_at_call 43; refine (szPointS_c _ _ _ _ ?_ ?_ _).mono ?_; (omega); (omega); rintro e w' ⟨rfl, rfl⟩))
      clear hn hn2 hs
      go_upto_region 9 with (first
        | (go_at_call 44; clear t1; refine (toPointS_e l _ _ _ _ rfl h20 HA.out).mono ?_; rintro e w1 ⟨b1, rfl, hc1, hb1⟩; have ha1 := hc1.at; clear hc1)
        | (go_at_call 44; refine (toPointS_e m _ _ _ _ rfl h21 ((HB.out.later hb1).mono hb1.size)).mono ?_; rintro e w2 ⟨b2, rfl, hc2, hb2⟩; have ha2 := hc2.at; have hbw2 := grew hb1 hb2; replace ha1 := (ha1.later hb2).mono hb2.size; clear hc2)
        | (go_at_call 16; refine (bridgeTopSpec_c l m _ _ _ _ _ _ _ rfl rfl h20 h21 ha1 ha2).mono ?_; rintro e w3 ⟨rfl, hb3⟩; have hbw := grew hbw2 hb3))
      clear ha1 ha2 hb1 hb2 hb3 hbw2
      go_upto_region 10 with (go_at_call 44; refine (toPointS_e l _ _ _ _ rfl h20 ((HA.out.later hbw).mono hbw.size)).mono ?_; rintro e w4 ⟨b4, rfl, hc4, hb4⟩; have ha4 := hc4.at; replace hbw := grew hbw hb4; clear hc4 hb4)
      go_upto_region 11 with (go_at_call 44; refine (toPointS_e m _ _ _ _ rfl h21 ((HB.out.later hbw).mono hbw.size)).mono ?_; rintro e w5 ⟨b5, rfl, hc5, hb5⟩; have ha5 := hc5.at; replace hbw := grew hbw hb5; replace ha4 := (ha4.later hb5).mono hb5.size; clear hc5 hb5)
      go_upto_region 14 with (go_at_call 15; refine (bridgeTopImpl_c l m _ _ _ _ _ _ _ rfl rfl h20 h21 ha4 ha5 (cell_later hbw C0.out)).mono ?_; rintro e w6 ⟨rfl, hb6⟩; replace hbw := grew hbw hb6; replace ha4 := (ha4.later hb6).mono hb6.size; replace ha5 := (ha5.later hb6).mono hb6.size; clear hb6)
      go_upto_region 16 with (first
        | (go_at_call 44; refine (toPointS_e l _ _ _ _ rfl h20 ((HA.out.later hbw).mono hbw.size)).mono ?_; rintro e w7 ⟨b7, rfl, hc7, hb7⟩; have ha7 := hc7.at; replace hbw := grew hbw hb7; replace ha4 := (ha4.later hb7).mono hb7.size; replace ha5 := (ha5.later hb7).mono hb7.size; clear hc7 hb7)
        | (go_at_call 45; refine (eqPointS_c l l _ _ _ _ _ _ _ rfl rfl h20 h20 ha4 ha7).mono ?_; rintro e w8 ⟨rfl, hb8⟩; replace hbw := grew hbw hb8; replace ha5 := (ha5.later hb8).mono hb8.size; clear hb8))
      go_wp2_with (first
        | (go_at_call 44; refine (toPointS_e m _ _ _ _ rfl h21 ((HB.out.later hbw).mono hbw.size)).mono ?_; rintro e w9 ⟨b9, rfl, hc9, hb9⟩; have ha9 := hc9.at; replace hbw := grew hbw hb9; replace ha5 := (ha5.later hb9).mono hb9.size; clear hc9 hb9)
        | (go_at_call 45; refine (eqPointS_c m m _ _ _ _ _ _ _ rfl rfl h21 h21 ha5 ha9).mono ?_; rintro e wA ⟨rfl, hbA⟩; replace hbw := grew hbw hbA; clear hbA))
      all_goals go_ret
      all_goals exact ⟨rfl, hbw⟩
    · have hn : (0 : Int) ≤ 1048576 - (l.length : Int) := by omega
      have hn2 : (1048576 : Int) - (l.length : Int) < (m.length : Int) := by omega
      have tz : True := trivial
      go_enter Tryd.func5, Tryd.ntmps5
      go_wp2_with (first | (go_at_call 43; clear tz; refine (szPointS_c _ _ _ _ ?_ ?_ _).mono ?_; (omega); (omega); rintro e w' ⟨rfl, rfl⟩) | (go_at_call 43; refine (szPointS_f _ _ _ _ ?_ ?_ hm2 _).mono ?_; (omega); (omega); rintro e w' ⟨rfl, rfl⟩))
      go_ret
      exact ⟨rfl, by go_grown⟩
  · have hn : (1048576 : Int) < (l.length : Int) := by omega
    go_enter Tryd.func5, Tryd.ntmps5
    go_wp2_with (go_at_call 43; refine (szPointS_f _ _ _ _ ?_ ?_ hm _).mono ?_; (omega); (omega); rintro e w' ⟨rfl, rfl⟩)
    go_ret
    exact ⟨rfl, by go_grown⟩
end Go.Proofs.YtekejglpkeepiaaDoor.fnExactBridgeOf
