/-
  The walk of a law (see the text that imports this one).
  Conditions: as the theorem states them.
-/
import Derived.Test.YtipiamhnngmjmaaDoorNr8
namespace Go.Proofs.YtipiamhnngmjmaaDoor.fnExactNearestByHalves
open Go.RowKit
set_option linter.unusedVariables false
set_option maxRecDepth 8000
set_option maxHeartbeats 4000000 in
theorem walk (l : List (Int × Int)) (a : Option Addr) (len cap : Nat) (w : World) (hl : l.length = len) (hm : len ≤ maxLen) (hA : At w.heap.size a l w) (c0 : w.cell? ⟨0, 0, none⟩ = some (.int .i64 1000000)) (c1 : w.cell? ⟨0, 1, none⟩ = some (.int .i64 1099511627776)) (c2 : w.cell? ⟨0, 2, none⟩ = some (.int .i64 4398046511104)) (c3 : w.cell? ⟨0, 3, none⟩ = some (.int .i64 40)) :
    Calls Tryd.prog 5 #[.slice a len cap] w fun e w' => e = .returned (.bool true) ∧ Below w.heap.size w w' := by
  have HA := hid hA
  have C0 := hid c0
  clear hA c0 c1 c2 c3
  by_cases h20 : len ≤ 1048576
  · clear hm
    have hn : (0 : Int) ≤ 1048576 - (len : Int) := by omega
    have tok1 : True := trivial
    have tok2 : True := trivial
    go_enter Tryd.func5, Tryd.ntmps5
    go_wp2_with (first
      | (go_at_call 15; refine (szPointS_c _ _ _ _ ?_ ?_ _).mono ?_; (omega); (omega); rintro e w' ⟨rfl, rfl⟩)
      | (go_at_call 17; clear tok1; refine (toPointS_c l _ _ _ _ hl h20 HA.out).mono ?_; rintro e w1 ⟨rfl, hc1⟩; have hb1 := hc1.below; have ha1 := hc1.at; have HC1 := hid hc1; clear hc1)
      | (go_at_call 21; refine (halfNearSpec_c l _ _ _ _ hl h20 (.inr ⟨⟨_, _, rfl⟩, Nat.le_refl _, by unfold maxLen; omega⟩) ha1).mono ?_; rintro e w2 ⟨rfl, hb2⟩; have hb2' := grew hb1 hb2)
      | (go_at_call 17; clear tok2; refine (toPointS_c l _ _ _ _ hl h20 ((HA.out.later hb2').mono hb2'.size)).mono ?_; rintro e w3 ⟨rfl, hc3⟩; have hb3 := hc3.below; have ha3 := hc3.at; have hb3' := grew hb2' hb3; clear hc3)
      | (go_at_call 22; refine (halfNearImpl_c l _ _ _ _ hl h20 (.inr ⟨⟨_, _, rfl⟩, Nat.le_refl _, by unfold maxLen; omega⟩) ha3 (cell_later hb3' C0.out)).mono ?_; rintro e w4 ⟨rfl, hb4⟩; have hb4' := grew hb3' hb4)
      | (go_at_call 17; refine (toPointS_c l _ _ _ _ hl h20 ((HA.out.later hb4').mono hb4'.size)).mono ?_; rintro e w5 ⟨rfl, hc5⟩; have hb5 := hc5.below; have ha5 := hc5.at; have hb5' := grew hb4' hb5; have hb35 := grew hb4 hb5; clear hc5)
      | (go_at_call 20; refine (eqPointS_c l l _ _ _ _ _ _ _ hl hl h20 h20 ((ha3.later hb35).mono hb35.size) ha5).mono ?_; rintro e w6 ⟨rfl, hb6⟩))
    all_goals go_ret
    all_goals exact ⟨rfl, grew hb5' hb6⟩
  · have hn : (1048576 : Int) < (len : Int) := by omega
    go_enter Tryd.func5, Tryd.ntmps5
    go_wp2_with (go_at_call 15; refine (szPointS_f _ _ _ _ ?_ ?_ hm _).mono ?_; (omega); (omega); rintro e w' ⟨rfl, rfl⟩)
    go_ret
    exact ⟨rfl, Below.refl _ _⟩
end Go.Proofs.YtipiamhnngmjmaaDoor.fnExactNearestByHalves
