/-
  The walk of a law (see the text that imports this one).
  Conditions: as the theorem states them.
-/
import Derived.Test.YtoefllklngnmeaaDoorLy9g
namespace Go.Proofs.YtoefllklngnmeaaDoor.fnExactLayerOf
open Go.RowKit
set_option linter.unusedVariables false
set_option maxRecDepth 8000
set_option maxHeartbeats 4000000 in
theorem walk (l : List (Int × Int)) (a : Option Addr) (len cap : Nat) (x y : Int) (w : World) (hl : l.length = len) (hm : len ≤ maxLen) (hA : At w.heap.size a l w) (c0 : w.cell? ⟨0, 0, none⟩ = some (.int .i64 1000000)) (c1 : w.cell? ⟨0, 1, none⟩ = some (.int .i64 1099511627776)) (c2 : w.cell? ⟨0, 2, none⟩ = some (.int .i64 4398046511104)) (c3 : w.cell? ⟨0, 3, none⟩ = some (.int .i64 40)) :
    Calls Tryd.prog 5 #[.slice a len cap, .agg #[.int .i64 x, .int .i64 y]] w fun e w' => e = .returned (.bool true) ∧ Below w.heap.size w w' := by
  have HA := hid hA
  have C0 := hid c0
  clear hA c0 c1 c2 c3
  by_cases h20 : len ≤ 1048576
  · clear hm
    have hn : (0 : Int) ≤ 1048576 - (len : Int) := by omega
    have tok2 : True := trivial
    have B0 := box0 w x y 24
    have B1 := box1 w x y 24
    go_enter Tryd.func5, Tryd.ntmps5
    go_wp2_with (go_at_call 10; refine (szPointS_c _ _ _ _ ?_ ?_ _).mono ?_; (omega); (omega); rintro e w' ⟨rfl, rfl⟩)
    go_region_held3 (fun u => u.cell? ⟨w.heap.size, 0, none⟩ = some (.int .i64 x) ∧ u.cell? ⟨w.heap.size, 1, none⟩ = some (.int .i64 y) ∧ Below w.heap.size w u) (first | exact keep2 (by with_reducible assumption) (by with_reducible assumption) | exact ⟨cell_later (Below.refl _ _).drew B0, cell_later (Below.refl _ _).drew B1, by go_grown⟩) (first
      | (go_at_call 12; refine (toPointS_e l _ _ _ _ hl h20 ((HA.out.later (fin2 (by with_reducible assumption))).mono (fin2 (by with_reducible assumption)).size)).mono ?_; rintro e w1 ⟨b1, rfl, hc1, hb1⟩; have ha1 := hc1.at)
      | (go_at_call 13; refine (toPoint_c _ _ _).mono ?_; rintro e w2 ⟨rfl, hb2⟩)
      | (go_at_call 22; refine (layerSpec_c l x y _ _ _ _ hl h20 (.inr ⟨⟨_, _, rfl⟩, Nat.le_refl _, by unfold maxLen; omega⟩) ((ha1.later hb2).mono hb2.size)).mono ?_; rintro e w3 ⟨rfl, hb3⟩))
    have hS : w3.cell? ⟨w.heap.size, 0, none⟩ = some (.int .i64 x) ∧ w3.cell? ⟨w.heap.size, 1, none⟩ = some (.int .i64 y) ∧ Below w.heap.size w w3 := by with_reducible assumption
    obtain ⟨r0, r1, hb3'⟩ := hS
    go_wp2_with (first
      | (go_at_call 12; clear tok2; refine (toPointS_e l _ _ _ _ hl h20 ((HA.out.later hb3').mono hb3'.size)).mono ?_; rintro e w4 ⟨b4, rfl, hc4, hb4⟩; have ha4 := hc4.at; have hb4' := grew hb3' hb4; have s0 := cell_later hb4 r0; have s1 := cell_later hb4 r1; clear hc4)
      | (go_at_call 13; refine (toPoint_c _ _ _).mono ?_; rintro e w5 ⟨rfl, hb5⟩; have hb5' := grew hb4' hb5; have ha5 := (ha4.later hb5).mono hb5.size)
      | (go_at_call 23; refine (layerImpl_c l x y _ _ _ _ hl h20 ha5 (cell_later hb5' C0.out)).mono ?_; rintro e w6 ⟨rfl, hb6⟩; have hb6' := grew hb5' hb6; have ha6 := (ha5.later hb6).mono hb6.size)
      | (go_at_call 12; refine (toPointS_e l _ _ _ _ hl h20 ((HA.out.later hb6').mono hb6'.size)).mono ?_; rintro e w7 ⟨b7, rfl, hc7, hb7⟩; have ha7 := hc7.at; have hb7' := grew hb6' hb7; have ha67 := (ha6.later hb7).mono hb7.size; clear hc7)
      | (go_at_call 15; refine (eqPointS_c l l _ _ _ _ _ _ _ hl hl h20 h20 ha67 ha7).mono ?_; rintro e w8 ⟨rfl, hb8⟩))
    all_goals go_ret
    all_goals exact ⟨rfl, grew hb7' hb8⟩
  · have hn : (1048576 : Int) < (len : Int) := by omega
    go_enter Tryd.func5, Tryd.ntmps5
    go_wp2_with (go_at_call 10; refine (szPointS_f _ _ _ _ ?_ ?_ hm _).mono ?_; (omega); (omega); rintro e w' ⟨rfl, rfl⟩)
    go_ret
    exact ⟨rfl, by go_grown⟩
end Go.Proofs.YtoefllklngnmeaaDoor.fnExactLayerOf
