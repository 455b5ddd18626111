/-
  What is on a segment, as the specification has it (contracts for the walks).
  Conditions: as each theorem states them.
-/
import Derived.Test.YtoefllklngnmeaaDoorWhr
namespace Go.Proofs.YtoefllklngnmeaaDoor
open Go.RowKit Go.Shelf
set_option linter.unusedVariables false
set_option maxRecDepth 8000
/-- q is on the way from a to b, as the specification has it. -/
def onB (a b q : Int × Int) : Bool := decide (sg (crossW a.1 a.2 b.1 b.2 q.1 q.2) = 0) && decide (0 ≤ dotW (wrap64 (q.1 - a.1)) (wrap64 (q.2 - a.2)) q.1 q.2 b.1 b.2)
set_option maxHeartbeats 2000000 in
theorem l4On_c (ax ay bx b_y qx qy : Int) (w : World) :
    Calls Tryd.prog 93 #[.agg #[.int .i64 ax, .int .i64 ay], .agg #[.int .i64 bx, .int .i64 b_y], .agg #[.int .i64 qx, .int .i64 qy]] w fun e w' => e = .returned (.bool (onB (ax, ay) (bx, b_y) (qx, qy))) ∧ Below w.heap.size w w' := by
  have HB := hid (show Below w.heap.size w (((w.alloc (.cells #[.int .i64 ax, .int .i64 ay] 30)).alloc (.cells #[.int .i64 bx, .int .i64 b_y] 30)).alloc (.cells #[.int .i64 qx, .int .i64 qy] 30)) by go_grown)
  by_cases h0 : sg (crossW ax ay bx b_y qx qy) = 0
  · go_enter Tryd.func93, Tryd.ntmps93
    go_wp2_with (first
      | (go_at_call 60; refine (side_c _ _ _ _ _ _ _).mono ?_; rintro e w1 ⟨rfl, hb⟩; have k0 := cell_later hb (tb0 w ax ay bx b_y qx qy); have k1 := cell_later hb (tb1 w ax ay bx b_y qx qy); have k2 := cell_later hb (tb2 w ax ay bx b_y qx qy); have k3 := cell_later hb (tb3 w ax ay bx b_y qx qy); have k4 := cell_later hb (tb4 w ax ay bx b_y qx qy); have k5 := cell_later hb (tb5 w ax ay bx b_y qx qy); have HB1 := hid (grew HB.out hb); clear hb)
      | (go_at_call 62; refine (dot_c _ _ _ _ _ _ _).mono ?_; rintro e w2 ⟨rfl, hb⟩; have HB2 := hid (grew HB1.out hb); clear hb))
    all_goals go_ret
    all_goals exact ⟨ret_bool (by unfold onB; rw [decide_eq_true h0]; rfl), HB2.out⟩
  · go_enter Tryd.func93, Tryd.ntmps93
    go_wp2_with (first
      | (go_at_call 60; refine (side_c _ _ _ _ _ _ _).mono ?_; rintro e w1 ⟨rfl, hb⟩; have HB1 := hid (grew HB.out hb); clear hb))
    all_goals go_ret
    all_goals exact ⟨ret_bool (by unfold onB; rw [decide_eq_false h0]; rfl), HB1.out⟩
end Go.Proofs.YtoefllklngnmeaaDoor
