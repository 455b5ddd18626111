/-
  What is on a segment: the program's function and the specification's (contracts for the walks).
  Conditions: as each theorem states them.
-/
import Derived.Test.YtcghpepkphphbaaDoorEqv
import Derived.Test.YtcghpepkphphbaaDoorHGood
namespace Go.Proofs.YtcghpepkphphbaaDoor
open Go.RowKit Go.Shelf
set_option linter.unusedVariables false
def sgB (ax ay bx b_y qx qy : Int) : Bool := sideOk ax ay bx b_y qx qy && onB (ax, ay) (bx, b_y) (qx, qy)
set_option maxHeartbeats 4000000 in
theorem onSegSpec_c (ax ay bx b_y qx qy : Int) (w : World) :
    Calls Tryd.prog 11 #[.agg #[.int .i64 ax, .int .i64 ay], .agg #[.int .i64 bx, .int .i64 b_y], .agg #[.int .i64 qx, .int .i64 qy]] w fun e w' => e = .returned (.tuple #[.bool (sgB ax ay bx b_y qx qy), .bool (sideOk ax ay bx b_y qx qy)]) ∧ Below w.heap.size w w' := by
  cases h1 : goodB ax ay
  · go_enter Tryd.func11, Tryd.ntmps11
    go_wp2_with (first | (go_at_call 38; refine (goodSpec_c _ _ _).mono ?_; rintro e w' ⟨rfl, rfl⟩) | (go_at_call 39; refine (l4On_c _ _ _ _ _ _ _).mono ?_; rintro e w' ⟨rfl, hb⟩))
    go_ret2
    exact ⟨ret_bb (by unfold sgB sideOk; rw [h1]; rfl) (by unfold sideOk; rw [h1]; rfl), by go_grown⟩
  · cases h2 : goodB bx b_y
    · go_enter Tryd.func11, Tryd.ntmps11
      go_wp2_with (first | (go_at_call 38; refine (goodSpec_c _ _ _).mono ?_; rintro e w' ⟨rfl, rfl⟩) | (go_at_call 39; refine (l4On_c _ _ _ _ _ _ _).mono ?_; rintro e w' ⟨rfl, hb⟩))
      go_ret2
      exact ⟨ret_bb (by unfold sgB sideOk; rw [h1, h2]; rfl) (by unfold sideOk; rw [h1, h2]; rfl), by go_grown⟩
    · cases h3 : goodB qx qy
      · go_enter Tryd.func11, Tryd.ntmps11
        go_wp2_with (first | (go_at_call 38; refine (goodSpec_c _ _ _).mono ?_; rintro e w' ⟨rfl, rfl⟩) | (go_at_call 39; refine (l4On_c _ _ _ _ _ _ _).mono ?_; rintro e w' ⟨rfl, hb⟩))
        go_ret2
        exact ⟨ret_bb (by unfold sgB sideOk; rw [h1, h2, h3]; rfl) (by unfold sideOk; rw [h1, h2, h3]; rfl), by go_grown⟩
      · go_enter Tryd.func11, Tryd.ntmps11
        go_wp2_with (first | (go_at_call 38; refine (goodSpec_c _ _ _).mono ?_; rintro e w' ⟨rfl, rfl⟩) | (go_at_call 39; refine (l4On_c _ _ _ _ _ _ _).mono ?_; rintro e w' ⟨rfl, hb⟩))
        go_ret2
        exact ⟨ret_bb (by unfold sgB sideOk; rw [h1, h2, h3]; rfl) (by unfold sideOk; rw [h1, h2, h3]; rfl), (by go_grown : Below w.heap.size w _).trans (hb.mono (by go_size))⟩
set_option maxHeartbeats 4000000 in
theorem onSegImpl_c (ax ay bx b_y qx qy : Int) (w : World) (c0 : w.cell? ⟨0, 0, none⟩ = some (.int .i64 1000000)) :
    Calls Tryd.prog 13 #[.agg #[.int .i64 ax, .int .i64 ay], .agg #[.int .i64 bx, .int .i64 b_y], .agg #[.int .i64 qx, .int .i64 qy]] w fun e w' => e = .returned (.tuple #[.bool (sgB ax ay bx b_y qx qy), .bool (sideOk ax ay bx b_y qx qy)]) ∧ Below w.heap.size w w' := by
  have hz : 0 < w.heap.size := World.block_lt_of_cell? w _ c0
  cases h1 : goodB ax ay
  · go_enter Tryd.func13, Tryd.ntmps13
    go_wp2_with (first | (go_at_call 40; refine (goodImpl_c _ _ _ ?_).mono ?_; exact cell_later (by go_grown : Below w.heap.size w _) c0; rintro e w' ⟨rfl, rfl⟩) | (go_at_call 41; refine (isBetween_c _ _ _ _ _ _ _ ?_).mono ?_; exact cell_later (by go_grown : Below w.heap.size w _) c0; rintro e w' ⟨rfl, hb⟩))
    go_ret2
    exact ⟨ret_bb (by unfold sgB sideOk; rw [h1]; rfl) (by unfold sideOk; rw [h1]; rfl), by go_grown⟩
  · cases h2 : goodB bx b_y
    · go_enter Tryd.func13, Tryd.ntmps13
      go_wp2_with (first | (go_at_call 40; refine (goodImpl_c _ _ _ ?_).mono ?_; exact cell_later (by go_grown : Below w.heap.size w _) c0; rintro e w' ⟨rfl, rfl⟩) | (go_at_call 41; refine (isBetween_c _ _ _ _ _ _ _ ?_).mono ?_; exact cell_later (by go_grown : Below w.heap.size w _) c0; rintro e w' ⟨rfl, hb⟩))
      go_ret2
      exact ⟨ret_bb (by unfold sgB sideOk; rw [h1, h2]; rfl) (by unfold sideOk; rw [h1, h2]; rfl), by go_grown⟩
    · cases h3 : goodB qx qy
      · go_enter Tryd.func13, Tryd.ntmps13
        go_wp2_with (first | (go_at_call 40; refine (goodImpl_c _ _ _ ?_).mono ?_; exact cell_later (by go_grown : Below w.heap.size w _) c0; rintro e w' ⟨rfl, rfl⟩) | (go_at_call 41; refine (isBetween_c _ _ _ _ _ _ _ ?_).mono ?_; exact cell_later (by go_grown : Below w.heap.size w _) c0; rintro e w' ⟨rfl, hb⟩))
        go_ret2
        exact ⟨ret_bb (by unfold sgB sideOk; rw [h1, h2, h3]; rfl) (by unfold sideOk; rw [h1, h2, h3]; rfl), by go_grown⟩
      · go_enter Tryd.func13, Tryd.ntmps13
        go_wp2_with (first | (go_at_call 40; refine (goodImpl_c _ _ _ ?_).mono ?_; exact cell_later (by go_grown : Below w.heap.size w _) c0; rintro e w' ⟨rfl, rfl⟩) | (go_at_call 41; refine (isBetween_c _ _ _ _ _ _ _ ?_).mono ?_; exact cell_later (by go_grown : Below w.heap.size w _) c0; rintro e w' ⟨rfl, hb⟩))
        go_ret2
        exact ⟨ret_bb (by unfold sgB sideOk; rw [h1, h2, h3]; exact bt_on h1 h2 h3) (by unfold sideOk; rw [h1, h2, h3]; rfl), (by go_grown : Below w.heap.size w _).trans (hb.mono (by go_size))⟩
end Go.Proofs.YtcghpepkphphbaaDoor
