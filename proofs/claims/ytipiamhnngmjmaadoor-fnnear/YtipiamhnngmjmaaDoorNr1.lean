/-
  How far two points are apart: the program's function and the specification's (contracts for the walks).
  Conditions: as each theorem states them.
-/
import Derived.Test.YtipiamhnngmjmaaDoorNrMath
namespace Go.Proofs.YtipiamhnngmjmaaDoor
open Go.RowKit Go.Shelf
set_option linter.unusedVariables false
set_option maxRecDepth 8000
set_option maxHeartbeats 2000000 in
theorem wayFrom_c (ax ay bx b_y : Int) (w : World) : Calls Tryd.prog 76 #[.agg #[.int .i64 ax, .int .i64 ay], .agg #[.int .i64 bx, .int .i64 b_y]] w fun e w' => e = .returned (.agg #[.int .i64 (wrap64 (bx - ax)), .int .i64 (wrap64 (b_y - ay))]) ∧ Below w.heap.size w w' := by
  go_enter Tryd.func76, Tryd.ntmps76
  go_wp2
  refine bodyPost_ret (v := .agg #[.int .i64 (wrap64 (bx - ax)), .int .i64 (wrap64 (b_y - ay))]) (by simp [results, Tryd.results76, go_sem]) rfl ?_
  exact ⟨rfl, by go_grown⟩
def apW (ax ay bx b_y : Int) : Int := wrap64 (wrap64 (wrap64 (bx - ax) * wrap64 (bx - ax)) + wrap64 (wrap64 (b_y - ay) * wrap64 (b_y - ay)))
theorem apW_eq {ax ay bx b_y : Int} (h : goodB ax ay = true) (k : goodB bx b_y = true) : apW ax ay bx b_y = apF (ax, ay) (bx, b_y) := by
  have h1 := goodB_r h
  have h2 := goodB_r k
  have m1 := sq_small (x := bx - ax) (by omega) (by omega)
  have m2 := sq_small (x := b_y - ay) (by omega) (by omega)
  have e1 : wrap64 (bx - ax) = bx - ax := wrap_in (by omega) (by omega)
  have e2 : wrap64 (b_y - ay) = b_y - ay := wrap_in (by omega) (by omega)
  have w1 := wrap_in (x := (bx - ax) * (bx - ax)) (by omega) (by omega)
  have w2 := wrap_in (x := (b_y - ay) * (b_y - ay)) (by omega) (by omega)
  unfold apW
  rw [e1, e2, w1, w2, wrap_in (by omega) (by omega)]
  rfl
set_option maxHeartbeats 2000000 in
theorem apart_c (ax ay bx b_y : Int) (w : World) (h : goodB ax ay = true) (k : goodB bx b_y = true) : Calls Tryd.prog 49 #[.agg #[.int .i64 ax, .int .i64 ay], .agg #[.int .i64 bx, .int .i64 b_y]] w fun e w' => e = .returned (.int .i64 (apF (ax, ay) (bx, b_y))) ∧ Below w.heap.size w w' := by
  rw [← apW_eq h k]
  clear h k
  have HBA := hid (show Below w.heap.size w ((w.alloc (.cells #[.int .i64 ax, .int .i64 ay] 26)).alloc (.cells #[.int .i64 bx, .int .i64 b_y] 26)) by go_grown)
  go_enter Tryd.func49, Tryd.ntmps49
  go_wp2_with (go_at_call 76; refine (wayFrom_c _ _ _ _ _).mono ?_; rintro e w1 ⟨rfl, hb1⟩; have hb := grew HBA.out hb1; clear hb1)
  go_ret
  exact ⟨rfl, hb.alloc hb.size _⟩
set_option maxHeartbeats 2000000 in
theorem apartS_c (ax ay bx b_y : Int) (w : World) (h : goodB ax ay = true) (k : goodB bx b_y = true) : Calls Tryd.prog 47 #[.agg #[.int .i64 ax, .int .i64 ay], .agg #[.int .i64 bx, .int .i64 b_y]] w fun e w' => e = .returned (.int .i64 (apF (ax, ay) (bx, b_y))) ∧ Below w.heap.size w w' := by
  rw [apF_comm, ← apW_eq k h]
  clear h k
  unfold apW
  go_enter Tryd.func47, Tryd.ntmps47
  go_wp2
  go_quiet (fail)
  go_wp2
  go_ret
  exact ⟨rfl, (by go_grown : Below w.heap.size w _).trans ((drewN_below _ _).mono (by go_size))⟩
theorem apart_q (ax ay bx b_y d : Int) (w : World) (h : goodB ax ay = true) (k : goodB bx b_y = true) (e : apF (ax, ay) (bx, b_y) = d) : Calls Tryd.prog 49 #[.agg #[.int .i64 ax, .int .i64 ay], .agg #[.int .i64 bx, .int .i64 b_y]] w fun e w' => e = .returned (.int .i64 d) ∧ Below w.heap.size w w' := by
  rw [← e]; exact apart_c _ _ _ _ _ h k
theorem apartS_q (ax ay bx b_y d : Int) (w : World) (h : goodB ax ay = true) (k : goodB bx b_y = true) (e : apF (ax, ay) (bx, b_y) = d) : Calls Tryd.prog 47 #[.agg #[.int .i64 ax, .int .i64 ay], .agg #[.int .i64 bx, .int .i64 b_y]] w fun e w' => e = .returned (.int .i64 d) ∧ Below w.heap.size w w' := by
  rw [← e]; exact apartS_c _ _ _ _ _ h k
def apOk (ax ay bx b_y : Int) : Bool := goodB ax ay && goodB bx b_y
def apV (ax ay bx b_y : Int) : Int := if apOk ax ay bx b_y = true then apF (ax, ay) (bx, b_y) else 0
theorem ret_ib2 {x y : Int} {a b : Bool} (h : x = y) (k : a = b) : Ending.returned (.tuple #[.int .i64 x, .bool a]) = .returned (.tuple #[.int .i64 y, .bool b]) := by rw [h, k]
set_option maxHeartbeats 4000000 in
theorem apartOfSpec_c (ax ay bx b_y : Int) (w : World) : Calls Tryd.prog 12 #[.agg #[.int .i64 ax, .int .i64 ay], .agg #[.int .i64 bx, .int .i64 b_y]] w fun e w' => e = .returned (.tuple #[.int .i64 (apV ax ay bx b_y), .bool (apOk ax ay bx b_y)]) ∧ Below w.heap.size w w' := by
  cases h1 : goodB ax ay
  · go_enter Tryd.func12, Tryd.ntmps12
    go_wp2_with (first | (go_at_call 46; refine (goodSpec_c _ _ _).mono ?_; rintro e w' ⟨rfl, rfl⟩))
    go_ret2
    exact ⟨ret_ib2 (by unfold apV apOk; rw [h1]; rfl) (by unfold apOk; rw [h1]; rfl), by go_grown⟩
  · cases h2 : goodB bx b_y
    · go_enter Tryd.func12, Tryd.ntmps12
      go_wp2_with (first | (go_at_call 46; refine (goodSpec_c _ _ _).mono ?_; rintro e w' ⟨rfl, rfl⟩))
      go_ret2
      exact ⟨ret_ib2 (by unfold apV apOk; rw [h1, h2]; rfl) (by unfold apOk; rw [h1, h2]; rfl), by go_grown⟩
    · go_enter Tryd.func12, Tryd.ntmps12
      go_wp2_with (first | (go_at_call 46; refine (goodSpec_c _ _ _).mono ?_; rintro e w' ⟨rfl, rfl⟩) | (go_at_call 47; refine (apartS_c _ _ _ _ _ h1 h2).mono ?_; rintro e w2 ⟨rfl, hb2⟩))
      go_ret2
      exact ⟨ret_ib2 (by unfold apV apOk; rw [h1, h2]; rfl) (by unfold apOk; rw [h1, h2]; rfl), (by go_grown : Below w.heap.size w _).trans (hb2.mono (by go_size))⟩
set_option maxHeartbeats 4000000 in
theorem apartOfImpl_c (ax ay bx b_y : Int) (w : World) (c0 : w.cell? ⟨0, 0, none⟩ = some (.int .i64 1000000)) : Calls Tryd.prog 14 #[.agg #[.int .i64 ax, .int .i64 ay], .agg #[.int .i64 bx, .int .i64 b_y]] w fun e w' => e = .returned (.tuple #[.int .i64 (apV ax ay bx b_y), .bool (apOk ax ay bx b_y)]) ∧ Below w.heap.size w w' := by
  have hz : 0 < w.heap.size := World.block_lt_of_cell? w _ c0
  cases h1 : goodB ax ay
  · go_enter Tryd.func14, Tryd.ntmps14
    go_wp2_with (first | (go_at_call 48; refine (goodImpl_c _ _ _ ?_).mono ?_; exact cell_later (by go_grown : Below w.heap.size w _) c0; rintro e w' ⟨rfl, rfl⟩))
    go_ret2
    exact ⟨ret_ib2 (by unfold apV apOk; rw [h1]; rfl) (by unfold apOk; rw [h1]; rfl), by go_grown⟩
  · cases h2 : goodB bx b_y
    · go_enter Tryd.func14, Tryd.ntmps14
      go_wp2_with (first | (go_at_call 48; refine (goodImpl_c _ _ _ ?_).mono ?_; exact cell_later (by go_grown : Below w.heap.size w _) c0; rintro e w' ⟨rfl, rfl⟩))
      go_ret2
      exact ⟨ret_ib2 (by unfold apV apOk; rw [h1, h2]; rfl) (by unfold apOk; rw [h1, h2]; rfl), by go_grown⟩
    · go_enter Tryd.func14, Tryd.ntmps14
      go_wp2_with (first | (go_at_call 48; refine (goodImpl_c _ _ _ ?_).mono ?_; exact cell_later (by go_grown : Below w.heap.size w _) c0; rintro e w' ⟨rfl, rfl⟩) | (go_at_call 49; refine (apart_c _ _ _ _ _ h1 h2).mono ?_; rintro e w2 ⟨rfl, hb2⟩))
      go_ret2
      exact ⟨ret_ib2 (by unfold apV apOk; rw [h1, h2]; rfl) (by unfold apOk; rw [h1, h2]; rfl), (by go_grown : Below w.heap.size w _).trans (hb2.mono (by go_size))⟩
end Go.Proofs.YtipiamhnngmjmaaDoor
