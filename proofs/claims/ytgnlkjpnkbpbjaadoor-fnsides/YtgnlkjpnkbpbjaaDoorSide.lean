/-
  What SideOf, DotSign, LessPoint and GoodPoint answer, in the specification and in the program (contracts for the walks).
  Conditions: as each theorem states them.
-/
import Derived.Test.YtgnlkjpnkbpbjaaDoorMul
namespace Go.Proofs.YtgnlkjpnkbpbjaaDoor
open Go.RowKit Go.Lib
set_option linter.unusedVariables false
/-- Whether both numbers are within MaxXY. -/
def goodB (x y : Int) : Bool := decide (-1000000 ≤ x ∧ x ≤ 1000000 ∧ -1000000 ≤ y ∧ y ≤ 1000000)
def crossW (ax ay bx b_y cx cy : Int) : Int := wrap64 (wrap64 (wrap64 (bx - ax) * wrap64 (cy - ay)) - wrap64 (wrap64 (b_y - ay) * wrap64 (cx - ax)))
theorem ret_bool {a b : Bool} (h : a = b) : Ending.returned (.bool a) = .returned (.bool b) := by rw [h]
theorem ret_int {a b : Int} (h : a = b) : Ending.returned (.int .i64 a) = .returned (.int .i64 b) := by rw [h]
theorem signSpec_c (n : Int) (w : World) : Calls Tryd.prog 40 #[.int .i64 n] w fun e w' => e = .returned (.int .i64 (sg n)) ∧ w = w' := by
  by_cases h1 : n < 0
  · have e : sg n = -1 := by unfold sg; rw [if_pos h1]
    go_enter Tryd.func40, Tryd.ntmps40
    go_wp2
    go_ret
    exact ⟨by first | rfl | (rw [e]; rfl), rfl⟩
  · by_cases h2 : 0 < n
    · have e : sg n = 1 := by unfold sg; rw [if_neg h1, if_pos h2]
      go_enter Tryd.func40, Tryd.ntmps40
      go_wp2
      go_ret
      exact ⟨by first | rfl | (rw [e]; rfl), rfl⟩
    · have e : sg n = 0 := by unfold sg; rw [if_neg h1, if_neg h2]
      go_enter Tryd.func40, Tryd.ntmps40
      go_wp2
      go_ret
      exact ⟨by first | rfl | (rw [e]; rfl), rfl⟩
set_option maxHeartbeats 2000000 in
theorem goodSpec_c (x y : Int) (w : World) : Calls Tryd.prog 31 #[.agg #[.int .i64 x, .int .i64 y]] w fun e w' => e = .returned (.bool (goodB x y)) ∧ w.alloc (.cells #[.int .i64 x, .int .i64 y] 25) = w' := by
  by_cases h1 : -1000000 ≤ x
  · by_cases h2 : x ≤ 1000000
    · by_cases h3 : -1000000 ≤ y
      · by_cases h4 : y ≤ 1000000
        · have e : goodB x y = true := decide_eq_true (by omega)
          go_enter Tryd.func31, Tryd.ntmps31
          go_wp2
          go_ret
          exact ⟨by first | rfl | (rw [e]; rfl), rfl⟩
        · have e : goodB x y = false := decide_eq_false (by omega)
          go_enter Tryd.func31, Tryd.ntmps31
          go_wp2
          go_ret
          exact ⟨by first | rfl | (rw [e]; rfl), rfl⟩
      · have e : goodB x y = false := decide_eq_false (by omega)
        go_enter Tryd.func31, Tryd.ntmps31
        go_wp2
        go_ret
        exact ⟨by first | rfl | (rw [e]; rfl), rfl⟩
    · have e : goodB x y = false := decide_eq_false (by omega)
      go_enter Tryd.func31, Tryd.ntmps31
      go_wp2
      go_ret
      exact ⟨by first | rfl | (rw [e]; rfl), rfl⟩
  · have e : goodB x y = false := decide_eq_false (by omega)
    go_enter Tryd.func31, Tryd.ntmps31
    go_wp2
    go_ret
    exact ⟨by first | rfl | (rw [e]; rfl), rfl⟩
set_option maxHeartbeats 2000000 in
theorem goodImpl_c (x y : Int) (w : World) (c0 : w.cell? ⟨0, 0, none⟩ = some (.int .i64 1000000)) : Calls Tryd.prog 9 #[.agg #[.int .i64 x, .int .i64 y]] w fun e w' => e = .returned (.bool (goodB x y)) ∧ (w.alloc (.cells #[.int .i64 x, .int .i64 y] 25)).alloc (.cells #[.int .i64 x, .int .i64 y] 25) = w' := by
  have hz : 0 < w.heap.size := World.block_lt_of_cell? w _ c0
  by_cases h1 : -1000000 ≤ x
  · by_cases h2 : x ≤ 1000000
    · by_cases h3 : -1000000 ≤ y
      · by_cases h4 : y ≤ 1000000
        · have e : goodB x y = true := decide_eq_true (by omega)
          go_enter Tryd.func9, Tryd.ntmps9
          go_wp2
          go_ret
          exact ⟨by first | rfl | (rw [e]; rfl), rfl⟩
        · have e : goodB x y = false := decide_eq_false (by omega)
          go_enter Tryd.func9, Tryd.ntmps9
          go_wp2
          go_ret
          exact ⟨by first | rfl | (rw [e]; rfl), rfl⟩
      · have e : goodB x y = false := decide_eq_false (by omega)
        go_enter Tryd.func9, Tryd.ntmps9
        go_wp2
        go_ret
        exact ⟨by first | rfl | (rw [e]; rfl), rfl⟩
    · have e : goodB x y = false := decide_eq_false (by omega)
      go_enter Tryd.func9, Tryd.ntmps9
      go_wp2
      go_ret
      exact ⟨by first | rfl | (rw [e]; rfl), rfl⟩
  · have e : goodB x y = false := decide_eq_false (by omega)
    go_enter Tryd.func9, Tryd.ntmps9
    go_wp2
    go_ret
    exact ⟨by first | rfl | (rw [e]; rfl), rfl⟩
theorem cross_c (ax ay bx b_y cx cy : Int) (w : World) : Calls Tryd.prog 49 #[.agg #[.int .i64 ax, .int .i64 ay], .agg #[.int .i64 bx, .int .i64 b_y], .agg #[.int .i64 cx, .int .i64 cy]] w fun e w' => e = .returned (.int .i64 (crossW ax ay bx b_y cx cy)) ∧ Below w.heap.size w w' := by
  go_enter Tryd.func49, Tryd.ntmps49
  go_wp2
  go_ret
  exact ⟨rfl, by go_grown⟩
theorem side_c (ax ay bx b_y cx cy : Int) (w : World) : Calls Tryd.prog 32 #[.agg #[.int .i64 ax, .int .i64 ay], .agg #[.int .i64 bx, .int .i64 b_y], .agg #[.int .i64 cx, .int .i64 cy]] w fun e w' => e = .returned (.int .i64 (sg (crossW ax ay bx b_y cx cy))) ∧ Below w.heap.size w w' := by
  go_enter Tryd.func32, Tryd.ntmps32
  go_wp2_with (first | (go_at_call 49; refine (cross_c _ _ _ _ _ _ _).mono ?_; rintro e w' ⟨rfl, hb⟩) | (go_at_call 40; refine (signSpec_c _ _).mono ?_; rintro e w' ⟨rfl, rfl⟩))
  go_ret
  exact ⟨rfl, (by go_grown : Below w.heap.size w _).trans (hb.mono (by go_size))⟩
def sideOk (ax ay bx b_y cx cy : Int) : Bool := goodB ax ay && goodB bx b_y && goodB cx cy
def sideN (ax ay bx b_y cx cy : Int) : Int := if sideOk ax ay bx b_y cx cy then sg (crossW ax ay bx b_y cx cy) else 0
set_option maxHeartbeats 2000000 in
theorem sideOfSpec_c (ax ay bx b_y cx cy : Int) (w : World) : Calls Tryd.prog 8 #[.agg #[.int .i64 ax, .int .i64 ay], .agg #[.int .i64 bx, .int .i64 b_y], .agg #[.int .i64 cx, .int .i64 cy]] w fun e w' => e = .returned (.tuple #[.int .i64 (sideN ax ay bx b_y cx cy), .bool (sideOk ax ay bx b_y cx cy)]) ∧ Below w.heap.size w w' := by
  cases hA : goodB ax ay
  · have e : sideN ax ay bx b_y cx cy = 0 := by simp [sideN, sideOk, hA]
    have e2 : sideOk ax ay bx b_y cx cy = false := by simp [sideOk, hA]
    go_enter Tryd.func8, Tryd.ntmps8
    go_wp2_with (first | (go_at_call 31; refine (goodSpec_c _ _ _).mono ?_; rintro e w' ⟨rfl, rfl⟩) | (go_at_call 32; refine (side_c _ _ _ _ _ _ _).mono ?_; rintro e w' ⟨rfl, hb⟩))
    go_ret2
    exact ⟨by first | rfl | exact ret_ib e.symm e2.symm, by first | (go_grown; done) | exact (by go_grown : Below w.heap.size w _).trans (hb.mono (by go_size))⟩
  · cases hB : goodB bx b_y
    · have e : sideN ax ay bx b_y cx cy = 0 := by simp [sideN, sideOk, hA, hB]
      have e2 : sideOk ax ay bx b_y cx cy = false := by simp [sideOk, hA, hB]
      go_enter Tryd.func8, Tryd.ntmps8
      go_wp2_with (first | (go_at_call 31; refine (goodSpec_c _ _ _).mono ?_; rintro e w' ⟨rfl, rfl⟩) | (go_at_call 32; refine (side_c _ _ _ _ _ _ _).mono ?_; rintro e w' ⟨rfl, hb⟩))
      go_ret2
      exact ⟨by first | rfl | exact ret_ib e.symm e2.symm, by first | (go_grown; done) | exact (by go_grown : Below w.heap.size w _).trans (hb.mono (by go_size))⟩
    · cases hC : goodB cx cy
      · have e : sideN ax ay bx b_y cx cy = 0 := by simp [sideN, sideOk, hA, hB, hC]
        have e2 : sideOk ax ay bx b_y cx cy = false := by simp [sideOk, hA, hB, hC]
        go_enter Tryd.func8, Tryd.ntmps8
        go_wp2_with (first | (go_at_call 31; refine (goodSpec_c _ _ _).mono ?_; rintro e w' ⟨rfl, rfl⟩) | (go_at_call 32; refine (side_c _ _ _ _ _ _ _).mono ?_; rintro e w' ⟨rfl, hb⟩))
        go_ret2
        exact ⟨by first | rfl | exact ret_ib e.symm e2.symm, by first | (go_grown; done) | exact (by go_grown : Below w.heap.size w _).trans (hb.mono (by go_size))⟩
      · have e : sideN ax ay bx b_y cx cy = sg (crossW ax ay bx b_y cx cy) := by simp [sideN, sideOk, hA, hB, hC]
        have e2 : sideOk ax ay bx b_y cx cy = true := by simp [sideOk, hA, hB, hC]
        go_enter Tryd.func8, Tryd.ntmps8
        go_wp2_with (first | (go_at_call 31; refine (goodSpec_c _ _ _).mono ?_; rintro e w' ⟨rfl, rfl⟩) | (go_at_call 32; refine (side_c _ _ _ _ _ _ _).mono ?_; rintro e w' ⟨rfl, hb⟩))
        go_ret2
        exact ⟨by first | rfl | exact ret_ib e.symm e2.symm, by first | (go_grown; done) | exact (by go_grown : Below w.heap.size w _).trans (hb.mono (by go_size))⟩

set_option maxHeartbeats 2000000 in
theorem sideOfImpl_c (ax ay bx b_y cx cy : Int) (w : World) (c0 : w.cell? ⟨0, 0, none⟩ = some (.int .i64 1000000)) : Calls Tryd.prog 7 #[.agg #[.int .i64 ax, .int .i64 ay], .agg #[.int .i64 bx, .int .i64 b_y], .agg #[.int .i64 cx, .int .i64 cy]] w fun e w' => e = .returned (.tuple #[.int .i64 (sideN ax ay bx b_y cx cy), .bool (sideOk ax ay bx b_y cx cy)]) ∧ Below w.heap.size w w' := by
  have hz : 0 < w.heap.size := World.block_lt_of_cell? w _ c0
  cases hA : goodB ax ay
  · have e : sideN ax ay bx b_y cx cy = 0 := by simp [sideN, sideOk, hA]
    have e2 : sideOk ax ay bx b_y cx cy = false := by simp [sideOk, hA]
    go_enter Tryd.func7, Tryd.ntmps7
    go_wp2_with (first | (go_at_call 9; refine (goodImpl_c _ _ _ ?_).mono ?_; exact cell_later (by go_grown : Below w.heap.size w _) c0; rintro e w' ⟨rfl, rfl⟩) | (go_at_call 30; refine (signImpl_c _ _).mono ?_; rintro e w' ⟨rfl, rfl⟩))
    go_ret2
    exact ⟨by first | rfl | exact ret_ib e.symm e2.symm, by go_grown⟩
  · cases hB : goodB bx b_y
    · have e : sideN ax ay bx b_y cx cy = 0 := by simp [sideN, sideOk, hA, hB]
      have e2 : sideOk ax ay bx b_y cx cy = false := by simp [sideOk, hA, hB]
      go_enter Tryd.func7, Tryd.ntmps7
      go_wp2_with (first | (go_at_call 9; refine (goodImpl_c _ _ _ ?_).mono ?_; exact cell_later (by go_grown : Below w.heap.size w _) c0; rintro e w' ⟨rfl, rfl⟩) | (go_at_call 30; refine (signImpl_c _ _).mono ?_; rintro e w' ⟨rfl, rfl⟩))
      go_ret2
      exact ⟨by first | rfl | exact ret_ib e.symm e2.symm, by go_grown⟩
    · cases hC : goodB cx cy
      · have e : sideN ax ay bx b_y cx cy = 0 := by simp [sideN, sideOk, hA, hB, hC]
        have e2 : sideOk ax ay bx b_y cx cy = false := by simp [sideOk, hA, hB, hC]
        go_enter Tryd.func7, Tryd.ntmps7
        go_wp2_with (first | (go_at_call 9; refine (goodImpl_c _ _ _ ?_).mono ?_; exact cell_later (by go_grown : Below w.heap.size w _) c0; rintro e w' ⟨rfl, rfl⟩) | (go_at_call 30; refine (signImpl_c _ _).mono ?_; rintro e w' ⟨rfl, rfl⟩))
        go_ret2
        exact ⟨by first | rfl | exact ret_ib e.symm e2.symm, by go_grown⟩
      · have e : sideN ax ay bx b_y cx cy = sg (crossW ax ay bx b_y cx cy) := by simp [sideN, sideOk, hA, hB, hC]
        have e2 : sideOk ax ay bx b_y cx cy = true := by simp [sideOk, hA, hB, hC]
        go_enter Tryd.func7, Tryd.ntmps7
        go_wp2_with (first | (go_at_call 9; refine (goodImpl_c _ _ _ ?_).mono ?_; exact cell_later (by go_grown : Below w.heap.size w _) c0; rintro e w' ⟨rfl, rfl⟩) | (go_at_call 30; refine (signImpl_c _ _).mono ?_; rintro e w' ⟨rfl, rfl⟩))
        go_ret2
        exact ⟨by first | rfl | exact ret_ib e.symm e2.symm, by go_grown⟩

/-- Whether both numbers are within MaxXY. -/
def dotW (ax ay bx b_y cx cy : Int) : Int := wrap64 (wrap64 (ax * wrap64 (cx - bx)) + wrap64 (ay * wrap64 (cy - b_y)))
set_option maxHeartbeats 2000000 in
set_option maxHeartbeats 2000000 in
theorem dot_c (ax ay bx b_y cx cy : Int) (w : World) : Calls Tryd.prog 41 #[.agg #[.int .i64 ax, .int .i64 ay], .agg #[.int .i64 bx, .int .i64 b_y], .agg #[.int .i64 cx, .int .i64 cy]] w fun e w' => e = .returned (.int .i64 (dotW ax ay bx b_y cx cy)) ∧ Below w.heap.size w w' := by
  go_enter Tryd.func41, Tryd.ntmps41
  go_wp2
  go_ret
  exact ⟨rfl, by go_grown⟩
def dotOk (ax ay bx b_y cx cy : Int) : Bool := goodB ax ay && goodB bx b_y && goodB cx cy
def dotN (ax ay bx b_y cx cy : Int) : Int := if dotOk ax ay bx b_y cx cy then sg (dotW ax ay bx b_y cx cy) else 0
set_option maxHeartbeats 2000000 in
theorem dotSpec_c (ax ay bx b_y cx cy : Int) (w : World) : Calls Tryd.prog 16 #[.agg #[.int .i64 ax, .int .i64 ay], .agg #[.int .i64 bx, .int .i64 b_y], .agg #[.int .i64 cx, .int .i64 cy]] w fun e w' => e = .returned (.tuple #[.int .i64 (dotN ax ay bx b_y cx cy), .bool (dotOk ax ay bx b_y cx cy)]) ∧ Below w.heap.size w w' := by
  cases hA : goodB ax ay
  · have e : dotN ax ay bx b_y cx cy = 0 := by simp [dotN, dotOk, hA]
    have e2 : dotOk ax ay bx b_y cx cy = false := by simp [dotOk, hA]
    go_enter Tryd.func16, Tryd.ntmps16
    go_wp2_with (first | (go_at_call 31; refine (goodSpec_c _ _ _).mono ?_; rintro e w' ⟨rfl, rfl⟩) | (go_at_call 41; refine (dot_c _ _ _ _ _ _ _).mono ?_; rintro e w' ⟨rfl, hb⟩) | (go_at_call 40; refine (signSpec_c _ _).mono ?_; rintro e w' ⟨rfl, rfl⟩))
    go_ret2
    exact ⟨by first | rfl | exact ret_ib e.symm e2.symm, by first | (go_grown; done) | exact (by go_grown : Below w.heap.size w _).trans (hb.mono (by go_size))⟩
  · cases hB : goodB bx b_y
    · have e : dotN ax ay bx b_y cx cy = 0 := by simp [dotN, dotOk, hA, hB]
      have e2 : dotOk ax ay bx b_y cx cy = false := by simp [dotOk, hA, hB]
      go_enter Tryd.func16, Tryd.ntmps16
      go_wp2_with (first | (go_at_call 31; refine (goodSpec_c _ _ _).mono ?_; rintro e w' ⟨rfl, rfl⟩) | (go_at_call 41; refine (dot_c _ _ _ _ _ _ _).mono ?_; rintro e w' ⟨rfl, hb⟩) | (go_at_call 40; refine (signSpec_c _ _).mono ?_; rintro e w' ⟨rfl, rfl⟩))
      go_ret2
      exact ⟨by first | rfl | exact ret_ib e.symm e2.symm, by first | (go_grown; done) | exact (by go_grown : Below w.heap.size w _).trans (hb.mono (by go_size))⟩
    · cases hC : goodB cx cy
      · have e : dotN ax ay bx b_y cx cy = 0 := by simp [dotN, dotOk, hA, hB, hC]
        have e2 : dotOk ax ay bx b_y cx cy = false := by simp [dotOk, hA, hB, hC]
        go_enter Tryd.func16, Tryd.ntmps16
        go_wp2_with (first | (go_at_call 31; refine (goodSpec_c _ _ _).mono ?_; rintro e w' ⟨rfl, rfl⟩) | (go_at_call 41; refine (dot_c _ _ _ _ _ _ _).mono ?_; rintro e w' ⟨rfl, hb⟩) | (go_at_call 40; refine (signSpec_c _ _).mono ?_; rintro e w' ⟨rfl, rfl⟩))
        go_ret2
        exact ⟨by first | rfl | exact ret_ib e.symm e2.symm, by first | (go_grown; done) | exact (by go_grown : Below w.heap.size w _).trans (hb.mono (by go_size))⟩
      · have e : dotN ax ay bx b_y cx cy = sg (dotW ax ay bx b_y cx cy) := by simp [dotN, dotOk, hA, hB, hC]
        have e2 : dotOk ax ay bx b_y cx cy = true := by simp [dotOk, hA, hB, hC]
        go_enter Tryd.func16, Tryd.ntmps16
        go_wp2_with (first | (go_at_call 31; refine (goodSpec_c _ _ _).mono ?_; rintro e w' ⟨rfl, rfl⟩) | (go_at_call 41; refine (dot_c _ _ _ _ _ _ _).mono ?_; rintro e w' ⟨rfl, hb⟩) | (go_at_call 40; refine (signSpec_c _ _).mono ?_; rintro e w' ⟨rfl, rfl⟩))
        go_ret2
        exact ⟨by first | rfl | exact ret_ib e.symm e2.symm, by first | (go_grown; done) | exact (by go_grown : Below w.heap.size w _).trans (hb.mono (by go_size))⟩

set_option maxHeartbeats 2000000 in
theorem dotImpl_c (ax ay bx b_y cx cy : Int) (w : World) (c0 : w.cell? ⟨0, 0, none⟩ = some (.int .i64 1000000)) : Calls Tryd.prog 15 #[.agg #[.int .i64 ax, .int .i64 ay], .agg #[.int .i64 bx, .int .i64 b_y], .agg #[.int .i64 cx, .int .i64 cy]] w fun e w' => e = .returned (.tuple #[.int .i64 (dotN ax ay bx b_y cx cy), .bool (dotOk ax ay bx b_y cx cy)]) ∧ Below w.heap.size w w' := by
  have hz : 0 < w.heap.size := World.block_lt_of_cell? w _ c0
  cases hA : goodB ax ay
  · have e : dotN ax ay bx b_y cx cy = 0 := by simp [dotN, dotOk, hA]
    have e2 : dotOk ax ay bx b_y cx cy = false := by simp [dotOk, hA]
    go_enter Tryd.func15, Tryd.ntmps15
    go_wp2_with (first | (go_at_call 9; refine (goodImpl_c _ _ _ ?_).mono ?_; exact cell_later (by go_grown : Below w.heap.size w _) c0; rintro e w' ⟨rfl, rfl⟩) | (go_at_call 30; refine (signImpl_c _ _).mono ?_; rintro e w' ⟨rfl, rfl⟩))
    go_ret2
    exact ⟨by first | rfl | exact ret_ib e.symm e2.symm, by go_grown⟩
  · cases hB : goodB bx b_y
    · have e : dotN ax ay bx b_y cx cy = 0 := by simp [dotN, dotOk, hA, hB]
      have e2 : dotOk ax ay bx b_y cx cy = false := by simp [dotOk, hA, hB]
      go_enter Tryd.func15, Tryd.ntmps15
      go_wp2_with (first | (go_at_call 9; refine (goodImpl_c _ _ _ ?_).mono ?_; exact cell_later (by go_grown : Below w.heap.size w _) c0; rintro e w' ⟨rfl, rfl⟩) | (go_at_call 30; refine (signImpl_c _ _).mono ?_; rintro e w' ⟨rfl, rfl⟩))
      go_ret2
      exact ⟨by first | rfl | exact ret_ib e.symm e2.symm, by go_grown⟩
    · cases hC : goodB cx cy
      · have e : dotN ax ay bx b_y cx cy = 0 := by simp [dotN, dotOk, hA, hB, hC]
        have e2 : dotOk ax ay bx b_y cx cy = false := by simp [dotOk, hA, hB, hC]
        go_enter Tryd.func15, Tryd.ntmps15
        go_wp2_with (first | (go_at_call 9; refine (goodImpl_c _ _ _ ?_).mono ?_; exact cell_later (by go_grown : Below w.heap.size w _) c0; rintro e w' ⟨rfl, rfl⟩) | (go_at_call 30; refine (signImpl_c _ _).mono ?_; rintro e w' ⟨rfl, rfl⟩))
        go_ret2
        exact ⟨by first | rfl | exact ret_ib e.symm e2.symm, by go_grown⟩
      · have e : dotN ax ay bx b_y cx cy = sg (dotW ax ay bx b_y cx cy) := by simp [dotN, dotOk, hA, hB, hC]
        have e2 : dotOk ax ay bx b_y cx cy = true := by simp [dotOk, hA, hB, hC]
        go_enter Tryd.func15, Tryd.ntmps15
        go_wp2_with (first | (go_at_call 9; refine (goodImpl_c _ _ _ ?_).mono ?_; exact cell_later (by go_grown : Below w.heap.size w _) c0; rintro e w' ⟨rfl, rfl⟩) | (go_at_call 30; refine (signImpl_c _ _).mono ?_; rintro e w' ⟨rfl, rfl⟩))
        go_ret2
        exact ⟨by first | rfl | exact ret_ib e.symm e2.symm, by go_grown⟩

/-- Whether a point comes first. -/
def lessB (x0 y0 x1 y1 : Int) : Bool := decide (x0 < x1 ∨ x0 = x1 ∧ y0 < y1)
theorem lessSpec_c (x0 y0 x1 y1 : Int) (w : World) :
    Calls Tryd.prog 19 #[.agg #[.int .i64 x0, .int .i64 y0], .agg #[.int .i64 x1, .int .i64 y1]] w fun e w' => e = .returned (.bool (lessB x0 y0 x1 y1)) ∧ Below w.heap.size w w' := by
  by_cases h1 : x0 < x1
  · have e : lessB x0 y0 x1 y1 = true := by simp [lessB]; omega
    go_enter Tryd.func19, Tryd.ntmps19
    go_wp2
    all_goals go_ret
    all_goals exact ⟨by first | rfl | (rw [e]; rfl), by go_grown⟩
  · by_cases h2 : x0 = x1
    · subst h2
      by_cases h4 : y0 < y1
      · have e : lessB x0 y0 x0 y1 = true := by simp [lessB]; omega
        go_enter Tryd.func19, Tryd.ntmps19
        go_wp2
        all_goals go_ret
        all_goals exact ⟨by first | rfl | (rw [e]; rfl), by go_grown⟩
      · have e : lessB x0 y0 x0 y1 = false := by simp [lessB]; omega
        go_enter Tryd.func19, Tryd.ntmps19
        go_wp2
        all_goals go_ret
        all_goals exact ⟨by first | rfl | (rw [e]; rfl), by go_grown⟩
    · have h3 : (x0 == x1) = false := by simpa using h2
      have e : lessB x0 y0 x1 y1 = false := by simp [lessB]; omega
      go_enter Tryd.func19, Tryd.ntmps19
      go_wp2
      all_goals go_ret
      all_goals exact ⟨by first | rfl | (rw [e]; rfl), by go_grown⟩
theorem lessImpl_c (x0 y0 x1 y1 : Int) (w : World) :
    Calls Tryd.prog 18 #[.agg #[.int .i64 x0, .int .i64 y0], .agg #[.int .i64 x1, .int .i64 y1]] w fun e w' => e = .returned (.bool (lessB x0 y0 x1 y1)) ∧ Below w.heap.size w w' := by
  by_cases h1 : x0 < x1
  · have e : lessB x0 y0 x1 y1 = true := by simp [lessB]; omega
    have h3 : (x0 == x1) = false := by simp; omega
    go_enter Tryd.func18, Tryd.ntmps18
    go_wp2
    all_goals go_ret
    all_goals exact ⟨by first | rfl | (rw [e]; rfl), by go_grown⟩
  · by_cases h2 : x0 = x1
    · subst h2
      by_cases h4 : y0 < y1
      · have e : lessB x0 y0 x0 y1 = true := by simp [lessB]; omega
        go_enter Tryd.func18, Tryd.ntmps18
        go_wp2
        all_goals go_ret
        all_goals exact ⟨by first | rfl | (rw [e]; rfl), by go_grown⟩
      · have e : lessB x0 y0 x0 y1 = false := by simp [lessB]; omega
        go_enter Tryd.func18, Tryd.ntmps18
        go_wp2
        all_goals go_ret
        all_goals exact ⟨by first | rfl | (rw [e]; rfl), by go_grown⟩
    · have h3 : (x0 == x1) = false := by simpa using h2
      have e : lessB x0 y0 x1 y1 = false := by simp [lessB]; omega
      go_enter Tryd.func18, Tryd.ntmps18
      go_wp2
      all_goals go_ret
      all_goals exact ⟨by first | rfl | (rw [e]; rfl), by go_grown⟩
theorem goodPointSpec_c (x y : Int) (w : World) : Calls Tryd.prog 10 #[.agg #[.int .i64 x, .int .i64 y]] w fun e w' => e = .returned (.bool (goodB x y)) ∧ Below w.heap.size w w' := by
  go_enter Tryd.func10, Tryd.ntmps10
  go_wp2_with (go_at_call 31; refine (goodSpec_c _ _ _).mono ?_; rintro e w' ⟨rfl, rfl⟩)
  go_ret
  exact ⟨rfl, by go_grown⟩
end Go.Proofs.YtgnlkjpnkbpbjaaDoor
