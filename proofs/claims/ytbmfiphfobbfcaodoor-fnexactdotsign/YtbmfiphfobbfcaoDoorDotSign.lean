/-
  For every three points, impl.DotSign tells what the specification's DotSign tells, returns, and leaves its arguments as they were.
  Conditions: the package-level table 'loop.example/g00780/impl.bounds' holds what the program's own text lays in it (the card ties it); none beyond it.
-/
import Derived.Test.YtbmfiphfobbfcaoDoorCards
import Derived.Test.YtbmfiphfobbfcaoDoorTie
import Derived.WalkKit
import Derived.ProofKit
import Derived.OpenShut
import Derived.Lib.SmallJoins
import Derived.Handy
import Derived.Deep.DeepHandedRow
import Derived.Lib.LaidTab
import Derived.WalkSmall
import Derived.WalkSpells
import Derived.Deep.RegionHeld3
namespace Go.Proofs.YtbmfiphfobbfcaoDoor.fnExactDotSign
open Go.ChangeShapes Go.WideShapes Go.ChangeAt Go.RowKit Go.Joins
set_option linter.unusedVariables false
theorem laidOut : laidOutB Tryd.prog = true := by kernel_rfl
theorem own : ownKnob Tryd.prog.godebug = none := by kernel_rfl
theorem cells23 : Tryd.prog.cellsOf 23 = 2 := by kernel_rfl
theorem gTab : Tryd.prog.globalNamed "loop.example/g00780/impl.bounds" = some 0 := by kernel_rfl
theorem gTabType : (Tryd.prog.globals[0]?).map (·.type) = some 48 := by kernel_rfl
theorem tabCells : Tryd.prog.cellsOf 48 = 3 := by kernel_rfl
theorem elemCells : Tryd.prog.cellsOf 3 = 1 := by kernel_rfl
theorem table {W : World} (h : laidMetH Tryd.prog Rows.fnExactDotSignRow.laid W) : Lib.TabIs Tryd.prog W "loop.example/g00780/impl.bounds" .i64 [1000000, 1099511627776, 4398046511104] :=
  Lib.tabIs_of_head (rest := []) gTab gTabType Tryd.underlying48 Tryd.underlying3 elemCells tabCells h
/-- Whether both numbers are within MaxXY. -/
def goodB (x y : Int) : Bool := decide (-1000000 ≤ x ∧ x ≤ 1000000 ∧ -1000000 ≤ y ∧ y ≤ 1000000)
def sg (n : Int) : Int := if n < 0 then -1 else if 0 < n then 1 else 0
def crossW (ax ay bx b_y cx cy : Int) : Int := wrap64 (wrap64 (ax * wrap64 (cx - bx)) + wrap64 (ay * wrap64 (cy - b_y)))
theorem ret_bool {a b : Bool} (h : a = b) : Ending.returned (.bool a) = .returned (.bool b) := by rw [h]
theorem ret_int {a b : Int} (h : a = b) : Ending.returned (.int .i64 a) = .returned (.int .i64 b) := by rw [h]
theorem toPoint_c (x y : Int) (w : World) :
    Calls Tryd.prog 8 #[.agg #[.int .i64 x, .int .i64 y]] w fun e w' => e = .returned (.agg #[.int .i64 x, .int .i64 y]) ∧ Below w.heap.size w w' := by
  go_enter Tryd.func8, Tryd.ntmps8
  go_wp2
  go_returns
  exact ⟨rfl, by go_grown⟩
theorem signImpl_c (n : Int) (w : World) : Calls Tryd.prog 20 #[.int .i64 n] w fun e w' => e = .returned (.int .i64 (sg n)) ∧ w = w' := by
  by_cases h1 : n < 0
  · have e : sg n = -1 := by unfold sg; rw [if_pos h1]
    go_enter Tryd.func20, Tryd.ntmps20
    go_wp2
    go_ret
    exact ⟨by first | rfl | (rw [e]; rfl), rfl⟩
  · by_cases h2 : 0 < n
    · have e : sg n = 1 := by unfold sg; rw [if_neg h1, if_pos h2]
      go_enter Tryd.func20, Tryd.ntmps20
      go_wp2
      go_ret
      exact ⟨by first | rfl | (rw [e]; rfl), rfl⟩
    · have e : sg n = 0 := by unfold sg; rw [if_neg h1, if_neg h2]
      go_enter Tryd.func20, Tryd.ntmps20
      go_wp2
      go_ret
      exact ⟨by first | rfl | (rw [e]; rfl), rfl⟩
theorem signSpec_c (n : Int) (w : World) : Calls Tryd.prog 21 #[.int .i64 n] w fun e w' => e = .returned (.int .i64 (sg n)) ∧ w = w' := by
  by_cases h1 : n < 0
  · have e : sg n = -1 := by unfold sg; rw [if_pos h1]
    go_enter Tryd.func21, Tryd.ntmps21
    go_wp2
    go_ret
    exact ⟨by first | rfl | (rw [e]; rfl), rfl⟩
  · by_cases h2 : 0 < n
    · have e : sg n = 1 := by unfold sg; rw [if_neg h1, if_pos h2]
      go_enter Tryd.func21, Tryd.ntmps21
      go_wp2
      go_ret
      exact ⟨by first | rfl | (rw [e]; rfl), rfl⟩
    · have e : sg n = 0 := by unfold sg; rw [if_neg h1, if_neg h2]
      go_enter Tryd.func21, Tryd.ntmps21
      go_wp2
      go_ret
      exact ⟨by first | rfl | (rw [e]; rfl), rfl⟩
set_option maxHeartbeats 2000000 in
theorem goodSpec_c (x y : Int) (w : World) : Calls Tryd.prog 17 #[.agg #[.int .i64 x, .int .i64 y]] w fun e w' => e = .returned (.bool (goodB x y)) ∧ w.alloc (.cells #[.int .i64 x, .int .i64 y] 25) = w' := by
  by_cases h1 : -1000000 ≤ x
  · by_cases h2 : x ≤ 1000000
    · by_cases h3 : -1000000 ≤ y
      · by_cases h4 : y ≤ 1000000
        · have e : goodB x y = true := decide_eq_true (by omega)
          go_enter Tryd.func17, Tryd.ntmps17
          go_wp2
          go_ret
          exact ⟨by first | rfl | (rw [e]; rfl), rfl⟩
        · have e : goodB x y = false := decide_eq_false (by omega)
          go_enter Tryd.func17, Tryd.ntmps17
          go_wp2
          go_ret
          exact ⟨by first | rfl | (rw [e]; rfl), rfl⟩
      · have e : goodB x y = false := decide_eq_false (by omega)
        go_enter Tryd.func17, Tryd.ntmps17
        go_wp2
        go_ret
        exact ⟨by first | rfl | (rw [e]; rfl), rfl⟩
    · have e : goodB x y = false := decide_eq_false (by omega)
      go_enter Tryd.func17, Tryd.ntmps17
      go_wp2
      go_ret
      exact ⟨by first | rfl | (rw [e]; rfl), rfl⟩
  · have e : goodB x y = false := decide_eq_false (by omega)
    go_enter Tryd.func17, Tryd.ntmps17
    go_wp2
    go_ret
    exact ⟨by first | rfl | (rw [e]; rfl), rfl⟩
set_option maxHeartbeats 2000000 in
theorem goodImpl_c (x y : Int) (w : World) (c0 : w.cell? ⟨0, 0, none⟩ = some (.int .i64 1000000)) : Calls Tryd.prog 9 #[.agg #[.int .i64 x, .int .i64 y]] w fun e w' => e = .returned (.bool (goodB x y)) ∧ (w.alloc (.cells #[.int .i64 x, .int .i64 y] 25)).alloc (.cells #[.int .i64 x, .int .i64 y] 25) = w' := by
  have hz : 0 < w.heap.size := World.block_lt_of_cell? w _ c0
  by_cases h1 : -1000000 ≤ x
  · by_cases h2 : x ≤ 1000000
    · by_cases h3 : -1000000 ≤ y
      · by_cases h4 : y ≤ 1000000
        · have e : goodB x y = true := decide_eq_true (by omega)
          go_enter Tryd.func9, Tryd.ntmps9
          go_wp2
          go_ret
          exact ⟨by first | rfl | (rw [e]; rfl), rfl⟩
        · have e : goodB x y = false := decide_eq_false (by omega)
          go_enter Tryd.func9, Tryd.ntmps9
          go_wp2
          go_ret
          exact ⟨by first | rfl | (rw [e]; rfl), rfl⟩
      · have e : goodB x y = false := decide_eq_false (by omega)
        go_enter Tryd.func9, Tryd.ntmps9
        go_wp2
        go_ret
        exact ⟨by first | rfl | (rw [e]; rfl), rfl⟩
    · have e : goodB x y = false := decide_eq_false (by omega)
      go_enter Tryd.func9, Tryd.ntmps9
      go_wp2
      go_ret
      exact ⟨by first | rfl | (rw [e]; rfl), rfl⟩
  · have e : goodB x y = false := decide_eq_false (by omega)
    go_enter Tryd.func9, Tryd.ntmps9
    go_wp2
    go_ret
    exact ⟨by first | rfl | (rw [e]; rfl), rfl⟩
theorem cross_c (ax ay bx b_y cx cy : Int) (w : World) : Calls Tryd.prog 22 #[.agg #[.int .i64 ax, .int .i64 ay], .agg #[.int .i64 bx, .int .i64 b_y], .agg #[.int .i64 cx, .int .i64 cy]] w fun e w' => e = .returned (.int .i64 (crossW ax ay bx b_y cx cy)) ∧ Below w.heap.size w w' := by
  go_enter Tryd.func22, Tryd.ntmps22
  go_wp2
  go_ret
  exact ⟨rfl, by go_grown⟩
def sideOk (ax ay bx b_y cx cy : Int) : Bool := goodB ax ay && goodB bx b_y && goodB cx cy
def sideN (ax ay bx b_y cx cy : Int) : Int := if sideOk ax ay bx b_y cx cy then sg (crossW ax ay bx b_y cx cy) else 0
theorem ret_ib {a b : Int} {c d : Bool} (h : a = b) (k : c = d) : Ending.returned (.tuple #[.int .i64 a, .bool c]) = .returned (.tuple #[.int .i64 b, .bool d]) := by rw [h, k]
set_option maxHeartbeats 2000000 in
theorem sideOfSpec_c (ax ay bx b_y cx cy : Int) (w : World) : Calls Tryd.prog 12 #[.agg #[.int .i64 ax, .int .i64 ay], .agg #[.int .i64 bx, .int .i64 b_y], .agg #[.int .i64 cx, .int .i64 cy]] w fun e w' => e = .returned (.tuple #[.int .i64 (sideN ax ay bx b_y cx cy), .bool (sideOk ax ay bx b_y cx cy)]) ∧ Below w.heap.size w w' := by
  cases hA : goodB ax ay
  · have e : sideN ax ay bx b_y cx cy = 0 := by simp [sideN, sideOk, hA]
    have e2 : sideOk ax ay bx b_y cx cy = false := by simp [sideOk, hA]
    go_enter Tryd.func12, Tryd.ntmps12
    go_wp2_with (first | (go_at_call 17; refine (goodSpec_c _ _ _).mono ?_; rintro e w' ⟨rfl, rfl⟩) | (go_at_call 22; refine (cross_c _ _ _ _ _ _ _).mono ?_; rintro e w' ⟨rfl, hb⟩) | (go_at_call 21; refine (signSpec_c _ _).mono ?_; rintro e w' ⟨rfl, rfl⟩))
    go_ret2
    exact ⟨by first | rfl | exact ret_ib e.symm e2.symm, by first | (go_grown; done) | exact (by go_grown : Below w.heap.size w _).trans (hb.mono (by go_size))⟩
  · cases hB : goodB bx b_y
    · have e : sideN ax ay bx b_y cx cy = 0 := by simp [sideN, sideOk, hA, hB]
      have e2 : sideOk ax ay bx b_y cx cy = false := by simp [sideOk, hA, hB]
      go_enter Tryd.func12, Tryd.ntmps12
      go_wp2_with (first | (go_at_call 17; refine (goodSpec_c _ _ _).mono ?_; rintro e w' ⟨rfl, rfl⟩) | (go_at_call 22; refine (cross_c _ _ _ _ _ _ _).mono ?_; rintro e w' ⟨rfl, hb⟩) | (go_at_call 21; refine (signSpec_c _ _).mono ?_; rintro e w' ⟨rfl, rfl⟩))
      go_ret2
      exact ⟨by first | rfl | exact ret_ib e.symm e2.symm, by first | (go_grown; done) | exact (by go_grown : Below w.heap.size w _).trans (hb.mono (by go_size))⟩
    · cases hC : goodB cx cy
      · have e : sideN ax ay bx b_y cx cy = 0 := by simp [sideN, sideOk, hA, hB, hC]
        have e2 : sideOk ax ay bx b_y cx cy = false := by simp [sideOk, hA, hB, hC]
        go_enter Tryd.func12, Tryd.ntmps12
        go_wp2_with (first | (go_at_call 17; refine (goodSpec_c _ _ _).mono ?_; rintro e w' ⟨rfl, rfl⟩) | (go_at_call 22; refine (cross_c _ _ _ _ _ _ _).mono ?_; rintro e w' ⟨rfl, hb⟩) | (go_at_call 21; refine (signSpec_c _ _).mono ?_; rintro e w' ⟨rfl, rfl⟩))
        go_ret2
        exact ⟨by first | rfl | exact ret_ib e.symm e2.symm, by first | (go_grown; done) | exact (by go_grown : Below w.heap.size w _).trans (hb.mono (by go_size))⟩
      · have e : sideN ax ay bx b_y cx cy = sg (crossW ax ay bx b_y cx cy) := by simp [sideN, sideOk, hA, hB, hC]
        have e2 : sideOk ax ay bx b_y cx cy = true := by simp [sideOk, hA, hB, hC]
        go_enter Tryd.func12, Tryd.ntmps12
        go_wp2_with (first | (go_at_call 17; refine (goodSpec_c _ _ _).mono ?_; rintro e w' ⟨rfl, rfl⟩) | (go_at_call 22; refine (cross_c _ _ _ _ _ _ _).mono ?_; rintro e w' ⟨rfl, hb⟩) | (go_at_call 21; refine (signSpec_c _ _).mono ?_; rintro e w' ⟨rfl, rfl⟩))
        go_ret2
        exact ⟨by first | rfl | exact ret_ib e.symm e2.symm, by first | (go_grown; done) | exact (by go_grown : Below w.heap.size w _).trans (hb.mono (by go_size))⟩

set_option maxHeartbeats 2000000 in
theorem sideOfImpl_c (ax ay bx b_y cx cy : Int) (w : World) (c0 : w.cell? ⟨0, 0, none⟩ = some (.int .i64 1000000)) : Calls Tryd.prog 13 #[.agg #[.int .i64 ax, .int .i64 ay], .agg #[.int .i64 bx, .int .i64 b_y], .agg #[.int .i64 cx, .int .i64 cy]] w fun e w' => e = .returned (.tuple #[.int .i64 (sideN ax ay bx b_y cx cy), .bool (sideOk ax ay bx b_y cx cy)]) ∧ Below w.heap.size w w' := by
  have hz : 0 < w.heap.size := World.block_lt_of_cell? w _ c0
  cases hA : goodB ax ay
  · have e : sideN ax ay bx b_y cx cy = 0 := by simp [sideN, sideOk, hA]
    have e2 : sideOk ax ay bx b_y cx cy = false := by simp [sideOk, hA]
    go_enter Tryd.func13, Tryd.ntmps13
    go_wp2_with (first | (go_at_call 9; refine (goodImpl_c _ _ _ ?_).mono ?_; exact cell_later (by go_grown : Below w.heap.size w _) c0; rintro e w' ⟨rfl, rfl⟩) | (go_at_call 20; refine (signImpl_c _ _).mono ?_; rintro e w' ⟨rfl, rfl⟩))
    go_ret2
    exact ⟨by first | rfl | exact ret_ib e.symm e2.symm, by go_grown⟩
  · cases hB : goodB bx b_y
    · have e : sideN ax ay bx b_y cx cy = 0 := by simp [sideN, sideOk, hA, hB]
      have e2 : sideOk ax ay bx b_y cx cy = false := by simp [sideOk, hA, hB]
      go_enter Tryd.func13, Tryd.ntmps13
      go_wp2_with (first | (go_at_call 9; refine (goodImpl_c _ _ _ ?_).mono ?_; exact cell_later (by go_grown : Below w.heap.size w _) c0; rintro e w' ⟨rfl, rfl⟩) | (go_at_call 20; refine (signImpl_c _ _).mono ?_; rintro e w' ⟨rfl, rfl⟩))
      go_ret2
      exact ⟨by first | rfl | exact ret_ib e.symm e2.symm, by go_grown⟩
    · cases hC : goodB cx cy
      · have e : sideN ax ay bx b_y cx cy = 0 := by simp [sideN, sideOk, hA, hB, hC]
        have e2 : sideOk ax ay bx b_y cx cy = false := by simp [sideOk, hA, hB, hC]
        go_enter Tryd.func13, Tryd.ntmps13
        go_wp2_with (first | (go_at_call 9; refine (goodImpl_c _ _ _ ?_).mono ?_; exact cell_later (by go_grown : Below w.heap.size w _) c0; rintro e w' ⟨rfl, rfl⟩) | (go_at_call 20; refine (signImpl_c _ _).mono ?_; rintro e w' ⟨rfl, rfl⟩))
        go_ret2
        exact ⟨by first | rfl | exact ret_ib e.symm e2.symm, by go_grown⟩
      · have e : sideN ax ay bx b_y cx cy = sg (crossW ax ay bx b_y cx cy) := by simp [sideN, sideOk, hA, hB, hC]
        have e2 : sideOk ax ay bx b_y cx cy = true := by simp [sideOk, hA, hB, hC]
        go_enter Tryd.func13, Tryd.ntmps13
        go_wp2_with (first | (go_at_call 9; refine (goodImpl_c _ _ _ ?_).mono ?_; exact cell_later (by go_grown : Below w.heap.size w _) c0; rintro e w' ⟨rfl, rfl⟩) | (go_at_call 20; refine (signImpl_c _ _).mono ?_; rintro e w' ⟨rfl, rfl⟩))
        go_ret2
        exact ⟨by first | rfl | exact ret_ib e.symm e2.symm, by go_grown⟩

theorem fin6 {w W : World} {a0 a1 a2 a3 a4 a5 : Addr} {v0 v1 v2 v3 v4 v5 : Value} {n : Nat}
    (h : W.cell? a0 = some v0 ∧ W.cell? a1 = some v1 ∧ W.cell? a2 = some v2 ∧ W.cell? a3 = some v3 ∧ W.cell? a4 = some v4 ∧ W.cell? a5 = some v5 ∧ n ≤ W.heap.size ∧ Below w.heap.size w W) : Below w.heap.size w W := h.2.2.2.2.2.2.2
theorem keep6 {w W W' : World} {a0 a1 a2 a3 a4 a5 : Addr} {v0 v1 v2 v3 v4 v5 : Value} {n : Nat} (hb : Below W.heap.size W W')
    (h : W.cell? a0 = some v0 ∧ W.cell? a1 = some v1 ∧ W.cell? a2 = some v2 ∧ W.cell? a3 = some v3 ∧ W.cell? a4 = some v4 ∧ W.cell? a5 = some v5 ∧ n ≤ W.heap.size ∧ Below w.heap.size w W) :
    W'.cell? a0 = some v0 ∧ W'.cell? a1 = some v1 ∧ W'.cell? a2 = some v2 ∧ W'.cell? a3 = some v3 ∧ W'.cell? a4 = some v4 ∧ W'.cell? a5 = some v5 ∧ n ≤ W'.heap.size ∧ Below w.heap.size w W' :=
  ⟨cell_later hb h.1, cell_later hb h.2.1, cell_later hb h.2.2.1, cell_later hb h.2.2.2.1, cell_later hb h.2.2.2.2.1, cell_later hb h.2.2.2.2.2.1, Nat.le_trans h.2.2.2.2.2.2.1 hb.size, h.2.2.2.2.2.2.2.trans (hb.mono h.2.2.2.2.2.2.2.size)⟩
set_option maxHeartbeats 2000000 in
theorem walk (x0 y0 x1 y1 x2 y2 : Int) (wx0 : (Lit.int .i64 x0).wf = true) (wy0 : (Lit.int .i64 y0).wf = true) (wx1 : (Lit.int .i64 x1).wf = true) (wy1 : (Lit.int .i64 y1).wf = true) (wx2 : (Lit.int .i64 x2).wf = true) (wy2 : (Lit.int .i64 y2).wf = true) (w : World) (c0 : w.cell? ⟨0, 0, none⟩ = some (.int .i64 1000000)) (c1 : w.cell? ⟨0, 1, none⟩ = some (.int .i64 1099511627776)) (c2 : w.cell? ⟨0, 2, none⟩ = some (.int .i64 4398046511104)) :
    Calls Tryd.prog 5 #[.agg #[.int .i64 x0, .int .i64 y0], .agg #[.int .i64 x1, .int .i64 y1], .agg #[.int .i64 x2, .int .i64 y2]] w fun e w' => e = .returned (.bool true) ∧ Below w.heap.size w w' := by
  clear wx0 wy0 wx1 wy1 wx2 wy2 c1 c2
  have C0 : Hid (w.cell? ⟨0, 0, none⟩ = some (.int .i64 1000000)) := c0
  clear c0
  go_enter Tryd.func5, Tryd.ntmps5
  go_wp2_with fail
  go_region_held3 (fun w' => w'.cell? ⟨w.heap.size, 0, none⟩ = some (.int .i64 x0) ∧ w'.cell? ⟨w.heap.size, 1, none⟩ = some (.int .i64 y0) ∧ w'.cell? ⟨w.heap.size + 1, 0, none⟩ = some (.int .i64 x1) ∧ w'.cell? ⟨w.heap.size + 1, 1, none⟩ = some (.int .i64 y1) ∧ w'.cell? ⟨w.heap.size + 1 + 1, 0, none⟩ = some (.int .i64 x2) ∧ w'.cell? ⟨w.heap.size + 1 + 1, 1, none⟩ = some (.int .i64 y2) ∧ w.heap.size + 3 ≤ w'.heap.size ∧ Below w.heap.size w w') ((first | exact keep6 (by assumption) (by assumption) | exact ⟨by go_simp, by go_simp, by go_simp, by go_simp, by go_simp, by go_simp, by go_size, by go_grown⟩))
    (first | (go_at_call 8; refine (toPoint_c _ _ _).mono ?_; rintro e w' ⟨rfl, hb⟩) | (go_at_call 12; refine (sideOfSpec_c _ _ _ _ _ _ _).mono ?_; rintro e w' ⟨rfl, hb⟩))
  go_wp2_with fail
  go_region_held3 (fun w' => w'.cell? ⟨w.heap.size, 0, none⟩ = some (.int .i64 x0) ∧ w'.cell? ⟨w.heap.size, 1, none⟩ = some (.int .i64 y0) ∧ w'.cell? ⟨w.heap.size + 1, 0, none⟩ = some (.int .i64 x1) ∧ w'.cell? ⟨w.heap.size + 1, 1, none⟩ = some (.int .i64 y1) ∧ w'.cell? ⟨w.heap.size + 1 + 1, 0, none⟩ = some (.int .i64 x2) ∧ w'.cell? ⟨w.heap.size + 1 + 1, 1, none⟩ = some (.int .i64 y2) ∧ w.heap.size + 3 ≤ w'.heap.size ∧ Below w.heap.size w w') ((first | exact keep6 (by assumption) (by assumption) | exact keep6 (Below.refl _ _).drew (by assumption)))
    (first | (go_at_call 8; refine (toPoint_c _ _ _).mono ?_; rintro e w' ⟨rfl, hb⟩) | (go_at_call 13; refine (sideOfImpl_c _ _ _ _ _ _ _ ?_).mono ?_; exact cell_later (fin6 (by assumption)) C0.out; rintro e w' ⟨rfl, hb⟩))
  go_wp2
  go_ret
  exact ⟨rfl, fin6 (by assumption)⟩

theorem contract (H : Type) (enc : TypeId × Value → H) (W : World) (base : Nat) (args : Array Value) (ds gs : List (DataW H)) (before : List MemPlace)
    (hval0 : ∀ (j : Nat) t v, Tryd.f5.params[j]? = some t → args[j]? = some v → Value.okWide Tryd.prog W .any base t v)
    (hW : DataW.Whole enc Tryd.prog Tryd.f5.params.toList Rows.fnExactDotSignSpec.vars false W args.toList ds gs before) (hL : laidMetH Tryd.prog Rows.fnExactDotSignRow.laid W) :
    Calls Tryd.prog 5 args W fun e W' => ∃ v, e = .returned v ∧ Rows.fnExactDotSignSpec.post enc Tryd.prog Tryd.f5 false true false false W args v W' := by
  have hval : ∀ (j : Nat) t v, Tryd.f5.params[j]? = some t → args[j]? = some v → Value.okWide Tryd.prog W .any base t v := hval0
  have hW' := hW
  obtain ⟨p, q, hA0, hV, rfl, hfz, hnd⟩ := hW
  have hA : DataW.TrodAll enc Tryd.prog W 0 (fun _ => true) true Tryd.f5.params.toList args.toList ds p := hA0
  rw [Tryd.params5] at hA hval
  obtain ⟨v0, vs0, d0, ds0, p0, q0, hargs, rfl, rfl, h0, r0⟩ := trodAll_cons hA
  obtain ⟨v1, vs1, d1, ds1, p1, q1, rfl, rfl, rfl, h1, r1⟩ := trodAll_cons r0
  obtain ⟨v2, vs2, d2, ds2, p2, q2, rfl, rfl, rfl, h2, r2⟩ := trodAll_cons r1
  obtain ⟨rfl, rfl, rfl⟩ := trodAll_nil r2
  obtain rfl : args = #[v0, v1, v2] := by cases args; simp_all
  obtain ⟨g, t, cs, fuel, dV, pV, rfl, hgv, htv, hvar, hdV, rfl⟩ := trodVars_one hV
  obtain rfl := Option.some.inj (gTab.symm.trans hgv)
  obtain rfl := Option.some.inj (gTabType.symm.trans htv)
  obtain ⟨c0, c1, z0, z1, m, rfl, rfl, rfl, hz0, hz1⟩ := open_agg2 Tryd.underlying23 (by kernel_rfl) cells23 (hval 0 23 v0 rfl rfl) h0
  obtain ⟨x0, e0, rfl, wx0⟩ := DataW.trod_int Tryd.underlying3 hz0
  obtain ⟨y0, e1, rfl, wy0⟩ := DataW.trod_int Tryd.underlying3 hz1
  simp at e0 e1
  subst e0 e1
  obtain ⟨c0, c1, z0, z1, m, rfl, rfl, rfl, hz0, hz1⟩ := open_agg2 Tryd.underlying23 (by kernel_rfl) cells23 (hval 1 23 v1 rfl rfl) h1
  obtain ⟨x1, e0, rfl, wx1⟩ := DataW.trod_int Tryd.underlying3 hz0
  obtain ⟨y1, e1, rfl, wy1⟩ := DataW.trod_int Tryd.underlying3 hz1
  simp at e0 e1
  subst e0 e1
  obtain ⟨c0, c1, z0, z1, m, rfl, rfl, rfl, hz0, hz1⟩ := open_agg2 Tryd.underlying23 (by kernel_rfl) cells23 (hval 2 23 v2 rfl rfl) h2
  obtain ⟨x2, e0, rfl, wx2⟩ := DataW.trod_int Tryd.underlying3 hz0
  obtain ⟨y2, e1, rfl, wy2⟩ := DataW.trod_int Tryd.underlying3 hz1
  simp at e0 e1
  subst e0 e1
  clear hA0 hval0
  simp only [List.append_nil, List.nil_append] at hW'
  have c0 : W.cell? ⟨0, 0, none⟩ = some (.int .i64 1000000) := (table hL).cell gTab 0 (by decide)
  have c1 : W.cell? ⟨0, 1, none⟩ = some (.int .i64 1099511627776) := (table hL).cell gTab 1 (by decide)
  have c2 : W.cell? ⟨0, 2, none⟩ = some (.int .i64 4398046511104) := (table hL).cell gTab 2 (by decide)
  refine (walk x0 y0 x1 y1 x2 y2 wx0 wy0 wx1 wy1 wx2 wy2 W c0 c1 c2).mono fun e W' ⟨he, hg⟩ => ?_
  subst he
  have hltv : ∀ x ∈ pV, x.block < W.heap.size := fun x hx => hW'.lt x (List.mem_append_right _ hx)
  obtain ⟨fuel', hd'⟩ := Below.trod laidOut (by kernel_rfl) (of_decide_eq_true (by kernel_rfl)) (v := .agg cs) (⟨fuel, by simpa [Value.cells] using hdV⟩ : DataW.Trod enc Tryd.prog W 0 (fun _ => true) true 48 (.agg cs) dV pV) hg hltv
  have hv' := trodVars_mk1 (enc := enc) (spare := fun b => decide (b < W.heap.size)) gTab gTabType (var?_below hg gTab (World.block_lt_of_cell? W _ c0) hvar) (by simpa [Value.cells] using hd')
  exact ⟨_, rfl, _, _, _, [], [], (MemPlace.row ⟨0, 0, none⟩ cs.size ++ pV), hW', trodAll_mk1 (shut_bool Tryd.underlying4 _), (trodAll_cons_mk (shut_agg2 (y0 := (.lit (.int .i64 x0), [])) (y1 := (.lit (.int .i64 y0), [])) Tryd.underlying23 (by kernel_rfl) cells23 ⟨1, by simp [DataW.trod, Tryd.underlying3, wx0]⟩ ⟨1, by simp [DataW.trod, Tryd.underlying3, wy0]⟩) (trodAll_cons_mk (shut_agg2 (y0 := (.lit (.int .i64 x1), [])) (y1 := (.lit (.int .i64 y1), [])) Tryd.underlying23 (by kernel_rfl) cells23 ⟨1, by simp [DataW.trod, Tryd.underlying3, wx1]⟩ ⟨1, by simp [DataW.trod, Tryd.underlying3, wy1]⟩) (trodAll_cons_mk (shut_agg2 (y0 := (.lit (.int .i64 x2), [])) (y1 := (.lit (.int .i64 y2), [])) Tryd.underlying23 (by kernel_rfl) cells23 ⟨1, by simp [DataW.trod, Tryd.underlying3, wx2]⟩ ⟨1, by simp [DataW.trod, Tryd.underlying3, wy2]⟩) trodAll_mk0))), hv', hg.frame _, fun h => by cases h⟩
theorem laid_met (os : Os) : laidMet Tryd.prog Rows.fnExactDotSignRow.laid (({ World.holding Tryd.prog os ⟨#[], #[], []⟩ with heap := (World.holding Tryd.prog os ⟨#[], #[], []⟩).heap.setIfInBounds 0 (.cells #[.int .i64 1000000, .int .i64 1099511627776, .int .i64 4398046511104] 48) } : World).forCall (fun _ _ => 0) ⟨#[], #[.agg #[.int .i64 0, .int .i64 0], .agg #[.int .i64 0, .int .i64 0], .agg #[.int .i64 0, .int .i64 0]], []⟩).memory :=
  laidMet_of_run' 8 (by kernel_rfl) (by kernel_rfl)
theorem reads (os : Os) {H : Type} (enc : TypeId × Value → H) : ∃ places, DataW.whole enc Tryd.prog (({ World.holding Tryd.prog os ⟨#[], #[], []⟩ with heap := (World.holding Tryd.prog os ⟨#[], #[], []⟩).heap.setIfInBounds 0 (.cells #[.int .i64 1000000, .int .i64 1099511627776, .int .i64 4398046511104] 48) } : World).forCall (fun _ _ => 0) ⟨#[], #[.agg #[.int .i64 0, .int .i64 0], .agg #[.int .i64 0, .int .i64 0], .agg #[.int .i64 0, .int .i64 0]], []⟩).memory Tryd.f5.params.toList Rows.fnExactDotSignSpec.vars false (#[.agg #[.int .i64 0, .int .i64 0], .agg #[.int .i64 0, .int .i64 0], .agg #[.int .i64 0, .int .i64 0]] : Array Value).toList 8 = some ([.agg [.lit (.int .i64 0), .lit (.int .i64 0)], .agg [.lit (.int .i64 0), .lit (.int .i64 0)], .agg [.lit (.int .i64 0), .lit (.int .i64 0)]], [.agg [.lit (.int .i64 1000000), .lit (.int .i64 1099511627776), .lit (.int .i64 4398046511104)]], places) :=
  ⟨[.cell 0 0, .cell 0 1, .cell 0 2], by kernel_rfl⟩
set_option maxRecDepth 100000 in
theorem lifted (os : Os) (started : os.Started) (H : Type) (enc : TypeId × Value → H) (F : Stop.Interp) :
    ReturnsInHanded {} Tryd.checked os 5 .any ((OpenSpec.ofChange Rows.fnExactDotSignSpec).preRow enc Tryd.prog Tryd.f5 Rows.fnExactDotSignRow.domain false Rows.fnExactDotSignRow.laid) (((OpenSpec.ofChange Rows.fnExactDotSignSpec).at F).post enc Tryd.prog Tryd.f5 false true false false) := by
  obtain ⟨places, hx⟩ := reads os enc
  refine returnsInHanded_of_row (C := Tryd.checked) (s := OpenSpec.ofChange Rows.fnExactDotSignSpec) own started (by kernel_rfl) Tryd.func5
    (witness_row_at (enc := enc) (C := Tryd.checked) false ({ World.holding Tryd.prog os ⟨#[], #[], []⟩ with heap := (World.holding Tryd.prog os ⟨#[], #[], []⟩).heap.setIfInBounds 0 (.cells #[.int .i64 1000000, .int .i64 1099511627776, .int .i64 4398046511104] 48) } : World) #[.agg #[.int .i64 0, .int .i64 0], .agg #[.int .i64 0, .int .i64 0], .agg #[.int .i64 0, .int .i64 0]] rfl (by kernel_rfl) (by kernel_rfl) (by kernel_rfl)
      (OpenSpec.preRow_of_cond 8 hx (by kernel_rfl) (fun k hk => by cases hk) (by kernel_rfl) (laid_met os))) ?_
  intro W base args ds gs before hval hW _ _ _ hL _ _
  exact contract H enc W base args ds gs before hval hW hL
theorem said : Rows.FnExactDotSignSaid :=
  OpenClaim.holds_of_cond 5 Tryd.f5 rfl rfl rfl rfl rfl rfl rfl ⟨rfl, rfl, rfl, rfl, rfl⟩ rfl rfl rfl rfl rfl (by kernel_rfl) Tryd.func5 (by kernel_rfl)
    (of_decide_eq_true (by kernel_rfl)) (by unfold Func.isWrapper; first | (rw [if_pos (by decide +kernel)]; kernel_rfl) | (rw [if_neg (by decide +kernel)]; exact ⟨rfl, rfl⟩))
    (fun os started H enc _ F => by rw [OpenClaim.pre_eq_preRow]; exact lifted os started H enc F)
theorem plain (f : FuncId) (fn : Func) (hf : Tryd.pinned.checked.prog.funcNamed "loop.example/g00780/laws.FnExactDotSign" = some f) (hfn : Tryd.pinned.checked.prog.funcs[f]? = some fn) :
    false = Tryd.pinned.checked.prog.looks [] ∧ ∀ (j : Nat) t, fn.params[j]? = some t → Tryd.pinned.checked.prog.wantsStandIn t = false := by
  obtain rfl : f = 5 := Option.some.inj ((show Tryd.prog.funcNamed "loop.example/g00780/laws.FnExactDotSign" = some 5 by kernel_rfl).symm.trans hf) |>.symm
  obtain rfl : fn = Tryd.f5 := (Option.some.inj (Tryd.func5.symm.trans hfn)).symm
  refine ⟨by kernel_rfl, fun j t ht => ?_⟩
  rw [Tryd.params5] at ht
  have hm : t ∈ [23, 23, 23] := by simpa using Array.mem_of_getElem? ht
  have hall : ([23, 23, 23].all fun u => !Tryd.prog.wantsStandIn u) = true := by kernel_rfl
  exact (show Tryd.prog.wantsStandIn t = false by simpa using List.all_eq_true.1 hall t hm)
theorem card : Rows.FnExactDotSignCardSaid :=
  Claim7.holds_tied_plain_at .later [] _ _ _ _ said (fun _ h => by cases h) (by kernel_rfl) (fun _ h => by cases h) fnExactDotSign_row_tie rfl ⟨rfl, rfl⟩ (by kernel_rfl) rfl plain (by kernel_rfl)
end Go.Proofs.YtbmfiphfobbfcaoDoor.fnExactDotSign
namespace Go.Proofs.YtbmfiphfobbfcaoDoor
theorem fnExactDotSign_holds : Rows.FnExactDotSignCardSaid := fnExactDotSign.card
#print axioms fnExactDotSign_holds
end Go.Proofs.YtbmfiphfobbfcaoDoor
