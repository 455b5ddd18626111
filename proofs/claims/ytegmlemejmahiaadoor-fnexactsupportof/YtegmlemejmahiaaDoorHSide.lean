/-
  Sides and signs of points, in the specification and in the program (contracts for the walks).
  Conditions: as each theorem states them.
-/
import Derived.Test.YtegmlemejmahiaaDoorPts
import Derived.Test.YtegmlemejmahiaaDoorHMath
namespace Go.Proofs.YtegmlemejmahiaaDoor
open Go.RowKit
set_option linter.unusedVariables false
def sg (n : Int) : Int := if n < 0 then -1 else if 0 < n then 1 else 0
def crossW (ax ay bx b_y cx cy : Int) : Int := wrap64 (wrap64 (wrap64 (bx - ax) * wrap64 (cy - ay)) - wrap64 (wrap64 (b_y - ay) * wrap64 (cx - ax)))
theorem signImpl_c (n : Int) (w : World) : Calls Tryd.prog 96 #[.int .i64 n] w fun e w' => e = .returned (.int .i64 (sg n)) ∧ w = w' := by
  by_cases h1 : n < 0
  · have e : sg n = -1 := by unfold sg; rw [if_pos h1]
    go_enter Tryd.func96, Tryd.ntmps96
    go_wp2
    go_ret
    exact ⟨by first | rfl | (rw [e]; rfl), rfl⟩
  · by_cases h2 : 0 < n
    · have e : sg n = 1 := by unfold sg; rw [if_neg h1, if_pos h2]
      go_enter Tryd.func96, Tryd.ntmps96
      go_wp2
      go_ret
      exact ⟨by first | rfl | (rw [e]; rfl), rfl⟩
    · have e : sg n = 0 := by unfold sg; rw [if_neg h1, if_neg h2]
      go_enter Tryd.func96, Tryd.ntmps96
      go_wp2
      go_ret
      exact ⟨by first | rfl | (rw [e]; rfl), rfl⟩
theorem signSpec_c (n : Int) (w : World) : Calls Tryd.prog 100 #[.int .i64 n] w fun e w' => e = .returned (.int .i64 (sg n)) ∧ w = w' := by
  by_cases h1 : n < 0
  · have e : sg n = -1 := by unfold sg; rw [if_pos h1]
    go_enter Tryd.func100, Tryd.ntmps100
    go_wp2
    go_ret
    exact ⟨by first | rfl | (rw [e]; rfl), rfl⟩
  · by_cases h2 : 0 < n
    · have e : sg n = 1 := by unfold sg; rw [if_neg h1, if_pos h2]
      go_enter Tryd.func100, Tryd.ntmps100
      go_wp2
      go_ret
      exact ⟨by first | rfl | (rw [e]; rfl), rfl⟩
    · have e : sg n = 0 := by unfold sg; rw [if_neg h1, if_neg h2]
      go_enter Tryd.func100, Tryd.ntmps100
      go_wp2
      go_ret
      exact ⟨by first | rfl | (rw [e]; rfl), rfl⟩
theorem cross_c (ax ay bx b_y cx cy : Int) (w : World) : Calls Tryd.prog 101 #[.agg #[.int .i64 ax, .int .i64 ay], .agg #[.int .i64 bx, .int .i64 b_y], .agg #[.int .i64 cx, .int .i64 cy]] w fun e w' => e = .returned (.int .i64 (crossW ax ay bx b_y cx cy)) ∧ Below w.heap.size w w' := by
  go_enter Tryd.func101, Tryd.ntmps101
  go_wp2
  go_ret
  exact ⟨rfl, by go_grown⟩
theorem side_c (ax ay bx b_y cx cy : Int) (w : World) : Calls Tryd.prog 79 #[.agg #[.int .i64 ax, .int .i64 ay], .agg #[.int .i64 bx, .int .i64 b_y], .agg #[.int .i64 cx, .int .i64 cy]] w fun e w' => e = .returned (.int .i64 (sg (crossW ax ay bx b_y cx cy))) ∧ Below w.heap.size w w' := by
  go_enter Tryd.func79, Tryd.ntmps79
  go_wp2_with (first | (go_at_call 101; refine (cross_c _ _ _ _ _ _ _).mono ?_; rintro e w' ⟨rfl, hb⟩) | (go_at_call 100; refine (signSpec_c _ _).mono ?_; rintro e w' ⟨rfl, rfl⟩))
  go_ret
  exact ⟨rfl, (by go_grown : Below w.heap.size w _).trans (hb.mono (by go_size))⟩
theorem ret_ib {a b : Int} {c d : Bool} (h : a = b) (k : c = d) : Ending.returned (.tuple #[.int .i64 a, .bool c]) = .returned (.tuple #[.int .i64 b, .bool d]) := by rw [h, k]
def sideOk (ax ay bx b_y cx cy : Int) : Bool := goodB ax ay && goodB bx b_y && goodB cx cy
def sideN (ax ay bx b_y cx cy : Int) : Int := if sideOk ax ay bx b_y cx cy then sg (crossW ax ay bx b_y cx cy) else 0
set_option maxHeartbeats 2000000 in
theorem sideOfImpl_c (ax ay bx b_y cx cy : Int) (w : World) (c0 : w.cell? ⟨0, 0, none⟩ = some (.int .i64 1000000)) : Calls Tryd.prog 75 #[.agg #[.int .i64 ax, .int .i64 ay], .agg #[.int .i64 bx, .int .i64 b_y], .agg #[.int .i64 cx, .int .i64 cy]] w fun e w' => e = .returned (.tuple #[.int .i64 (sideN ax ay bx b_y cx cy), .bool (sideOk ax ay bx b_y cx cy)]) ∧ Below w.heap.size w w' := by
  have hz : 0 < w.heap.size := World.block_lt_of_cell? w _ c0
  cases hA : goodB ax ay
  · have e : sideN ax ay bx b_y cx cy = 0 := by simp [sideN, sideOk, hA]
    have e2 : sideOk ax ay bx b_y cx cy = false := by simp [sideOk, hA]
    go_enter Tryd.func75, Tryd.ntmps75
    go_wp2_with (first | (go_at_call 39; refine (goodImpl_c _ _ _ ?_).mono ?_; exact cell_later (by go_grown : Below w.heap.size w _) c0; rintro e w' ⟨rfl, rfl⟩) | (go_at_call 96; refine (signImpl_c _ _).mono ?_; rintro e w' ⟨rfl, rfl⟩))
    go_ret2
    exact ⟨by first | rfl | exact ret_ib e.symm e2.symm, by go_grown⟩
  · cases hB : goodB bx b_y
    · have e : sideN ax ay bx b_y cx cy = 0 := by simp [sideN, sideOk, hA, hB]
      have e2 : sideOk ax ay bx b_y cx cy = false := by simp [sideOk, hA, hB]
      go_enter Tryd.func75, Tryd.ntmps75
      go_wp2_with (first | (go_at_call 39; refine (goodImpl_c _ _ _ ?_).mono ?_; exact cell_later (by go_grown : Below w.heap.size w _) c0; rintro e w' ⟨rfl, rfl⟩) | (go_at_call 96; refine (signImpl_c _ _).mono ?_; rintro e w' ⟨rfl, rfl⟩))
      go_ret2
      exact ⟨by first | rfl | exact ret_ib e.symm e2.symm, by go_grown⟩
    · cases hC : goodB cx cy
      · have e : sideN ax ay bx b_y cx cy = 0 := by simp [sideN, sideOk, hA, hB, hC]
        have e2 : sideOk ax ay bx b_y cx cy = false := by simp [sideOk, hA, hB, hC]
        go_enter Tryd.func75, Tryd.ntmps75
        go_wp2_with (first | (go_at_call 39; refine (goodImpl_c _ _ _ ?_).mono ?_; exact cell_later (by go_grown : Below w.heap.size w _) c0; rintro e w' ⟨rfl, rfl⟩) | (go_at_call 96; refine (signImpl_c _ _).mono ?_; rintro e w' ⟨rfl, rfl⟩))
        go_ret2
        exact ⟨by first | rfl | exact ret_ib e.symm e2.symm, by go_grown⟩
      · have e : sideN ax ay bx b_y cx cy = sg (crossW ax ay bx b_y cx cy) := by simp [sideN, sideOk, hA, hB, hC]
        have e2 : sideOk ax ay bx b_y cx cy = true := by simp [sideOk, hA, hB, hC]
        go_enter Tryd.func75, Tryd.ntmps75
        go_wp2_with (first | (go_at_call 39; refine (goodImpl_c _ _ _ ?_).mono ?_; exact cell_later (by go_grown : Below w.heap.size w _) c0; rintro e w' ⟨rfl, rfl⟩) | (go_at_call 96; refine (signImpl_c _ _).mono ?_; rintro e w' ⟨rfl, rfl⟩))
        go_ret2
        exact ⟨by first | rfl | exact ret_ib e.symm e2.symm, by go_grown⟩
/-- Whether three points turn left, as the program asks it. -/
def tlB (a b c : Int × Int) : Bool := sideN a.1 a.2 b.1 b.2 c.1 c.2 == 1
set_option maxHeartbeats 2000000 in
theorem turnsLeft_c (ax ay bx b_y cx cy : Int) (w : World) (c0 : w.cell? ⟨0, 0, none⟩ = some (.int .i64 1000000)) : Calls Tryd.prog 50 #[.agg #[.int .i64 ax, .int .i64 ay], .agg #[.int .i64 bx, .int .i64 b_y], .agg #[.int .i64 cx, .int .i64 cy]] w fun e w' => e = .returned (.bool (tlB (ax, ay) (bx, b_y) (cx, cy))) ∧ Below w.heap.size w w' := by
  have hz : 0 < w.heap.size := World.block_lt_of_cell? w _ c0
  go_enter Tryd.func50, Tryd.ntmps50
  go_wp2_with (go_at_call 75; refine (sideOfImpl_c _ _ _ _ _ _ _ ?_).mono ?_; exact cell_later (by go_grown : Below w.heap.size w _) c0; rintro e w' ⟨rfl, hb⟩)
  go_ret
  exact ⟨ret_bool (by unfold tlB; simp), (by go_grown : Below w.heap.size w _).trans (hb.mono (by go_size))⟩
def dotW (ax ay bx b_y cx cy : Int) : Int := wrap64 (wrap64 (ax * wrap64 (cx - bx)) + wrap64 (ay * wrap64 (cy - b_y)))
theorem dot_c (ax ay bx b_y cx cy : Int) (w : World) : Calls Tryd.prog 98 #[.agg #[.int .i64 ax, .int .i64 ay], .agg #[.int .i64 bx, .int .i64 b_y], .agg #[.int .i64 cx, .int .i64 cy]] w fun e w' => e = .returned (.int .i64 (dotW ax ay bx b_y cx cy)) ∧ Below w.heap.size w w' := by
  go_enter Tryd.func98, Tryd.ntmps98
  go_wp2
  go_ret
  exact ⟨rfl, by go_grown⟩
theorem goodB_r {x y : Int} (h : goodB x y = true) : (-1000000 ≤ x ∧ x ≤ 1000000) ∧ (-1000000 ≤ y ∧ y ≤ 1000000) := by
  have := of_decide_eq_true h
  omega
theorem small_mul {x y : Int} (hx : -4000000 ≤ x ∧ x ≤ 4000000) (hy : -4000000 ≤ y ∧ y ≤ 4000000) : -16000000000000 ≤ x * y ∧ x * y ≤ 16000000000000 := by
  have h := Nat.mul_le_mul (show x.natAbs ≤ 4000000 by omega) (show y.natAbs ≤ 4000000 by omega)
  rw [← Int.natAbs_mul] at h
  omega
theorem wrap_in {x : Int} (h : -9000000000000000000 ≤ x) (k : x ≤ 9000000000000000000) : wrap64 x = x := by unfold wrap64; omega
/-- Good points. -/
def gp (p : Int × Int) : Prop := goodB p.1 p.2 = true
theorem crossW_eq {a b c : Int × Int} (ha : gp a) (hb : gp b) (hc : gp c) : crossW a.1 a.2 b.1 b.2 c.1 c.2 = sd a b c := by
  obtain ⟨a1, a2⟩ := goodB_r ha
  obtain ⟨b1, b2⟩ := goodB_r hb
  obtain ⟨c1, c2⟩ := goodB_r hc
  have p := small_mul (x := b.1 - a.1) (y := c.2 - a.2) (by omega) (by omega)
  have q := small_mul (x := b.2 - a.2) (y := c.1 - a.1) (by omega) (by omega)
  unfold crossW sd
  rw [wrap_in (x := b.1 - a.1) (by omega) (by omega), wrap_in (x := c.2 - a.2) (by omega) (by omega), wrap_in (x := b.2 - a.2) (by omega) (by omega), wrap_in (x := c.1 - a.1) (by omega) (by omega)]
  rw [wrap_in (x := (b.1 - a.1) * (c.2 - a.2)) (by omega) (by omega), wrap_in (x := (b.2 - a.2) * (c.1 - a.1)) (by omega) (by omega)]
  exact wrap_in (by omega) (by omega)
theorem sg_pos (n : Int) : (sg n = 1 ↔ 0 < n) ∧ (sg n ≤ 0 ↔ n ≤ 0) ∧ (sg n < 0 ↔ n < 0) ∧ (sg n = 0 ↔ n = 0) := by
  unfold sg
  split
  · omega
  · split <;> omega
theorem sideN_eq {a b c : Int × Int} (ha : gp a) (hb : gp b) (hc : gp c) : sideN a.1 a.2 b.1 b.2 c.1 c.2 = sg (sd a b c) := by
  have ha' := ha; have hb' := hb; have hc' := hc
  unfold gp at ha' hb' hc'
  simp [sideN, sideOk, ha', hb', hc', crossW_eq ha hb hc]
theorem tlB_eq {a b c : Int × Int} (ha : gp a) (hb : gp b) (hc : gp c) : tlB a b c = decide (0 < sd a b c) := by
  unfold tlB
  rw [sideN_eq ha hb hc]
  by_cases h : 0 < sd a b c
  · rw [(sg_pos _).1.2 h]; simp [h]
  · have := mt (sg_pos (sd a b c)).1.1 h
    simp [h, this]
/-- Whether three points turn left, as the specification asks it. -/
def slB (a b c : Int × Int) : Bool := !decide (sg (crossW a.1 a.2 b.1 b.2 c.1 c.2) ≤ 0)
theorem slB_eq {a b c : Int × Int} (ha : gp a) (hb : gp b) (hc : gp c) : slB a b c = decide (0 < sd a b c) := by
  unfold slB
  rw [crossW_eq ha hb hc]
  by_cases h : 0 < sd a b c
  · have := mt (sg_pos (sd a b c)).2.1.1 (by omega)
    simp [h, this]
  · have := (sg_pos (sd a b c)).2.1.2 (by omega)
    simp [h, this]
end Go.Proofs.YtegmlemejmahiaaDoor
