/-
  Points, one by one: what the program's, the specification's and the law's small functions answer (contracts for the walks).
  Conditions: as each theorem states them.
-/
import Derived.Test.YtmnecminfldfjaaDoorRows
import Derived.WalkKit
import Derived.ProofKit
import Derived.OpenShut
import Derived.Handy
import Derived.WalkSpells
namespace Go.Proofs.YtmnecminfldfjaaDoor
open Go.RowKit
set_option linter.unusedVariables false
theorem hid {p : Prop} (h : p) : Hid p := h
/-- Whether both numbers are within MaxXY. -/
def goodB (x y : Int) : Bool := decide (-1000000 ≤ x ∧ x ≤ 1000000 ∧ -1000000 ≤ y ∧ y ≤ 1000000)
theorem ret_bool {a b : Bool} (h : a = b) : Ending.returned (.bool a) = .returned (.bool b) := by rw [h]
theorem ret_int {a b : Int} (h : a = b) : Ending.returned (.int .i64 a) = .returned (.int .i64 b) := by rw [h]
set_option maxHeartbeats 2000000 in
theorem goodSpec_c (x y : Int) (w : World) : Calls Tryd.prog 30 #[.agg #[.int .i64 x, .int .i64 y]] w fun e w' => e = .returned (.bool (goodB x y)) ∧ w.alloc (.cells #[.int .i64 x, .int .i64 y] 30) = w' := by
  by_cases h1 : -1000000 ≤ x
  · by_cases h2 : x ≤ 1000000
    · by_cases h3 : -1000000 ≤ y
      · by_cases h4 : y ≤ 1000000
        · have e : goodB x y = true := decide_eq_true (by omega)
          go_enter Tryd.func30, Tryd.ntmps30
          go_wp2
          go_ret
          exact ⟨by first | rfl | (rw [e]; rfl), rfl⟩
        · have e : goodB x y = false := decide_eq_false (by omega)
          go_enter Tryd.func30, Tryd.ntmps30
          go_wp2
          go_ret
          exact ⟨by first | rfl | (rw [e]; rfl), rfl⟩
      · have e : goodB x y = false := decide_eq_false (by omega)
        go_enter Tryd.func30, Tryd.ntmps30
        go_wp2
        go_ret
        exact ⟨by first | rfl | (rw [e]; rfl), rfl⟩
    · have e : goodB x y = false := decide_eq_false (by omega)
      go_enter Tryd.func30, Tryd.ntmps30
      go_wp2
      go_ret
      exact ⟨by first | rfl | (rw [e]; rfl), rfl⟩
  · have e : goodB x y = false := decide_eq_false (by omega)
    go_enter Tryd.func30, Tryd.ntmps30
    go_wp2
    go_ret
    exact ⟨by first | rfl | (rw [e]; rfl), rfl⟩
set_option maxHeartbeats 2000000 in
theorem goodImpl_c (x y : Int) (w : World) (c0 : w.cell? ⟨0, 0, none⟩ = some (.int .i64 1000000)) : Calls Tryd.prog 23 #[.agg #[.int .i64 x, .int .i64 y]] w fun e w' => e = .returned (.bool (goodB x y)) ∧ (w.alloc (.cells #[.int .i64 x, .int .i64 y] 30)).alloc (.cells #[.int .i64 x, .int .i64 y] 30) = w' := by
  have hz : 0 < w.heap.size := World.block_lt_of_cell? w _ c0
  by_cases h1 : -1000000 ≤ x
  · by_cases h2 : x ≤ 1000000
    · by_cases h3 : -1000000 ≤ y
      · by_cases h4 : y ≤ 1000000
        · have e : goodB x y = true := decide_eq_true (by omega)
          go_enter Tryd.func23, Tryd.ntmps23
          go_wp2
          go_ret
          exact ⟨by first | rfl | (rw [e]; rfl), rfl⟩
        · have e : goodB x y = false := decide_eq_false (by omega)
          go_enter Tryd.func23, Tryd.ntmps23
          go_wp2
          go_ret
          exact ⟨by first | rfl | (rw [e]; rfl), rfl⟩
      · have e : goodB x y = false := decide_eq_false (by omega)
        go_enter Tryd.func23, Tryd.ntmps23
        go_wp2
        go_ret
        exact ⟨by first | rfl | (rw [e]; rfl), rfl⟩
    · have e : goodB x y = false := decide_eq_false (by omega)
      go_enter Tryd.func23, Tryd.ntmps23
      go_wp2
      go_ret
      exact ⟨by first | rfl | (rw [e]; rfl), rfl⟩
  · have e : goodB x y = false := decide_eq_false (by omega)
    go_enter Tryd.func23, Tryd.ntmps23
    go_wp2
    go_ret
    exact ⟨by first | rfl | (rw [e]; rfl), rfl⟩
/-- Whether a point comes first. -/
def lessB (x0 y0 x1 y1 : Int) : Bool := decide (x0 < x1 ∨ x0 = x1 ∧ y0 < y1)
theorem lessSpec_c (x0 y0 x1 y1 : Int) (w : World) :
    Calls Tryd.prog 31 #[.agg #[.int .i64 x0, .int .i64 y0], .agg #[.int .i64 x1, .int .i64 y1]] w fun e w' => e = .returned (.bool (lessB x0 y0 x1 y1)) ∧ Below w.heap.size w w' := by
  by_cases h1 : x0 < x1
  · have e : lessB x0 y0 x1 y1 = true := by simp [lessB]; omega
    go_enter Tryd.func31, Tryd.ntmps31
    go_wp2
    all_goals go_ret
    all_goals exact ⟨by first | rfl | (rw [e]; rfl), by go_grown⟩
  · by_cases h2 : x0 = x1
    · subst h2
      by_cases h4 : y0 < y1
      · have e : lessB x0 y0 x0 y1 = true := by simp [lessB]; omega
        go_enter Tryd.func31, Tryd.ntmps31
        go_wp2
        all_goals go_ret
        all_goals exact ⟨by first | rfl | (rw [e]; rfl), by go_grown⟩
      · have e : lessB x0 y0 x0 y1 = false := by simp [lessB]; omega
        go_enter Tryd.func31, Tryd.ntmps31
        go_wp2
        all_goals go_ret
        all_goals exact ⟨by first | rfl | (rw [e]; rfl), by go_grown⟩
    · have h3 : (x0 == x1) = false := by simpa using h2
      have e : lessB x0 y0 x1 y1 = false := by simp [lessB]; omega
      go_enter Tryd.func31, Tryd.ntmps31
      go_wp2
      all_goals go_ret
      all_goals exact ⟨by first | rfl | (rw [e]; rfl), by go_grown⟩
theorem lessImpl_c (x0 y0 x1 y1 : Int) (w : World) :
    Calls Tryd.prog 67 #[.agg #[.int .i64 x0, .int .i64 y0], .agg #[.int .i64 x1, .int .i64 y1]] w fun e w' => e = .returned (.bool (lessB x0 y0 x1 y1)) ∧ Below w.heap.size w w' := by
  by_cases h1 : x0 < x1
  · have e : lessB x0 y0 x1 y1 = true := by simp [lessB]; omega
    have h3 : (x0 == x1) = false := by simp; omega
    go_enter Tryd.func67, Tryd.ntmps67
    go_wp2
    all_goals go_ret
    all_goals exact ⟨by first | rfl | (rw [e]; rfl), by go_grown⟩
  · by_cases h2 : x0 = x1
    · subst h2
      by_cases h4 : y0 < y1
      · have e : lessB x0 y0 x0 y1 = true := by simp [lessB]; omega
        go_enter Tryd.func67, Tryd.ntmps67
        go_wp2
        all_goals go_ret
        all_goals exact ⟨by first | rfl | (rw [e]; rfl), by go_grown⟩
      · have e : lessB x0 y0 x0 y1 = false := by simp [lessB]; omega
        go_enter Tryd.func67, Tryd.ntmps67
        go_wp2
        all_goals go_ret
        all_goals exact ⟨by first | rfl | (rw [e]; rfl), by go_grown⟩
    · have h3 : (x0 == x1) = false := by simpa using h2
      have e : lessB x0 y0 x1 y1 = false := by simp [lessB]; omega
      go_enter Tryd.func67, Tryd.ntmps67
      go_wp2
      all_goals go_ret
      all_goals exact ⟨by first | rfl | (rw [e]; rfl), by go_grown⟩
theorem grew {w u w' : World} (h : Below w.heap.size w u) (hb : Below u.heap.size u w') : Below w.heap.size w w' := h.trans (hb.mono h.size)
theorem lessThan_c (x0 y0 x1 y1 : Int) (w : World) : Calls Tryd.prog 66 #[.agg #[.int .i64 x0, .int .i64 y0], .agg #[.int .i64 x1, .int .i64 y1]] w fun e w' => e = .returned (.bool (lessB x0 y0 x1 y1)) ∧ Below w.heap.size w w' := by
  go_enter Tryd.func66, Tryd.ntmps66
  go_wp2_with (go_at_call 67; refine (lessImpl_c _ _ _ _ _).mono ?_; rintro e w' ⟨rfl, hb⟩)
  go_ret
  exact ⟨rfl, grew (by go_grown) hb⟩
/-- Whether two points are the same. -/
def eqB (x0 y0 x1 y1 : Int) : Bool := decide (x0 = x1 ∧ y0 = y1)
end Go.Proofs.YtmnecminfldfjaaDoor
