/-
  Points, one by one: what the program's, the specification's and the law's small functions answer (contracts for the walks).
  Conditions: as each theorem states them.
-/
import Derived.Test.YtegmlemejmahiaaDoorRows
import Derived.WalkKit
import Derived.ProofKit
import Derived.OpenShut
import Derived.Handy
import Derived.WalkSpells
namespace Go.Proofs.YtegmlemejmahiaaDoor
open Go.RowKit
set_option linter.unusedVariables false
theorem hid {p : Prop} (h : p) : Hid p := h
/-- Whether both numbers are within MaxXY. -/
def goodB (x y : Int) : Bool := decide (-1000000 ≤ x ∧ x ≤ 1000000 ∧ -1000000 ≤ y ∧ y ≤ 1000000)
theorem ret_bool {a b : Bool} (h : a = b) : Ending.returned (.bool a) = .returned (.bool b) := by rw [h]
theorem ret_int {a b : Int} (h : a = b) : Ending.returned (.int .i64 a) = .returned (.int .i64 b) := by rw [h]
theorem toPoint_c (x y : Int) (w : World) :
    Calls Tryd.prog 13 #[.agg #[.int .i64 x, .int .i64 y]] w fun e w' => e = .returned (.agg #[.int .i64 x, .int .i64 y]) ∧ Below w.heap.size w w' := by
  go_enter Tryd.func13, Tryd.ntmps13
  go_wp2
  go_returns
  exact ⟨rfl, by go_grown⟩
set_option maxHeartbeats 2000000 in
theorem goodSpec_c (x y : Int) (w : World) : Calls Tryd.prog 48 #[.agg #[.int .i64 x, .int .i64 y]] w fun e w' => e = .returned (.bool (goodB x y)) ∧ w.alloc (.cells #[.int .i64 x, .int .i64 y] 26) = w' := by
  by_cases h1 : -1000000 ≤ x
  · by_cases h2 : x ≤ 1000000
    · by_cases h3 : -1000000 ≤ y
      · by_cases h4 : y ≤ 1000000
        · have e : goodB x y = true := decide_eq_true (by omega)
          go_enter Tryd.func48, Tryd.ntmps48
          go_wp2
          go_ret
          exact ⟨by first | rfl | (rw [e]; rfl), rfl⟩
        · have e : goodB x y = false := decide_eq_false (by omega)
          go_enter Tryd.func48, Tryd.ntmps48
          go_wp2
          go_ret
          exact ⟨by first | rfl | (rw [e]; rfl), rfl⟩
      · have e : goodB x y = false := decide_eq_false (by omega)
        go_enter Tryd.func48, Tryd.ntmps48
        go_wp2
        go_ret
        exact ⟨by first | rfl | (rw [e]; rfl), rfl⟩
    · have e : goodB x y = false := decide_eq_false (by omega)
      go_enter Tryd.func48, Tryd.ntmps48
      go_wp2
      go_ret
      exact ⟨by first | rfl | (rw [e]; rfl), rfl⟩
  · have e : goodB x y = false := decide_eq_false (by omega)
    go_enter Tryd.func48, Tryd.ntmps48
    go_wp2
    go_ret
    exact ⟨by first | rfl | (rw [e]; rfl), rfl⟩
set_option maxHeartbeats 2000000 in
theorem goodImpl_c (x y : Int) (w : World) (c0 : w.cell? ⟨0, 0, none⟩ = some (.int .i64 1000000)) : Calls Tryd.prog 39 #[.agg #[.int .i64 x, .int .i64 y]] w fun e w' => e = .returned (.bool (goodB x y)) ∧ (w.alloc (.cells #[.int .i64 x, .int .i64 y] 26)).alloc (.cells #[.int .i64 x, .int .i64 y] 26) = w' := by
  have hz : 0 < w.heap.size := World.block_lt_of_cell? w _ c0
  by_cases h1 : -1000000 ≤ x
  · by_cases h2 : x ≤ 1000000
    · by_cases h3 : -1000000 ≤ y
      · by_cases h4 : y ≤ 1000000
        · have e : goodB x y = true := decide_eq_true (by omega)
          go_enter Tryd.func39, Tryd.ntmps39
          go_wp2
          go_ret
          exact ⟨by first | rfl | (rw [e]; rfl), rfl⟩
        · have e : goodB x y = false := decide_eq_false (by omega)
          go_enter Tryd.func39, Tryd.ntmps39
          go_wp2
          go_ret
          exact ⟨by first | rfl | (rw [e]; rfl), rfl⟩
      · have e : goodB x y = false := decide_eq_false (by omega)
        go_enter Tryd.func39, Tryd.ntmps39
        go_wp2
        go_ret
        exact ⟨by first | rfl | (rw [e]; rfl), rfl⟩
    · have e : goodB x y = false := decide_eq_false (by omega)
      go_enter Tryd.func39, Tryd.ntmps39
      go_wp2
      go_ret
      exact ⟨by first | rfl | (rw [e]; rfl), rfl⟩
  · have e : goodB x y = false := decide_eq_false (by omega)
    go_enter Tryd.func39, Tryd.ntmps39
    go_wp2
    go_ret
    exact ⟨by first | rfl | (rw [e]; rfl), rfl⟩
/-- Whether a point comes first. -/
def lessB (x0 y0 x1 y1 : Int) : Bool := decide (x0 < x1 ∨ x0 = x1 ∧ y0 < y1)
theorem lessSpec_c (x0 y0 x1 y1 : Int) (w : World) :
    Calls Tryd.prog 64 #[.agg #[.int .i64 x0, .int .i64 y0], .agg #[.int .i64 x1, .int .i64 y1]] w fun e w' => e = .returned (.bool (lessB x0 y0 x1 y1)) ∧ Below w.heap.size w w' := by
  by_cases h1 : x0 < x1
  · have e : lessB x0 y0 x1 y1 = true := by simp [lessB]; omega
    go_enter Tryd.func64, Tryd.ntmps64
    go_wp2
    all_goals go_ret
    all_goals exact ⟨by first | rfl | (rw [e]; rfl), by go_grown⟩
  · by_cases h2 : x0 = x1
    · subst h2
      by_cases h4 : y0 < y1
      · have e : lessB x0 y0 x0 y1 = true := by simp [lessB]; omega
        go_enter Tryd.func64, Tryd.ntmps64
        go_wp2
        all_goals go_ret
        all_goals exact ⟨by first | rfl | (rw [e]; rfl), by go_grown⟩
      · have e : lessB x0 y0 x0 y1 = false := by simp [lessB]; omega
        go_enter Tryd.func64, Tryd.ntmps64
        go_wp2
        all_goals go_ret
        all_goals exact ⟨by first | rfl | (rw [e]; rfl), by go_grown⟩
    · have h3 : (x0 == x1) = false := by simpa using h2
      have e : lessB x0 y0 x1 y1 = false := by simp [lessB]; omega
      go_enter Tryd.func64, Tryd.ntmps64
      go_wp2
      all_goals go_ret
      all_goals exact ⟨by first | rfl | (rw [e]; rfl), by go_grown⟩
theorem lessImpl_c (x0 y0 x1 y1 : Int) (w : World) :
    Calls Tryd.prog 70 #[.agg #[.int .i64 x0, .int .i64 y0], .agg #[.int .i64 x1, .int .i64 y1]] w fun e w' => e = .returned (.bool (lessB x0 y0 x1 y1)) ∧ Below w.heap.size w w' := by
  by_cases h1 : x0 < x1
  · have e : lessB x0 y0 x1 y1 = true := by simp [lessB]; omega
    have h3 : (x0 == x1) = false := by simp; omega
    go_enter Tryd.func70, Tryd.ntmps70
    go_wp2
    all_goals go_ret
    all_goals exact ⟨by first | rfl | (rw [e]; rfl), by go_grown⟩
  · by_cases h2 : x0 = x1
    · subst h2
      by_cases h4 : y0 < y1
      · have e : lessB x0 y0 x0 y1 = true := by simp [lessB]; omega
        go_enter Tryd.func70, Tryd.ntmps70
        go_wp2
        all_goals go_ret
        all_goals exact ⟨by first | rfl | (rw [e]; rfl), by go_grown⟩
      · have e : lessB x0 y0 x0 y1 = false := by simp [lessB]; omega
        go_enter Tryd.func70, Tryd.ntmps70
        go_wp2
        all_goals go_ret
        all_goals exact ⟨by first | rfl | (rw [e]; rfl), by go_grown⟩
    · have h3 : (x0 == x1) = false := by simpa using h2
      have e : lessB x0 y0 x1 y1 = false := by simp [lessB]; omega
      go_enter Tryd.func70, Tryd.ntmps70
      go_wp2
      all_goals go_ret
      all_goals exact ⟨by first | rfl | (rw [e]; rfl), by go_grown⟩
theorem grew {w u w' : World} (h : Below w.heap.size w u) (hb : Below u.heap.size u w') : Below w.heap.size w w' := h.trans (hb.mono h.size)
theorem lessThan_c (x0 y0 x1 y1 : Int) (w : World) : Calls Tryd.prog 152 #[.agg #[.int .i64 x0, .int .i64 y0], .agg #[.int .i64 x1, .int .i64 y1]] w fun e w' => e = .returned (.bool (lessB x0 y0 x1 y1)) ∧ Below w.heap.size w w' := by
  go_enter Tryd.func152, Tryd.ntmps152
  go_wp2_with (go_at_call 70; refine (lessImpl_c _ _ _ _ _).mono ?_; rintro e w' ⟨rfl, hb⟩)
  go_ret
  exact ⟨rfl, grew (by go_grown) hb⟩
/-- Whether two points are the same. -/
def eqB (x0 y0 x1 y1 : Int) : Bool := decide (x0 = x1 ∧ y0 = y1)
theorem eqPoint_c (x0 y0 x1 y1 : Int) (w : World) : Calls Tryd.prog 15 #[.agg #[.int .i64 x0, .int .i64 y0], .agg #[.int .i64 x1, .int .i64 y1]] w fun e w' => e = .returned (.bool (eqB x0 y0 x1 y1)) ∧ Below w.heap.size w w' := by
  by_cases h1 : x0 = x1
  · subst h1
    by_cases h2 : y0 = y1
    · subst h2
      have e : eqB x0 y0 x0 y0 = true := by simp [eqB]
      go_enter Tryd.func15, Tryd.ntmps15
      go_wp2
      all_goals go_ret
      all_goals exact ⟨by first | rfl | (rw [e]; rfl), by go_grown⟩
    · have e : eqB x0 y0 x0 y1 = false := by simp [eqB, h2]
      have h3 : (y0 != y1) = true := by simpa using h2
      go_enter Tryd.func15, Tryd.ntmps15
      go_wp2
      all_goals go_ret
      all_goals exact ⟨by first | rfl | (rw [e]; rfl), by go_grown⟩
  · have e : eqB x0 y0 x1 y1 = false := by simp [eqB, h1]
    have h3 : (x0 != x1) = true := by simpa using h1
    go_enter Tryd.func15, Tryd.ntmps15
    go_wp2
    all_goals go_ret
    all_goals exact ⟨by first | rfl | (rw [e]; rfl), by go_grown⟩
theorem szPointS_c (a : Option Addr) (len cap : Nat) (n : Int) (h : (len : Int) ≤ n) (hn : n ≤ 1048576) (w : World) : Calls Tryd.prog 10 #[.slice a len cap, .int .i64 n] w fun e w' => e = .returned (.int .i64 (n - len)) ∧ w = w' := by
  have h0 : 0 ≤ n - len := by omega
  go_enter Tryd.func10, Tryd.ntmps10
  go_wp2
  all_goals go_ret
  all_goals exact ⟨by first | rfl | omega, rfl⟩
theorem szPointS_f (a : Option Addr) (len cap : Nat) (n : Int) (h : n < (len : Int)) (hn : 0 ≤ n) (hm : len ≤ maxLen) (w : World) : Calls Tryd.prog 10 #[.slice a len cap, .int .i64 n] w fun e w' => e = .returned (.int .i64 (-1)) ∧ w = w' := by
  unfold maxLen at hm
  have h0 : n - len < 0 := by omega
  go_enter Tryd.func10, Tryd.ntmps10
  go_wp2
  all_goals go_ret
  all_goals exact ⟨by first | rfl | omega, rfl⟩
end Go.Proofs.YtegmlemejmahiaaDoor
