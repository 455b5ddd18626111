/-
  Arrays of three points compared (a law for the walks).
  Conditions: as each theorem states them.
-/
import Derived.Test.YtegmlemejmahiaaDoorSet1
import Derived.ChangeKeysEq
namespace Go.Proofs.YtegmlemejmahiaaDoor
open Go.RowKit
set_option linter.unusedVariables false
theorem cells_pt : Tryd.prog.cellsOf 26 = 2 := by kernel_rfl
theorem eqP (d : Nat) (a b x y : Int) (w : World) : (Op.equalIn (d + 2) 26 (.agg #[.int .i64 a, .int .i64 b]) (.agg #[.int .i64 x, .int .i64 y])).run Tryd.prog w = .ok (decide (a = x ∧ b = y)) w := by
  by_cases h1 : a = x
  · by_cases h2 : b = y
    · simp [go_sem, h1, h2]
    · simp [go_sem, h1, h2]
  · simp [go_sem, h1]
theorem eq6 (x0 x1 x2 x3 x4 x5 y0 y1 y2 y3 y4 y5 : Int) (w : World) :
    (Op.equalIn 10000 101 (.agg #[.int .i64 x0, .int .i64 x1, .int .i64 x2, .int .i64 x3, .int .i64 x4, .int .i64 x5]) (.agg #[.int .i64 y0, .int .i64 y1, .int .i64 y2, .int .i64 y3, .int .i64 y4, .int .i64 y5])).run Tryd.prog w
      = .ok (decide (((x0, x1), (x2, x3), (x4, x5)) = ((y0, y1), (y2, y3), (y4, y5)))) w := by
  obtain ⟨i0, hi, hz0, hz1, hz2⟩ := info_parts info_pt
  rw [show (10000 : Nat) = 9999 + 1 from rfl, run_equalIn_array w 9999 _ _ Tryd.underlying101 hi, cells_pt]
  show (Op.eqItems 9999 26 2 _ _ [0, 1, 2]).run Tryd.prog w = _
  simp only [Op.eqItems]
  simp [go_sem, eqP 9997]
  by_cases h0 : x0 = y0 <;> by_cases h1 : x1 = y1 <;> by_cases h2 : x2 = y2 <;> by_cases h3 : x3 = y3 <;> by_cases h4 : x4 = y4 <;> by_cases h5 : x5 = y5 <;> simp [h0, h1, h2, h3, h4, h5]
end Go.Proofs.YtegmlemejmahiaaDoor
