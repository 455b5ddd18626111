/-
  What PlaceOf answers, in the specification and in the program (contracts for the walks).
  Conditions: as each theorem states them.
-/
import Derived.Test.YtegmlemejmahiaaDoorSet5
namespace Go.Proofs.YtegmlemejmahiaaDoor
open Go.RowKit
set_option linter.unusedVariables false
def plcOk (l : List (Int × Int)) (x y : Int) : Bool := goodL l && hasB l x y
def plcN (l : List (Int × Int)) (x y : Int) : Nat := if plcOk l x y then plc l x y else 0
theorem goodL_rises {l : List (Int × Int)} (h : goodL l = true) : RisesTo l (l.length - 1) := by
  rw [goodL, Bool.and_eq_true] at h
  exact (rises_iff l).1 h.2
theorem goodL_few {l : List (Int × Int)} (h : goodL l = true) : l.length ≤ 60 := by
  rw [goodL, Bool.and_eq_true, Bool.and_eq_true] at h
  exact of_decide_eq_true h.1.1
theorem goodL_good {l : List (Int × Int)} (h : goodL l = true) : GoodTo l l.length := by
  rw [goodL, Bool.and_eq_true, Bool.and_eq_true] at h
  exact (allGood_iff l).1 h.1.2
end Go.Proofs.YtegmlemejmahiaaDoor
