/-
  Where a point is of a hull, and on which side of it: the program's functions and the specification's (contracts for the walks).
  Conditions: as each theorem states them.
-/
import Derived.Test.YtoefllklngnmeaaGreatDoorEqv
import Derived.Test.YtoefllklngnmeaaGreatDoorHGood
namespace Go.Proofs.YtoefllklngnmeaaGreatDoor
open Go.RowKit Go.Shelf
set_option linter.unusedVariables false
set_option maxRecDepth 8000
theorem ghB_all {l : List (Int × Int)} (h : ghB l = true) : allG l := by
  unfold ghB at h
  rw [Bool.and_eq_true] at h
  exact allG_of ((allGood_iff l).1 h.1)
theorem ghB_len {l : List (Int × Int)} (h : ghB l = true) : l.length ≤ 60 := by
  unfold ghB at h
  rw [Bool.and_eq_true, Bool.and_eq_true, decide_eq_true_iff] at h
  exact h.2.1
def whOk (l : List (Int × Int)) (x y : Int) : Bool := ghB l && goodB x y
def whV (l : List (Int × Int)) (x y : Int) : Int := if whOk l x y = true then whS l (x, y) else 0
def rmOk (l : List (Int × Int)) (x y : Int) : Bool := whOk l x y && decide (2 ≤ l.length)
def rmV (l : List (Int × Int)) (x y : Int) : Int := if rmOk l x y = true then rimW l (x, y) else 0
def rmB (l : List (Int × Int)) (x y : Int) : Bool := rmOk l x y && onS l (x, y)
end Go.Proofs.YtoefllklngnmeaaGreatDoor
