/-
  Where a point is of a ring, as the specification has it (contracts for the walks).
  Conditions: as each theorem states them.
-/
import Derived.Test.YtcghpepkphphbaaGreatDoorOn4
namespace Go.Proofs.YtcghpepkphphbaaGreatDoor
open Go.RowKit Go.Shelf
set_option linter.unusedVariables false
def rimS (h : List (Int × Int)) (q : Int × Int) : Nat := fstT (sideT onB h q) h.length
def onS (h : List (Int × Int)) (q : Int × Int) : Bool := decide (rimS h q < h.length)
def rimW (h : List (Int × Int)) (q : Int × Int) : Int := if onS h q = true then rimS h q else 0
/-- Where a point is, as the specification has it. -/
def whS (h : List (Int × Int)) (q : Int × Int) : Int := if onS h q = true then 1 else if h.length < 3 then 0 else if allT (sideT slB h q) h.length = true then 2 else 0
def outTo (h : List (Int × Int)) (q : Int × Int) (k : Nat) : Int := if allT (sideT slB h q) k = true then 2 else 0
theorem outTo.stay {h : List (Int × Int)} {q : Int × Int} {k : Nat} (e : sideT slB h q k = true) : outTo h q (k + 1) = outTo h q k := by
  unfold outTo; rw [allT_succ, e, Bool.and_true]
theorem outTo.no {h : List (Int × Int)} {q : Int × Int} {k : Nat} (e : sideT slB h q k = false) : outTo h q (k + 1) = 0 := by
  unfold outTo; rw [allT_succ, e, Bool.and_false]; rfl
end Go.Proofs.YtcghpepkphphbaaGreatDoor
