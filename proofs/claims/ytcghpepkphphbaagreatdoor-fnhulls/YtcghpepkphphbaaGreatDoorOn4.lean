/-
  What is on a segment, as the specification has it (contracts for the walks).
  Conditions: as each theorem states them.
-/
import Derived.Test.YtcghpepkphphbaaGreatDoorWhr
namespace Go.Proofs.YtcghpepkphphbaaGreatDoor
open Go.RowKit Go.Shelf
set_option linter.unusedVariables false
/-- q is on the way from a to b, as the specification has it. -/
def onB (a b q : Int × Int) : Bool := decide (sg (crossW a.1 a.2 b.1 b.2 q.1 q.2) = 0) && decide (0 ≤ dotW (wrap64 (q.1 - a.1)) (wrap64 (q.2 - a.2)) q.1 q.2 b.1 b.2)
end Go.Proofs.YtcghpepkphphbaaGreatDoor
