/-
  What is on a segment: the program's function and the specification's (contracts for the walks).
  Conditions: as each theorem states them.
-/
import Derived.Test.YtoefllklngnmeaaDoorEqv
import Derived.Test.YtoefllklngnmeaaDoorHGood
namespace Go.Proofs.YtoefllklngnmeaaDoor
open Go.RowKit Go.Shelf
set_option linter.unusedVariables false
set_option maxRecDepth 8000
def sgB (ax ay bx b_y qx qy : Int) : Bool := sideOk ax ay bx b_y qx qy && onB (ax, ay) (bx, b_y) (qx, qy)
end Go.Proofs.YtoefllklngnmeaaDoor
