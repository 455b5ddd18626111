/-
  The depth of a point: both contracts.
  Conditions: as the texts state them.
-/
import Derived.Test.YtoefllklngnmeaaDoorDp9s
import Derived.Test.YtoefllklngnmeaaDoorDp9t
