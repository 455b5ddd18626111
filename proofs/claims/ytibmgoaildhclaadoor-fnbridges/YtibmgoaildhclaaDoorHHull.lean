/-
  Hulls of sets, in the program, and lists of points held against one another (contracts for the walks).
  Conditions: as each theorem states them.
-/
import Derived.Test.YtibmgoaildhclaaDoorHHullA
namespace Go.Proofs.YtibmgoaildhclaaDoor
open Go.RowKit Go.Shelf
set_option linter.unusedVariables false
set_option maxRecDepth 8000
end Go.Proofs.YtibmgoaildhclaaDoor
