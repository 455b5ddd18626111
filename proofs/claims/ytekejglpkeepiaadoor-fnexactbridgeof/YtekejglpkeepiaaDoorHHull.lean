/-
  Hulls of sets, in the program, and lists of points held against one another (contracts for the walks).
  Conditions: as each theorem states them.
-/
import Derived.Test.YtekejglpkeepiaaDoorHHullA
namespace Go.Proofs.YtekejglpkeepiaaDoor
open Go.RowKit Go.Shelf
set_option linter.unusedVariables false
set_option maxRecDepth 8000
end Go.Proofs.YtekejglpkeepiaaDoor
