/-
  A look by halves (a contract for the walks).
  Conditions: as each theorem states them.
-/
import Derived.Test.YtmnecminfldfjaaDoorSet4
namespace Go.Proofs.YtmnecminfldfjaaDoor
open Go.RowKit
set_option linter.unusedVariables false
end Go.Proofs.YtmnecminfldfjaaDoor
