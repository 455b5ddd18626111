/-
  DERIVED. GIVEN WITH THE SEED: THE CARDS: each row of YtibmgoaildhclaaDoorRows.lean that lists a variable, with what it lists TIED to the program's text (the seventh form; the later family's looks); each row that meets fmt, with fmt's text TOLD by the authors' own Lean function (tested against real Go, not proved from fmt's source: count such statements apart). THE CARD IS WHAT COUNTS. Prove the row's statement (the work); the ties are given (YtibmgoaildhclaaDoorTie.lean); close each card by the builder's one call (the guide's Derived/Test/ToyasCard.lean, 'card_holds'). Laid BY PROGRAM, IN A SANDBOX (cutbox-door.mjs). By AI agents, Wed Nov 11 2026. No macro, syntax, notation, axiom, sorry.
-/
import Derived.Test.YtibmgoaildhclaaDoorRows
import GoSem.ClaimSeven
namespace Go.Proofs.YtibmgoaildhclaaDoor
namespace Rows

/-- THE TIED CARD OF 'laws.FnExactMergeLower'. -/
def fnExactMergeLowerCard : Claim7 := { stood := { row := fnExactMergeLowerRow, standIns := [], harness := (true, "24d8eb164b78916601ebfc1978daead1bb4741f9052a37f89e8dc1b9562b2d8a"), looks := false }, kinds := [], alts := [], laidByText := true, laidKinds := [.data], laidTests := true, laidLooks := .later }
def FnExactMergeLowerCardSaid : Prop := Claim7.holds Tryd.pinned (.plain (OpenSpec.ofChange fnExactMergeLowerSpec)) fnExactMergeLowerCard

/-- THE TIED CARD OF 'laws.FnBridges'. -/
def fnBridgesCard : Claim7 := { stood := { row := fnBridgesRow, standIns := [], harness := (true, "24d8eb164b78916601ebfc1978daead1bb4741f9052a37f89e8dc1b9562b2d8a"), looks := false }, kinds := [], alts := [], laidByText := true, laidKinds := [.data], laidTests := true, laidLooks := .later }
def FnBridgesCardSaid : Prop := Claim7.holds Tryd.pinned (.plain (OpenSpec.ofChange fnBridgesSpec)) fnBridgesCard

/-- THE SECOND FORM's CARD OF 'laws.FnExactMergeLower'. -/
def fnExactMergeLowerUptoCard : Claim7 := { stood := { row := fnExactMergeLowerUptoRow, standIns := [], harness := (true, "24d8eb164b78916601ebfc1978daead1bb4741f9052a37f89e8dc1b9562b2d8a"), looks := false }, kinds := [], alts := [], laidByText := true, laidKinds := [.data], laidTests := true, laidLooks := .later }
def FnExactMergeLowerUptoCardSaid : Prop := Claim7.holds Tryd.pinned (.plain (OpenSpec.upto fnExactMergeLowerSpec)) fnExactMergeLowerUptoCard

/-- THE SECOND FORM's CARD OF 'laws.FnBridges'. -/
def fnBridgesUptoCard : Claim7 := { stood := { row := fnBridgesUptoRow, standIns := [], harness := (true, "24d8eb164b78916601ebfc1978daead1bb4741f9052a37f89e8dc1b9562b2d8a"), looks := false }, kinds := [], alts := [], laidByText := true, laidKinds := [.data], laidTests := true, laidLooks := .later }
def FnBridgesUptoCardSaid : Prop := Claim7.holds Tryd.pinned (.plain (OpenSpec.upto fnBridgesSpec)) fnBridgesUptoCard
end Rows
end Go.Proofs.YtibmgoaildhclaaDoor
