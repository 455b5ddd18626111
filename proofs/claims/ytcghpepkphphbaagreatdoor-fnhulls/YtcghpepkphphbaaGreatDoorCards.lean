/-
  DERIVED. GIVEN WITH THE SEED: THE CARDS: each row of YtcghpepkphphbaaGreatDoorRows.lean that lists a variable, with what it lists TIED to the program's text (the seventh form; the later family's looks); each row that meets fmt, with fmt's text TOLD by the authors' own Lean function (tested against real Go, not proved from fmt's source: count such statements apart). THE CARD IS WHAT COUNTS. Prove the row's statement (the work); the ties are given (YtcghpepkphphbaaGreatDoorTie.lean); close each card by the builder's one call (the guide's Derived/Test/ToyasCard.lean, 'card_holds'). Laid BY PROGRAM, IN A SANDBOX (cutbox-door.mjs). By AI agents, Wed Nov 11 2026. No macro, syntax, notation, axiom, sorry.
-/
import Derived.Test.YtcghpepkphphbaaGreatDoorRows
import GoSem.ClaimSeven
namespace Go.Proofs.YtcghpepkphphbaaGreatDoor
namespace Rows

/-- THE TIED CARD OF 'laws.FnHulls'. -/
def fnHullsCard : Claim7 := { stood := { row := fnHullsRow, standIns := [], harness := (true, "f27ea57626bc44026c09f854f30584b2988ded354c2c9af48d6d5264d17c55b4"), looks := false }, kinds := [], alts := [], laidByText := true, laidKinds := [.data], laidTests := true, laidLooks := .later }
def FnHullsCardSaid : Prop := Claim7.holds Tryz.pinned (.plain (OpenSpec.ofChange fnHullsSpec)) fnHullsCard

/-- THE SECOND FORM's CARD OF 'laws.FnHulls'. -/
def fnHullsUptoCard : Claim7 := { stood := { row := fnHullsUptoRow, standIns := [], harness := (true, "f27ea57626bc44026c09f854f30584b2988ded354c2c9af48d6d5264d17c55b4"), looks := false }, kinds := [], alts := [], laidByText := true, laidKinds := [.data], laidTests := true, laidLooks := .later }
def FnHullsUptoCardSaid : Prop := Claim7.holds Tryz.pinned (.plain (OpenSpec.upto fnHullsSpec)) fnHullsUptoCard
end Rows
end Go.Proofs.YtcghpepkphphbaaGreatDoor
