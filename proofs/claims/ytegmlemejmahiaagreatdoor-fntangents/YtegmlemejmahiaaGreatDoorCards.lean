/-
  DERIVED. GIVEN WITH THE SEED: THE CARDS: each row of YtegmlemejmahiaaGreatDoorRows.lean that lists a variable, with what it lists TIED to the program's text (the seventh form; the later family's looks); each row that meets fmt, with fmt's text TOLD by the authors' own Lean function (tested against real Go, not proved from fmt's source: count such statements apart). THE CARD IS WHAT COUNTS. Prove the row's statement (the work); the ties are given (YtegmlemejmahiaaGreatDoorTie.lean); close each card by the builder's one call (the guide's Derived/Test/ToyasCard.lean, 'card_holds'). Laid BY PROGRAM, IN A SANDBOX (cutbox-door.mjs). By AI agents, Wed Nov 11 2026. No macro, syntax, notation, axiom, sorry.
-/
import Derived.Test.YtegmlemejmahiaaGreatDoorRows
import GoSem.ClaimSeven
namespace Go.Proofs.YtegmlemejmahiaaGreatDoor
namespace Rows

/-- THE TIED CARD OF 'laws.FnTangents'. -/
def fnTangentsCard : Claim7 := { stood := { row := fnTangentsRow, standIns := [], harness := (true, "2ce74a1b007545acfedc0e154c01872452086b9509618a15367fb7837ca221e1"), looks := false }, kinds := [], alts := [], laidByText := true, laidKinds := [.data], laidTests := true, laidLooks := .later }
def FnTangentsCardSaid : Prop := Claim7.holds Tryz.pinned (.plain (OpenSpec.ofChange fnTangentsSpec)) fnTangentsCard

/-- THE SECOND FORM's CARD OF 'laws.FnTangents'. -/
def fnTangentsUptoCard : Claim7 := { stood := { row := fnTangentsUptoRow, standIns := [], harness := (true, "2ce74a1b007545acfedc0e154c01872452086b9509618a15367fb7837ca221e1"), looks := false }, kinds := [], alts := [], laidByText := true, laidKinds := [.data], laidTests := true, laidLooks := .later }
def FnTangentsUptoCardSaid : Prop := Claim7.holds Tryz.pinned (.plain (OpenSpec.upto fnTangentsSpec)) fnTangentsUptoCard
end Rows
end Go.Proofs.YtegmlemejmahiaaGreatDoor
