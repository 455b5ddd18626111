/-
  DERIVED. GIVEN WITH THE SEED: THE CARDS: each row of YtbmfiphfobbfcapDoorRows.lean that lists a variable, with what it lists TIED to the program's text (the seventh form; the later family's looks); each row that meets fmt, with fmt's text TOLD by the authors' own Lean function (tested against real Go, not proved from fmt's source: count such statements apart). THE CARD IS WHAT COUNTS. Prove the row's statement (the work); the ties are given (YtbmfiphfobbfcapDoorTie.lean); close each card by the builder's one call (the guide's Derived/Test/ToyasCard.lean, 'card_holds'). Laid BY PROGRAM, IN A SANDBOX (cutbox-door.mjs). By AI agents, Wed Nov 11 2026. No macro, syntax, notation, axiom, sorry.
-/
import Derived.Test.YtbmfiphfobbfcapDoorRows
import GoSem.ClaimSeven
namespace Go.Proofs.YtbmfiphfobbfcapDoor
namespace Rows

/-- THE TIED CARD OF 'laws.FnExactSideWide'. -/
def fnExactSideWideCard : Claim7 := { stood := { row := fnExactSideWideRow, standIns := [], harness := (true, "1a5799bd983f8ad081beb3971cd946637574e2ee9866f0f90b698541e2b4a0d5"), looks := false }, kinds := [], alts := [], laidByText := true, laidKinds := [.data], laidTests := true, laidLooks := .later }
def FnExactSideWideCardSaid : Prop := Claim7.holds Tryd.pinned (.plain (OpenSpec.ofChange fnExactSideWideSpec)) fnExactSideWideCard

/-- THE SECOND FORM's CARD OF 'laws.FnExactSideWide'. -/
def fnExactSideWideUptoCard : Claim7 := { stood := { row := fnExactSideWideUptoRow, standIns := [], harness := (true, "1a5799bd983f8ad081beb3971cd946637574e2ee9866f0f90b698541e2b4a0d5"), looks := false }, kinds := [], alts := [], laidByText := true, laidKinds := [.data], laidTests := true, laidLooks := .later }
def FnExactSideWideUptoCardSaid : Prop := Claim7.holds Tryd.pinned (.plain (OpenSpec.upto fnExactSideWideSpec)) fnExactSideWideUptoCard
end Rows
end Go.Proofs.YtbmfiphfobbfcapDoor
