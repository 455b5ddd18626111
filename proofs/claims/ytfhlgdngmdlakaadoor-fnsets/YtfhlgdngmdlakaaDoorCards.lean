/-
  DERIVED. GIVEN WITH THE SEED: THE CARDS: each row of YtfhlgdngmdlakaaDoorRows.lean that lists a variable, with what it lists TIED to the program's text (the seventh form; the later family's looks); each row that meets fmt, with fmt's text TOLD by the authors' own Lean function (tested against real Go, not proved from fmt's source: count such statements apart). THE CARD IS WHAT COUNTS. Prove the row's statement (the work); the ties are given (YtfhlgdngmdlakaaDoorTie.lean); close each card by the builder's one call (the guide's Derived/Test/ToyasCard.lean, 'card_holds'). Laid BY PROGRAM, IN A SANDBOX (cutbox-door.mjs). By AI agents, Wed Nov 11 2026. No macro, syntax, notation, axiom, sorry.
-/
import Derived.Test.YtfhlgdngmdlakaaDoorRows
import GoSem.ClaimSeven
namespace Go.Proofs.YtfhlgdngmdlakaaDoor
namespace Rows

/-- THE TIED CARD OF 'laws.FnSets'. -/
def fnSetsCard : Claim7 := { stood := { row := fnSetsRow, standIns := [], harness := (true, "f0adc248849fa5239ef4d1c96511841bde423f5410160c3940523aa8185fad65"), looks := false }, kinds := [], alts := [], laidByText := true, laidKinds := [.data], laidTests := true, laidLooks := .later }
def FnSetsCardSaid : Prop := Claim7.holds Tryd.pinned (.plain (OpenSpec.ofChange fnSetsSpec)) fnSetsCard

/-- THE TIED CARD OF 'laws.FnMovedSets'. -/
def fnMovedSetsCard : Claim7 := { stood := { row := fnMovedSetsRow, standIns := [], harness := (true, "f0adc248849fa5239ef4d1c96511841bde423f5410160c3940523aa8185fad65"), looks := false }, kinds := [], alts := [], laidByText := true, laidKinds := [.data], laidTests := true, laidLooks := .later }
def FnMovedSetsCardSaid : Prop := Claim7.holds Tryd.pinned (.plain (OpenSpec.ofChange fnMovedSetsSpec)) fnMovedSetsCard

/-- THE SECOND FORM's CARD OF 'laws.FnSets'. -/
def fnSetsUptoCard : Claim7 := { stood := { row := fnSetsUptoRow, standIns := [], harness := (true, "f0adc248849fa5239ef4d1c96511841bde423f5410160c3940523aa8185fad65"), looks := false }, kinds := [], alts := [], laidByText := true, laidKinds := [.data], laidTests := true, laidLooks := .later }
def FnSetsUptoCardSaid : Prop := Claim7.holds Tryd.pinned (.plain (OpenSpec.upto fnSetsSpec)) fnSetsUptoCard

/-- THE SECOND FORM's CARD OF 'laws.FnMovedSets'. -/
def fnMovedSetsUptoCard : Claim7 := { stood := { row := fnMovedSetsUptoRow, standIns := [], harness := (true, "f0adc248849fa5239ef4d1c96511841bde423f5410160c3940523aa8185fad65"), looks := false }, kinds := [], alts := [], laidByText := true, laidKinds := [.data], laidTests := true, laidLooks := .later }
def FnMovedSetsUptoCardSaid : Prop := Claim7.holds Tryd.pinned (.plain (OpenSpec.upto fnMovedSetsSpec)) fnMovedSetsUptoCard
end Rows
end Go.Proofs.YtfhlgdngmdlakaaDoor
