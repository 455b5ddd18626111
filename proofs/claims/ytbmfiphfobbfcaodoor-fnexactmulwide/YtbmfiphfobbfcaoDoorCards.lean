/-
  DERIVED. GIVEN WITH THE SEED: THE CARDS: each row of YtbmfiphfobbfcaoDoorRows.lean that lists a variable, with what it lists TIED to the program's text (the seventh form; the later family's looks); each row that meets fmt, with fmt's text TOLD by the authors' own Lean function (tested against real Go, not proved from fmt's source: count such statements apart). THE CARD IS WHAT COUNTS. Prove the row's statement (the work); the ties are given (YtbmfiphfobbfcaoDoorTie.lean); close each card by the builder's one call (the guide's Derived/Test/ToyasCard.lean, 'card_holds'). Laid BY PROGRAM, IN A SANDBOX (cutbox-door.mjs). By AI agents, Wed Nov 11 2026. No macro, syntax, notation, axiom, sorry.
-/
import Derived.Test.YtbmfiphfobbfcaoDoorRows
import GoSem.ClaimSeven
namespace Go.Proofs.YtbmfiphfobbfcaoDoor
namespace Rows

/-- THE TIED CARD OF 'laws.FnExactGoodPoint'. -/
def fnExactGoodPointCard : Claim7 := { stood := { row := fnExactGoodPointRow, standIns := [], harness := (true, "11e1c0292f2dff0a9d5f1bc7a77e6320ed47fb3915e52d33f5ee664a66ab3530"), looks := false }, kinds := [], alts := [], laidByText := true, laidKinds := [.data], laidTests := true, laidLooks := .later }
def FnExactGoodPointCardSaid : Prop := Claim7.holds Tryd.pinned (.plain (OpenSpec.ofChange fnExactGoodPointSpec)) fnExactGoodPointCard

/-- THE TIED CARD OF 'laws.FnExactSideOf'. -/
def fnExactSideOfCard : Claim7 := { stood := { row := fnExactSideOfRow, standIns := [], harness := (true, "11e1c0292f2dff0a9d5f1bc7a77e6320ed47fb3915e52d33f5ee664a66ab3530"), looks := false }, kinds := [], alts := [], laidByText := true, laidKinds := [.data], laidTests := true, laidLooks := .later }
def FnExactSideOfCardSaid : Prop := Claim7.holds Tryd.pinned (.plain (OpenSpec.ofChange fnExactSideOfSpec)) fnExactSideOfCard

/-- THE TIED CARD OF 'laws.FnExactDotSign'. -/
def fnExactDotSignCard : Claim7 := { stood := { row := fnExactDotSignRow, standIns := [], harness := (true, "11e1c0292f2dff0a9d5f1bc7a77e6320ed47fb3915e52d33f5ee664a66ab3530"), looks := false }, kinds := [], alts := [], laidByText := true, laidKinds := [.data], laidTests := true, laidLooks := .later }
def FnExactDotSignCardSaid : Prop := Claim7.holds Tryd.pinned (.plain (OpenSpec.ofChange fnExactDotSignSpec)) fnExactDotSignCard

/-- THE TIED CARD OF 'laws.FnExactMulWide'. -/
def fnExactMulWideCard : Claim7 := { stood := { row := fnExactMulWideRow, standIns := [], harness := (true, "11e1c0292f2dff0a9d5f1bc7a77e6320ed47fb3915e52d33f5ee664a66ab3530"), looks := false }, kinds := [], alts := [], laidByText := true, laidKinds := [.data], laidTests := true, laidLooks := .later }
def FnExactMulWideCardSaid : Prop := Claim7.holds Tryd.pinned (.plain (OpenSpec.ofChange fnExactMulWideSpec)) fnExactMulWideCard

/-- THE SECOND FORM's CARD OF 'laws.FnExactGoodPoint'. -/
def fnExactGoodPointUptoCard : Claim7 := { stood := { row := fnExactGoodPointUptoRow, standIns := [], harness := (true, "11e1c0292f2dff0a9d5f1bc7a77e6320ed47fb3915e52d33f5ee664a66ab3530"), looks := false }, kinds := [], alts := [], laidByText := true, laidKinds := [.data], laidTests := true, laidLooks := .later }
def FnExactGoodPointUptoCardSaid : Prop := Claim7.holds Tryd.pinned (.plain (OpenSpec.upto fnExactGoodPointSpec)) fnExactGoodPointUptoCard

/-- THE SECOND FORM's CARD OF 'laws.FnExactSideOf'. -/
def fnExactSideOfUptoCard : Claim7 := { stood := { row := fnExactSideOfUptoRow, standIns := [], harness := (true, "11e1c0292f2dff0a9d5f1bc7a77e6320ed47fb3915e52d33f5ee664a66ab3530"), looks := false }, kinds := [], alts := [], laidByText := true, laidKinds := [.data], laidTests := true, laidLooks := .later }
def FnExactSideOfUptoCardSaid : Prop := Claim7.holds Tryd.pinned (.plain (OpenSpec.upto fnExactSideOfSpec)) fnExactSideOfUptoCard

/-- THE SECOND FORM's CARD OF 'laws.FnExactDotSign'. -/
def fnExactDotSignUptoCard : Claim7 := { stood := { row := fnExactDotSignUptoRow, standIns := [], harness := (true, "11e1c0292f2dff0a9d5f1bc7a77e6320ed47fb3915e52d33f5ee664a66ab3530"), looks := false }, kinds := [], alts := [], laidByText := true, laidKinds := [.data], laidTests := true, laidLooks := .later }
def FnExactDotSignUptoCardSaid : Prop := Claim7.holds Tryd.pinned (.plain (OpenSpec.upto fnExactDotSignSpec)) fnExactDotSignUptoCard

/-- THE SECOND FORM's CARD OF 'laws.FnExactMulWide'. -/
def fnExactMulWideUptoCard : Claim7 := { stood := { row := fnExactMulWideUptoRow, standIns := [], harness := (true, "11e1c0292f2dff0a9d5f1bc7a77e6320ed47fb3915e52d33f5ee664a66ab3530"), looks := false }, kinds := [], alts := [], laidByText := true, laidKinds := [.data], laidTests := true, laidLooks := .later }
def FnExactMulWideUptoCardSaid : Prop := Claim7.holds Tryd.pinned (.plain (OpenSpec.upto fnExactMulWideSpec)) fnExactMulWideUptoCard
end Rows
end Go.Proofs.YtbmfiphfobbfcaoDoor
