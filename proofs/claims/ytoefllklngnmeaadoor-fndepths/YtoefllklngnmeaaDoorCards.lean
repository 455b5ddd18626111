/-
  DERIVED. GIVEN WITH THE SEED: THE CARDS: each row of YtoefllklngnmeaaDoorRows.lean that lists a variable, with what it lists TIED to the program's text (the seventh form; the later family's looks); each row that meets fmt, with fmt's text TOLD by the authors' own Lean function (tested against real Go, not proved from fmt's source: count such statements apart). THE CARD IS WHAT COUNTS. Prove the row's statement (the work); the ties are given (YtoefllklngnmeaaDoorTie.lean); close each card by the builder's one call (the guide's Derived/Test/ToyasCard.lean, 'card_holds'). Laid BY PROGRAM, IN A SANDBOX (cutbox-door.mjs). By AI agents, Wed Nov 11 2026. No macro, syntax, notation, axiom, sorry.
-/
import Derived.Test.YtoefllklngnmeaaDoorRows
import GoSem.ClaimSeven
namespace Go.Proofs.YtoefllklngnmeaaDoor
namespace Rows

/-- THE TIED CARD OF 'laws.FnExactDepthOf'. -/
def fnExactDepthOfCard : Claim7 := { stood := { row := fnExactDepthOfRow, standIns := [], harness := (true, "cbc8c776ee910703008dc6a02a09e685f59f859bc034730cb5c29bc44ebe8535"), looks := false }, kinds := [], alts := [], laidByText := true, laidKinds := [.data], laidTests := true, laidLooks := .later }
def FnExactDepthOfCardSaid : Prop := Claim7.holds Tryd.pinned (.plain (OpenSpec.ofChange fnExactDepthOfSpec)) fnExactDepthOfCard

/-- THE TIED CARD OF 'laws.FnExactLayersOf'. -/
def fnExactLayersOfCard : Claim7 := { stood := { row := fnExactLayersOfRow, standIns := [], harness := (true, "cbc8c776ee910703008dc6a02a09e685f59f859bc034730cb5c29bc44ebe8535"), looks := false }, kinds := [], alts := [], laidByText := true, laidKinds := [.data], laidTests := true, laidLooks := .later }
def FnExactLayersOfCardSaid : Prop := Claim7.holds Tryd.pinned (.plain (OpenSpec.ofChange fnExactLayersOfSpec)) fnExactLayersOfCard

/-- THE TIED CARD OF 'laws.FnExactLayerOf'. -/
def fnExactLayerOfCard : Claim7 := { stood := { row := fnExactLayerOfRow, standIns := [], harness := (true, "cbc8c776ee910703008dc6a02a09e685f59f859bc034730cb5c29bc44ebe8535"), looks := false }, kinds := [], alts := [], laidByText := true, laidKinds := [.data], laidTests := true, laidLooks := .later }
def FnExactLayerOfCardSaid : Prop := Claim7.holds Tryd.pinned (.plain (OpenSpec.ofChange fnExactLayerOfSpec)) fnExactLayerOfCard

/-- THE TIED CARD OF 'laws.FnExactWithoutHull'. -/
def fnExactWithoutHullCard : Claim7 := { stood := { row := fnExactWithoutHullRow, standIns := [], harness := (true, "cbc8c776ee910703008dc6a02a09e685f59f859bc034730cb5c29bc44ebe8535"), looks := false }, kinds := [], alts := [], laidByText := true, laidKinds := [.data], laidTests := true, laidLooks := .later }
def FnExactWithoutHullCardSaid : Prop := Claim7.holds Tryd.pinned (.plain (OpenSpec.ofChange fnExactWithoutHullSpec)) fnExactWithoutHullCard

/-- THE TIED CARD OF 'laws.FnExactManyLayers'. -/
def fnExactManyLayersCard : Claim7 := { stood := { row := fnExactManyLayersRow, standIns := [], harness := (true, "cbc8c776ee910703008dc6a02a09e685f59f859bc034730cb5c29bc44ebe8535"), looks := false }, kinds := [], alts := [], laidByText := true, laidKinds := [.data], laidTests := true, laidLooks := .later }
def FnExactManyLayersCardSaid : Prop := Claim7.holds Tryd.pinned (.plain (OpenSpec.ofChange fnExactManyLayersSpec)) fnExactManyLayersCard

/-- THE TIED CARD OF 'laws.FnExactPeelTo'. -/
def fnExactPeelToCard : Claim7 := { stood := { row := fnExactPeelToRow, standIns := [], harness := (true, "cbc8c776ee910703008dc6a02a09e685f59f859bc034730cb5c29bc44ebe8535"), looks := false }, kinds := [], alts := [], laidByText := true, laidKinds := [.data], laidTests := true, laidLooks := .later }
def FnExactPeelToCardSaid : Prop := Claim7.holds Tryd.pinned (.plain (OpenSpec.ofChange fnExactPeelToSpec)) fnExactPeelToCard

/-- THE TIED CARD OF 'laws.FnDepths'. -/
def fnDepthsCard : Claim7 := { stood := { row := fnDepthsRow, standIns := [], harness := (true, "cbc8c776ee910703008dc6a02a09e685f59f859bc034730cb5c29bc44ebe8535"), looks := false }, kinds := [], alts := [], laidByText := true, laidKinds := [.data], laidTests := true, laidLooks := .later }
def FnDepthsCardSaid : Prop := Claim7.holds Tryd.pinned (.plain (OpenSpec.ofChange fnDepthsSpec)) fnDepthsCard

/-- THE SECOND FORM's CARD OF 'laws.FnExactDepthOf'. -/
def fnExactDepthOfUptoCard : Claim7 := { stood := { row := fnExactDepthOfUptoRow, standIns := [], harness := (true, "cbc8c776ee910703008dc6a02a09e685f59f859bc034730cb5c29bc44ebe8535"), looks := false }, kinds := [], alts := [], laidByText := true, laidKinds := [.data], laidTests := true, laidLooks := .later }
def FnExactDepthOfUptoCardSaid : Prop := Claim7.holds Tryd.pinned (.plain (OpenSpec.upto fnExactDepthOfSpec)) fnExactDepthOfUptoCard

/-- THE SECOND FORM's CARD OF 'laws.FnExactLayersOf'. -/
def fnExactLayersOfUptoCard : Claim7 := { stood := { row := fnExactLayersOfUptoRow, standIns := [], harness := (true, "cbc8c776ee910703008dc6a02a09e685f59f859bc034730cb5c29bc44ebe8535"), looks := false }, kinds := [], alts := [], laidByText := true, laidKinds := [.data], laidTests := true, laidLooks := .later }
def FnExactLayersOfUptoCardSaid : Prop := Claim7.holds Tryd.pinned (.plain (OpenSpec.upto fnExactLayersOfSpec)) fnExactLayersOfUptoCard

/-- THE SECOND FORM's CARD OF 'laws.FnExactLayerOf'. -/
def fnExactLayerOfUptoCard : Claim7 := { stood := { row := fnExactLayerOfUptoRow, standIns := [], harness := (true, "cbc8c776ee910703008dc6a02a09e685f59f859bc034730cb5c29bc44ebe8535"), looks := false }, kinds := [], alts := [], laidByText := true, laidKinds := [.data], laidTests := true, laidLooks := .later }
def FnExactLayerOfUptoCardSaid : Prop := Claim7.holds Tryd.pinned (.plain (OpenSpec.upto fnExactLayerOfSpec)) fnExactLayerOfUptoCard

/-- THE SECOND FORM's CARD OF 'laws.FnExactWithoutHull'. -/
def fnExactWithoutHullUptoCard : Claim7 := { stood := { row := fnExactWithoutHullUptoRow, standIns := [], harness := (true, "cbc8c776ee910703008dc6a02a09e685f59f859bc034730cb5c29bc44ebe8535"), looks := false }, kinds := [], alts := [], laidByText := true, laidKinds := [.data], laidTests := true, laidLooks := .later }
def FnExactWithoutHullUptoCardSaid : Prop := Claim7.holds Tryd.pinned (.plain (OpenSpec.upto fnExactWithoutHullSpec)) fnExactWithoutHullUptoCard

/-- THE SECOND FORM's CARD OF 'laws.FnExactManyLayers'. -/
def fnExactManyLayersUptoCard : Claim7 := { stood := { row := fnExactManyLayersUptoRow, standIns := [], harness := (true, "cbc8c776ee910703008dc6a02a09e685f59f859bc034730cb5c29bc44ebe8535"), looks := false }, kinds := [], alts := [], laidByText := true, laidKinds := [.data], laidTests := true, laidLooks := .later }
def FnExactManyLayersUptoCardSaid : Prop := Claim7.holds Tryd.pinned (.plain (OpenSpec.upto fnExactManyLayersSpec)) fnExactManyLayersUptoCard

/-- THE SECOND FORM's CARD OF 'laws.FnExactPeelTo'. -/
def fnExactPeelToUptoCard : Claim7 := { stood := { row := fnExactPeelToUptoRow, standIns := [], harness := (true, "cbc8c776ee910703008dc6a02a09e685f59f859bc034730cb5c29bc44ebe8535"), looks := false }, kinds := [], alts := [], laidByText := true, laidKinds := [.data], laidTests := true, laidLooks := .later }
def FnExactPeelToUptoCardSaid : Prop := Claim7.holds Tryd.pinned (.plain (OpenSpec.upto fnExactPeelToSpec)) fnExactPeelToUptoCard

/-- THE SECOND FORM's CARD OF 'laws.FnDepths'. -/
def fnDepthsUptoCard : Claim7 := { stood := { row := fnDepthsUptoRow, standIns := [], harness := (true, "cbc8c776ee910703008dc6a02a09e685f59f859bc034730cb5c29bc44ebe8535"), looks := false }, kinds := [], alts := [], laidByText := true, laidKinds := [.data], laidTests := true, laidLooks := .later }
def FnDepthsUptoCardSaid : Prop := Claim7.holds Tryd.pinned (.plain (OpenSpec.upto fnDepthsSpec)) fnDepthsUptoCard
end Rows
end Go.Proofs.YtoefllklngnmeaaDoor
