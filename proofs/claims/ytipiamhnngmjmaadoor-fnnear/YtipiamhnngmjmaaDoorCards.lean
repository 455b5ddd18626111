/-
  DERIVED. GIVEN WITH THE SEED: THE CARDS: each row of YtipiamhnngmjmaaDoorRows.lean that lists a variable, with what it lists TIED to the program's text (the seventh form; the later family's looks); each row that meets fmt, with fmt's text TOLD by the authors' own Lean function (tested against real Go, not proved from fmt's source: count such statements apart). THE CARD IS WHAT COUNTS. Prove the row's statement (the work); the ties are given (YtipiamhnngmjmaaDoorTie.lean); close each card by the builder's one call (the guide's Derived/Test/ToyasCard.lean, 'card_holds'). Laid BY PROGRAM, IN A SANDBOX (cutbox-door.mjs). By AI agents, Wed Nov 11 2026. No macro, syntax, notation, axiom, sorry.
-/
import Derived.Test.YtipiamhnngmjmaaDoorRows
import GoSem.ClaimSeven
namespace Go.Proofs.YtipiamhnngmjmaaDoor
namespace Rows

/-- THE TIED CARD OF 'laws.FnExactApartOf'. -/
def fnExactApartOfCard : Claim7 := { stood := { row := fnExactApartOfRow, standIns := [], harness := (true, "d215290c48a88f27d742d0b9a5255638bc8acd2899f77dbc3396122668b9934a"), looks := false }, kinds := [], alts := [], laidByText := true, laidKinds := [.data], laidTests := true, laidLooks := .later }
def FnExactApartOfCardSaid : Prop := Claim7.holds Tryd.pinned (.plain (OpenSpec.ofChange fnExactApartOfSpec)) fnExactApartOfCard

/-- THE TIED CARD OF 'laws.FnExactNearestOf'. -/
def fnExactNearestOfCard : Claim7 := { stood := { row := fnExactNearestOfRow, standIns := [], harness := (true, "d215290c48a88f27d742d0b9a5255638bc8acd2899f77dbc3396122668b9934a"), looks := false }, kinds := [], alts := [], laidByText := true, laidKinds := [.data], laidTests := true, laidLooks := .later }
def FnExactNearestOfCardSaid : Prop := Claim7.holds Tryd.pinned (.plain (OpenSpec.ofChange fnExactNearestOfSpec)) fnExactNearestOfCard

/-- THE TIED CARD OF 'laws.FnExactNearestByHalves'. -/
def fnExactNearestByHalvesCard : Claim7 := { stood := { row := fnExactNearestByHalvesRow, standIns := [], harness := (true, "d215290c48a88f27d742d0b9a5255638bc8acd2899f77dbc3396122668b9934a"), looks := false }, kinds := [], alts := [], laidByText := true, laidKinds := [.data], laidTests := true, laidLooks := .later }
def FnExactNearestByHalvesCardSaid : Prop := Claim7.holds Tryd.pinned (.plain (OpenSpec.ofChange fnExactNearestByHalvesSpec)) fnExactNearestByHalvesCard

/-- THE TIED CARD OF 'laws.FnExactFarthestOf'. -/
def fnExactFarthestOfCard : Claim7 := { stood := { row := fnExactFarthestOfRow, standIns := [], harness := (true, "d215290c48a88f27d742d0b9a5255638bc8acd2899f77dbc3396122668b9934a"), looks := false }, kinds := [], alts := [], laidByText := true, laidKinds := [.data], laidTests := true, laidLooks := .later }
def FnExactFarthestOfCardSaid : Prop := Claim7.holds Tryd.pinned (.plain (OpenSpec.ofChange fnExactFarthestOfSpec)) fnExactFarthestOfCard

/-- THE TIED CARD OF 'laws.FnExactAcrossOf'. -/
def fnExactAcrossOfCard : Claim7 := { stood := { row := fnExactAcrossOfRow, standIns := [], harness := (true, "d215290c48a88f27d742d0b9a5255638bc8acd2899f77dbc3396122668b9934a"), looks := false }, kinds := [], alts := [], laidByText := true, laidKinds := [.data], laidTests := true, laidLooks := .later }
def FnExactAcrossOfCardSaid : Prop := Claim7.holds Tryd.pinned (.plain (OpenSpec.ofChange fnExactAcrossOfSpec)) fnExactAcrossOfCard

/-- THE TIED CARD OF 'laws.FnExactNextTo'. -/
def fnExactNextToCard : Claim7 := { stood := { row := fnExactNextToRow, standIns := [], harness := (true, "d215290c48a88f27d742d0b9a5255638bc8acd2899f77dbc3396122668b9934a"), looks := false }, kinds := [], alts := [], laidByText := true, laidKinds := [.data], laidTests := true, laidLooks := .later }
def FnExactNextToCardSaid : Prop := Claim7.holds Tryd.pinned (.plain (OpenSpec.ofChange fnExactNextToSpec)) fnExactNextToCard

/-- THE TIED CARD OF 'laws.FnExactWithinOf'. -/
def fnExactWithinOfCard : Claim7 := { stood := { row := fnExactWithinOfRow, standIns := [], harness := (true, "d215290c48a88f27d742d0b9a5255638bc8acd2899f77dbc3396122668b9934a"), looks := false }, kinds := [], alts := [], laidByText := true, laidKinds := [.data], laidTests := true, laidLooks := .later }
def FnExactWithinOfCardSaid : Prop := Claim7.holds Tryd.pinned (.plain (OpenSpec.ofChange fnExactWithinOfSpec)) fnExactWithinOfCard

/-- THE TIED CARD OF 'laws.FnNear'. -/
def fnNearCard : Claim7 := { stood := { row := fnNearRow, standIns := [], harness := (true, "d215290c48a88f27d742d0b9a5255638bc8acd2899f77dbc3396122668b9934a"), looks := false }, kinds := [], alts := [], laidByText := true, laidKinds := [.data], laidTests := true, laidLooks := .later }
def FnNearCardSaid : Prop := Claim7.holds Tryd.pinned (.plain (OpenSpec.ofChange fnNearSpec)) fnNearCard

/-- THE TIED CARD OF 'laws.FnNextTo'. -/
def fnNextToCard : Claim7 := { stood := { row := fnNextToRow, standIns := [], harness := (true, "d215290c48a88f27d742d0b9a5255638bc8acd2899f77dbc3396122668b9934a"), looks := false }, kinds := [], alts := [], laidByText := true, laidKinds := [.data], laidTests := true, laidLooks := .later }
def FnNextToCardSaid : Prop := Claim7.holds Tryd.pinned (.plain (OpenSpec.ofChange fnNextToSpec)) fnNextToCard

/-- THE SECOND FORM's CARD OF 'laws.FnExactApartOf'. -/
def fnExactApartOfUptoCard : Claim7 := { stood := { row := fnExactApartOfUptoRow, standIns := [], harness := (true, "d215290c48a88f27d742d0b9a5255638bc8acd2899f77dbc3396122668b9934a"), looks := false }, kinds := [], alts := [], laidByText := true, laidKinds := [.data], laidTests := true, laidLooks := .later }
def FnExactApartOfUptoCardSaid : Prop := Claim7.holds Tryd.pinned (.plain (OpenSpec.upto fnExactApartOfSpec)) fnExactApartOfUptoCard

/-- THE SECOND FORM's CARD OF 'laws.FnExactNearestOf'. -/
def fnExactNearestOfUptoCard : Claim7 := { stood := { row := fnExactNearestOfUptoRow, standIns := [], harness := (true, "d215290c48a88f27d742d0b9a5255638bc8acd2899f77dbc3396122668b9934a"), looks := false }, kinds := [], alts := [], laidByText := true, laidKinds := [.data], laidTests := true, laidLooks := .later }
def FnExactNearestOfUptoCardSaid : Prop := Claim7.holds Tryd.pinned (.plain (OpenSpec.upto fnExactNearestOfSpec)) fnExactNearestOfUptoCard

/-- THE SECOND FORM's CARD OF 'laws.FnExactNearestByHalves'. -/
def fnExactNearestByHalvesUptoCard : Claim7 := { stood := { row := fnExactNearestByHalvesUptoRow, standIns := [], harness := (true, "d215290c48a88f27d742d0b9a5255638bc8acd2899f77dbc3396122668b9934a"), looks := false }, kinds := [], alts := [], laidByText := true, laidKinds := [.data], laidTests := true, laidLooks := .later }
def FnExactNearestByHalvesUptoCardSaid : Prop := Claim7.holds Tryd.pinned (.plain (OpenSpec.upto fnExactNearestByHalvesSpec)) fnExactNearestByHalvesUptoCard

/-- THE SECOND FORM's CARD OF 'laws.FnExactFarthestOf'. -/
def fnExactFarthestOfUptoCard : Claim7 := { stood := { row := fnExactFarthestOfUptoRow, standIns := [], harness := (true, "d215290c48a88f27d742d0b9a5255638bc8acd2899f77dbc3396122668b9934a"), looks := false }, kinds := [], alts := [], laidByText := true, laidKinds := [.data], laidTests := true, laidLooks := .later }
def FnExactFarthestOfUptoCardSaid : Prop := Claim7.holds Tryd.pinned (.plain (OpenSpec.upto fnExactFarthestOfSpec)) fnExactFarthestOfUptoCard

/-- THE SECOND FORM's CARD OF 'laws.FnExactAcrossOf'. -/
def fnExactAcrossOfUptoCard : Claim7 := { stood := { row := fnExactAcrossOfUptoRow, standIns := [], harness := (true, "d215290c48a88f27d742d0b9a5255638bc8acd2899f77dbc3396122668b9934a"), looks := false }, kinds := [], alts := [], laidByText := true, laidKinds := [.data], laidTests := true, laidLooks := .later }
def FnExactAcrossOfUptoCardSaid : Prop := Claim7.holds Tryd.pinned (.plain (OpenSpec.upto fnExactAcrossOfSpec)) fnExactAcrossOfUptoCard

/-- THE SECOND FORM's CARD OF 'laws.FnExactNextTo'. -/
def fnExactNextToUptoCard : Claim7 := { stood := { row := fnExactNextToUptoRow, standIns := [], harness := (true, "d215290c48a88f27d742d0b9a5255638bc8acd2899f77dbc3396122668b9934a"), looks := false }, kinds := [], alts := [], laidByText := true, laidKinds := [.data], laidTests := true, laidLooks := .later }
def FnExactNextToUptoCardSaid : Prop := Claim7.holds Tryd.pinned (.plain (OpenSpec.upto fnExactNextToSpec)) fnExactNextToUptoCard

/-- THE SECOND FORM's CARD OF 'laws.FnExactWithinOf'. -/
def fnExactWithinOfUptoCard : Claim7 := { stood := { row := fnExactWithinOfUptoRow, standIns := [], harness := (true, "d215290c48a88f27d742d0b9a5255638bc8acd2899f77dbc3396122668b9934a"), looks := false }, kinds := [], alts := [], laidByText := true, laidKinds := [.data], laidTests := true, laidLooks := .later }
def FnExactWithinOfUptoCardSaid : Prop := Claim7.holds Tryd.pinned (.plain (OpenSpec.upto fnExactWithinOfSpec)) fnExactWithinOfUptoCard

/-- THE SECOND FORM's CARD OF 'laws.FnNear'. -/
def fnNearUptoCard : Claim7 := { stood := { row := fnNearUptoRow, standIns := [], harness := (true, "d215290c48a88f27d742d0b9a5255638bc8acd2899f77dbc3396122668b9934a"), looks := false }, kinds := [], alts := [], laidByText := true, laidKinds := [.data], laidTests := true, laidLooks := .later }
def FnNearUptoCardSaid : Prop := Claim7.holds Tryd.pinned (.plain (OpenSpec.upto fnNearSpec)) fnNearUptoCard

/-- THE SECOND FORM's CARD OF 'laws.FnNextTo'. -/
def fnNextToUptoCard : Claim7 := { stood := { row := fnNextToUptoRow, standIns := [], harness := (true, "d215290c48a88f27d742d0b9a5255638bc8acd2899f77dbc3396122668b9934a"), looks := false }, kinds := [], alts := [], laidByText := true, laidKinds := [.data], laidTests := true, laidLooks := .later }
def FnNextToUptoCardSaid : Prop := Claim7.holds Tryd.pinned (.plain (OpenSpec.upto fnNextToSpec)) fnNextToUptoCard
end Rows
end Go.Proofs.YtipiamhnngmjmaaDoor
