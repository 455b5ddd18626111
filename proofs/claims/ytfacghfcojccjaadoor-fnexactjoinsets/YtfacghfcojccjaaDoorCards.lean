/-
  DERIVED. GIVEN WITH THE SEED: THE CARDS: each row of YtfacghfcojccjaaDoorRows.lean that lists a variable, with what it lists TIED to the program's text (the seventh form; the later family's looks); each row that meets fmt, with fmt's text TOLD by the authors' own Lean function (tested against real Go, not proved from fmt's source: count such statements apart). THE CARD IS WHAT COUNTS. Prove the row's statement (the work); the ties are given (YtfacghfcojccjaaDoorTie.lean); close each card by the builder's one call (the guide's Derived/Test/ToyasCard.lean, 'card_holds'). Laid BY PROGRAM, IN A SANDBOX (cutbox-door.mjs). By AI agents, Wed Nov 11 2026. No macro, syntax, notation, axiom, sorry.
-/
import Derived.Test.YtfacghfcojccjaaDoorRows
import GoSem.ClaimSeven
namespace Go.Proofs.YtfacghfcojccjaaDoor
namespace Rows

/-- THE TIED CARD OF 'laws.FnExactGoodSet'. -/
def fnExactGoodSetCard : Claim7 := { stood := { row := fnExactGoodSetRow, standIns := [], harness := (true, "fc75672e83c7dbc7b80439324cca1bb5c5f75f793895bc3957be10fe40459e44"), looks := false }, kinds := [], alts := [], laidByText := true, laidKinds := [.data], laidTests := true, laidLooks := .later }
def FnExactGoodSetCardSaid : Prop := Claim7.holds Tryd.pinned (.plain (OpenSpec.ofChange fnExactGoodSetSpec)) fnExactGoodSetCard

/-- THE TIED CARD OF 'laws.FnExactSetFrom'. -/
def fnExactSetFromCard : Claim7 := { stood := { row := fnExactSetFromRow, standIns := [], harness := (true, "fc75672e83c7dbc7b80439324cca1bb5c5f75f793895bc3957be10fe40459e44"), looks := false }, kinds := [], alts := [], laidByText := true, laidKinds := [.data], laidTests := true, laidLooks := .later }
def FnExactSetFromCardSaid : Prop := Claim7.holds Tryd.pinned (.plain (OpenSpec.ofChange fnExactSetFromSpec)) fnExactSetFromCard

/-- THE TIED CARD OF 'laws.FnExactPutPoint'. -/
def fnExactPutPointCard : Claim7 := { stood := { row := fnExactPutPointRow, standIns := [], harness := (true, "fc75672e83c7dbc7b80439324cca1bb5c5f75f793895bc3957be10fe40459e44"), looks := false }, kinds := [], alts := [], laidByText := true, laidKinds := [.data], laidTests := true, laidLooks := .later }
def FnExactPutPointCardSaid : Prop := Claim7.holds Tryd.pinned (.plain (OpenSpec.ofChange fnExactPutPointSpec)) fnExactPutPointCard

/-- THE TIED CARD OF 'laws.FnExactDropPoint'. -/
def fnExactDropPointCard : Claim7 := { stood := { row := fnExactDropPointRow, standIns := [], harness := (true, "fc75672e83c7dbc7b80439324cca1bb5c5f75f793895bc3957be10fe40459e44"), looks := false }, kinds := [], alts := [], laidByText := true, laidKinds := [.data], laidTests := true, laidLooks := .later }
def FnExactDropPointCardSaid : Prop := Claim7.holds Tryd.pinned (.plain (OpenSpec.ofChange fnExactDropPointSpec)) fnExactDropPointCard

/-- THE TIED CARD OF 'laws.FnExactPlaceOf'. -/
def fnExactPlaceOfCard : Claim7 := { stood := { row := fnExactPlaceOfRow, standIns := [], harness := (true, "fc75672e83c7dbc7b80439324cca1bb5c5f75f793895bc3957be10fe40459e44"), looks := false }, kinds := [], alts := [], laidByText := true, laidKinds := [.data], laidTests := true, laidLooks := .later }
def FnExactPlaceOfCardSaid : Prop := Claim7.holds Tryd.pinned (.plain (OpenSpec.ofChange fnExactPlaceOfSpec)) fnExactPlaceOfCard

/-- THE TIED CARD OF 'laws.FnExactJoinSets'. -/
def fnExactJoinSetsCard : Claim7 := { stood := { row := fnExactJoinSetsRow, standIns := [], harness := (true, "fc75672e83c7dbc7b80439324cca1bb5c5f75f793895bc3957be10fe40459e44"), looks := false }, kinds := [], alts := [], laidByText := true, laidKinds := [.data], laidTests := true, laidLooks := .later }
def FnExactJoinSetsCardSaid : Prop := Claim7.holds Tryd.pinned (.plain (OpenSpec.ofChange fnExactJoinSetsSpec)) fnExactJoinSetsCard

/-- THE TIED CARD OF 'laws.FnExactMoveSet'. -/
def fnExactMoveSetCard : Claim7 := { stood := { row := fnExactMoveSetRow, standIns := [], harness := (true, "fc75672e83c7dbc7b80439324cca1bb5c5f75f793895bc3957be10fe40459e44"), looks := false }, kinds := [], alts := [], laidByText := true, laidKinds := [.data], laidTests := true, laidLooks := .later }
def FnExactMoveSetCardSaid : Prop := Claim7.holds Tryd.pinned (.plain (OpenSpec.ofChange fnExactMoveSetSpec)) fnExactMoveSetCard

/-- THE TIED CARD OF 'laws.FnExactTurnSet'. -/
def fnExactTurnSetCard : Claim7 := { stood := { row := fnExactTurnSetRow, standIns := [], harness := (true, "fc75672e83c7dbc7b80439324cca1bb5c5f75f793895bc3957be10fe40459e44"), looks := false }, kinds := [], alts := [], laidByText := true, laidKinds := [.data], laidTests := true, laidLooks := .later }
def FnExactTurnSetCardSaid : Prop := Claim7.holds Tryd.pinned (.plain (OpenSpec.ofChange fnExactTurnSetSpec)) fnExactTurnSetCard

/-- THE SECOND FORM's CARD OF 'laws.FnExactGoodSet'. -/
def fnExactGoodSetUptoCard : Claim7 := { stood := { row := fnExactGoodSetUptoRow, standIns := [], harness := (true, "fc75672e83c7dbc7b80439324cca1bb5c5f75f793895bc3957be10fe40459e44"), looks := false }, kinds := [], alts := [], laidByText := true, laidKinds := [.data], laidTests := true, laidLooks := .later }
def FnExactGoodSetUptoCardSaid : Prop := Claim7.holds Tryd.pinned (.plain (OpenSpec.upto fnExactGoodSetSpec)) fnExactGoodSetUptoCard

/-- THE SECOND FORM's CARD OF 'laws.FnExactSetFrom'. -/
def fnExactSetFromUptoCard : Claim7 := { stood := { row := fnExactSetFromUptoRow, standIns := [], harness := (true, "fc75672e83c7dbc7b80439324cca1bb5c5f75f793895bc3957be10fe40459e44"), looks := false }, kinds := [], alts := [], laidByText := true, laidKinds := [.data], laidTests := true, laidLooks := .later }
def FnExactSetFromUptoCardSaid : Prop := Claim7.holds Tryd.pinned (.plain (OpenSpec.upto fnExactSetFromSpec)) fnExactSetFromUptoCard

/-- THE SECOND FORM's CARD OF 'laws.FnExactPutPoint'. -/
def fnExactPutPointUptoCard : Claim7 := { stood := { row := fnExactPutPointUptoRow, standIns := [], harness := (true, "fc75672e83c7dbc7b80439324cca1bb5c5f75f793895bc3957be10fe40459e44"), looks := false }, kinds := [], alts := [], laidByText := true, laidKinds := [.data], laidTests := true, laidLooks := .later }
def FnExactPutPointUptoCardSaid : Prop := Claim7.holds Tryd.pinned (.plain (OpenSpec.upto fnExactPutPointSpec)) fnExactPutPointUptoCard

/-- THE SECOND FORM's CARD OF 'laws.FnExactDropPoint'. -/
def fnExactDropPointUptoCard : Claim7 := { stood := { row := fnExactDropPointUptoRow, standIns := [], harness := (true, "fc75672e83c7dbc7b80439324cca1bb5c5f75f793895bc3957be10fe40459e44"), looks := false }, kinds := [], alts := [], laidByText := true, laidKinds := [.data], laidTests := true, laidLooks := .later }
def FnExactDropPointUptoCardSaid : Prop := Claim7.holds Tryd.pinned (.plain (OpenSpec.upto fnExactDropPointSpec)) fnExactDropPointUptoCard

/-- THE SECOND FORM's CARD OF 'laws.FnExactPlaceOf'. -/
def fnExactPlaceOfUptoCard : Claim7 := { stood := { row := fnExactPlaceOfUptoRow, standIns := [], harness := (true, "fc75672e83c7dbc7b80439324cca1bb5c5f75f793895bc3957be10fe40459e44"), looks := false }, kinds := [], alts := [], laidByText := true, laidKinds := [.data], laidTests := true, laidLooks := .later }
def FnExactPlaceOfUptoCardSaid : Prop := Claim7.holds Tryd.pinned (.plain (OpenSpec.upto fnExactPlaceOfSpec)) fnExactPlaceOfUptoCard

/-- THE SECOND FORM's CARD OF 'laws.FnExactJoinSets'. -/
def fnExactJoinSetsUptoCard : Claim7 := { stood := { row := fnExactJoinSetsUptoRow, standIns := [], harness := (true, "fc75672e83c7dbc7b80439324cca1bb5c5f75f793895bc3957be10fe40459e44"), looks := false }, kinds := [], alts := [], laidByText := true, laidKinds := [.data], laidTests := true, laidLooks := .later }
def FnExactJoinSetsUptoCardSaid : Prop := Claim7.holds Tryd.pinned (.plain (OpenSpec.upto fnExactJoinSetsSpec)) fnExactJoinSetsUptoCard

/-- THE SECOND FORM's CARD OF 'laws.FnExactMoveSet'. -/
def fnExactMoveSetUptoCard : Claim7 := { stood := { row := fnExactMoveSetUptoRow, standIns := [], harness := (true, "fc75672e83c7dbc7b80439324cca1bb5c5f75f793895bc3957be10fe40459e44"), looks := false }, kinds := [], alts := [], laidByText := true, laidKinds := [.data], laidTests := true, laidLooks := .later }
def FnExactMoveSetUptoCardSaid : Prop := Claim7.holds Tryd.pinned (.plain (OpenSpec.upto fnExactMoveSetSpec)) fnExactMoveSetUptoCard

/-- THE SECOND FORM's CARD OF 'laws.FnExactTurnSet'. -/
def fnExactTurnSetUptoCard : Claim7 := { stood := { row := fnExactTurnSetUptoRow, standIns := [], harness := (true, "fc75672e83c7dbc7b80439324cca1bb5c5f75f793895bc3957be10fe40459e44"), looks := false }, kinds := [], alts := [], laidByText := true, laidKinds := [.data], laidTests := true, laidLooks := .later }
def FnExactTurnSetUptoCardSaid : Prop := Claim7.holds Tryd.pinned (.plain (OpenSpec.upto fnExactTurnSetSpec)) fnExactTurnSetUptoCard
end Rows
end Go.Proofs.YtfacghfcojccjaaDoor
