/-
  DERIVED. GIVEN WITH THE SEED: THE CARDS: each row of YtcghpepkphphbaaDoorRows.lean that lists a variable, with what it lists TIED to the program's text (the seventh form; the later family's looks); each row that meets fmt, with fmt's text TOLD by the authors' own Lean function (tested against real Go, not proved from fmt's source: count such statements apart). THE CARD IS WHAT COUNTS. Prove the row's statement (the work); the ties are given (YtcghpepkphphbaaDoorTie.lean); close each card by the builder's one call (the guide's Derived/Test/ToyasCard.lean, 'card_holds'). Laid BY PROGRAM, IN A SANDBOX (cutbox-door.mjs). By AI agents, Wed Nov 11 2026. No macro, syntax, notation, axiom, sorry.
-/
import Derived.Test.YtcghpepkphphbaaDoorRows
import GoSem.ClaimSeven
namespace Go.Proofs.YtcghpepkphphbaaDoor
namespace Rows

/-- THE TIED CARD OF 'laws.FnExactOnSegment'. -/
def fnExactOnSegmentCard : Claim7 := { stood := { row := fnExactOnSegmentRow, standIns := [], harness := (true, "e009cc20b4e88157c4ac1a47555c356770085f2931494c236a4ab8b179d97d97"), looks := false }, kinds := [], alts := [], laidByText := true, laidKinds := [.data], laidTests := true, laidLooks := .later }
def FnExactOnSegmentCardSaid : Prop := Claim7.holds Tryd.pinned (.plain (OpenSpec.ofChange fnExactOnSegmentSpec)) fnExactOnSegmentCard

/-- THE TIED CARD OF 'laws.FnExactInTriangle'. -/
def fnExactInTriangleCard : Claim7 := { stood := { row := fnExactInTriangleRow, standIns := [], harness := (true, "e009cc20b4e88157c4ac1a47555c356770085f2931494c236a4ab8b179d97d97"), looks := false }, kinds := [], alts := [], laidByText := true, laidKinds := [.data], laidTests := true, laidLooks := .later }
def FnExactInTriangleCardSaid : Prop := Claim7.holds Tryd.pinned (.plain (OpenSpec.ofChange fnExactInTriangleSpec)) fnExactInTriangleCard

/-- THE TIED CARD OF 'laws.FnExactWhereIs'. -/
def fnExactWhereIsCard : Claim7 := { stood := { row := fnExactWhereIsRow, standIns := [], harness := (true, "e009cc20b4e88157c4ac1a47555c356770085f2931494c236a4ab8b179d97d97"), looks := false }, kinds := [], alts := [], laidByText := true, laidKinds := [.data], laidTests := true, laidLooks := .later }
def FnExactWhereIsCardSaid : Prop := Claim7.holds Tryd.pinned (.plain (OpenSpec.ofChange fnExactWhereIsSpec)) fnExactWhereIsCard

/-- THE TIED CARD OF 'laws.FnExactRimAt'. -/
def fnExactRimAtCard : Claim7 := { stood := { row := fnExactRimAtRow, standIns := [], harness := (true, "e009cc20b4e88157c4ac1a47555c356770085f2931494c236a4ab8b179d97d97"), looks := false }, kinds := [], alts := [], laidByText := true, laidKinds := [.data], laidTests := true, laidLooks := .later }
def FnExactRimAtCardSaid : Prop := Claim7.holds Tryd.pinned (.plain (OpenSpec.ofChange fnExactRimAtSpec)) fnExactRimAtCard

/-- THE TIED CARD OF 'laws.FnExactInsideOf'. -/
def fnExactInsideOfCard : Claim7 := { stood := { row := fnExactInsideOfRow, standIns := [], harness := (true, "e009cc20b4e88157c4ac1a47555c356770085f2931494c236a4ab8b179d97d97"), looks := false }, kinds := [], alts := [], laidByText := true, laidKinds := [.data], laidTests := true, laidLooks := .later }
def FnExactInsideOfCardSaid : Prop := Claim7.holds Tryd.pinned (.plain (OpenSpec.ofChange fnExactInsideOfSpec)) fnExactInsideOfCard

/-- THE TIED CARD OF 'laws.FnExactCovers'. -/
def fnExactCoversCard : Claim7 := { stood := { row := fnExactCoversRow, standIns := [], harness := (true, "e009cc20b4e88157c4ac1a47555c356770085f2931494c236a4ab8b179d97d97"), looks := false }, kinds := [], alts := [], laidByText := true, laidKinds := [.data], laidTests := true, laidLooks := .later }
def FnExactCoversCardSaid : Prop := Claim7.holds Tryd.pinned (.plain (OpenSpec.ofChange fnExactCoversSpec)) fnExactCoversCard

/-- THE TIED CARD OF 'laws.FnExactFanOf'. -/
def fnExactFanOfCard : Claim7 := { stood := { row := fnExactFanOfRow, standIns := [], harness := (true, "e009cc20b4e88157c4ac1a47555c356770085f2931494c236a4ab8b179d97d97"), looks := false }, kinds := [], alts := [], laidByText := true, laidKinds := [.data], laidTests := true, laidLooks := .later }
def FnExactFanOfCardSaid : Prop := Claim7.holds Tryd.pinned (.plain (OpenSpec.ofChange fnExactFanOfSpec)) fnExactFanOfCard

/-- THE TIED CARD OF 'laws.FnWhere'. -/
def fnWhereCard : Claim7 := { stood := { row := fnWhereRow, standIns := [], harness := (true, "e009cc20b4e88157c4ac1a47555c356770085f2931494c236a4ab8b179d97d97"), looks := false }, kinds := [], alts := [], laidByText := true, laidKinds := [.data], laidTests := true, laidLooks := .later }
def FnWhereCardSaid : Prop := Claim7.holds Tryd.pinned (.plain (OpenSpec.ofChange fnWhereSpec)) fnWhereCard

/-- THE SECOND FORM's CARD OF 'laws.FnExactOnSegment'. -/
def fnExactOnSegmentUptoCard : Claim7 := { stood := { row := fnExactOnSegmentUptoRow, standIns := [], harness := (true, "e009cc20b4e88157c4ac1a47555c356770085f2931494c236a4ab8b179d97d97"), looks := false }, kinds := [], alts := [], laidByText := true, laidKinds := [.data], laidTests := true, laidLooks := .later }
def FnExactOnSegmentUptoCardSaid : Prop := Claim7.holds Tryd.pinned (.plain (OpenSpec.upto fnExactOnSegmentSpec)) fnExactOnSegmentUptoCard

/-- THE SECOND FORM's CARD OF 'laws.FnExactInTriangle'. -/
def fnExactInTriangleUptoCard : Claim7 := { stood := { row := fnExactInTriangleUptoRow, standIns := [], harness := (true, "e009cc20b4e88157c4ac1a47555c356770085f2931494c236a4ab8b179d97d97"), looks := false }, kinds := [], alts := [], laidByText := true, laidKinds := [.data], laidTests := true, laidLooks := .later }
def FnExactInTriangleUptoCardSaid : Prop := Claim7.holds Tryd.pinned (.plain (OpenSpec.upto fnExactInTriangleSpec)) fnExactInTriangleUptoCard

/-- THE SECOND FORM's CARD OF 'laws.FnExactWhereIs'. -/
def fnExactWhereIsUptoCard : Claim7 := { stood := { row := fnExactWhereIsUptoRow, standIns := [], harness := (true, "e009cc20b4e88157c4ac1a47555c356770085f2931494c236a4ab8b179d97d97"), looks := false }, kinds := [], alts := [], laidByText := true, laidKinds := [.data], laidTests := true, laidLooks := .later }
def FnExactWhereIsUptoCardSaid : Prop := Claim7.holds Tryd.pinned (.plain (OpenSpec.upto fnExactWhereIsSpec)) fnExactWhereIsUptoCard

/-- THE SECOND FORM's CARD OF 'laws.FnExactRimAt'. -/
def fnExactRimAtUptoCard : Claim7 := { stood := { row := fnExactRimAtUptoRow, standIns := [], harness := (true, "e009cc20b4e88157c4ac1a47555c356770085f2931494c236a4ab8b179d97d97"), looks := false }, kinds := [], alts := [], laidByText := true, laidKinds := [.data], laidTests := true, laidLooks := .later }
def FnExactRimAtUptoCardSaid : Prop := Claim7.holds Tryd.pinned (.plain (OpenSpec.upto fnExactRimAtSpec)) fnExactRimAtUptoCard

/-- THE SECOND FORM's CARD OF 'laws.FnExactInsideOf'. -/
def fnExactInsideOfUptoCard : Claim7 := { stood := { row := fnExactInsideOfUptoRow, standIns := [], harness := (true, "e009cc20b4e88157c4ac1a47555c356770085f2931494c236a4ab8b179d97d97"), looks := false }, kinds := [], alts := [], laidByText := true, laidKinds := [.data], laidTests := true, laidLooks := .later }
def FnExactInsideOfUptoCardSaid : Prop := Claim7.holds Tryd.pinned (.plain (OpenSpec.upto fnExactInsideOfSpec)) fnExactInsideOfUptoCard

/-- THE SECOND FORM's CARD OF 'laws.FnExactCovers'. -/
def fnExactCoversUptoCard : Claim7 := { stood := { row := fnExactCoversUptoRow, standIns := [], harness := (true, "e009cc20b4e88157c4ac1a47555c356770085f2931494c236a4ab8b179d97d97"), looks := false }, kinds := [], alts := [], laidByText := true, laidKinds := [.data], laidTests := true, laidLooks := .later }
def FnExactCoversUptoCardSaid : Prop := Claim7.holds Tryd.pinned (.plain (OpenSpec.upto fnExactCoversSpec)) fnExactCoversUptoCard

/-- THE SECOND FORM's CARD OF 'laws.FnExactFanOf'. -/
def fnExactFanOfUptoCard : Claim7 := { stood := { row := fnExactFanOfUptoRow, standIns := [], harness := (true, "e009cc20b4e88157c4ac1a47555c356770085f2931494c236a4ab8b179d97d97"), looks := false }, kinds := [], alts := [], laidByText := true, laidKinds := [.data], laidTests := true, laidLooks := .later }
def FnExactFanOfUptoCardSaid : Prop := Claim7.holds Tryd.pinned (.plain (OpenSpec.upto fnExactFanOfSpec)) fnExactFanOfUptoCard

/-- THE SECOND FORM's CARD OF 'laws.FnWhere'. -/
def fnWhereUptoCard : Claim7 := { stood := { row := fnWhereUptoRow, standIns := [], harness := (true, "e009cc20b4e88157c4ac1a47555c356770085f2931494c236a4ab8b179d97d97"), looks := false }, kinds := [], alts := [], laidByText := true, laidKinds := [.data], laidTests := true, laidLooks := .later }
def FnWhereUptoCardSaid : Prop := Claim7.holds Tryd.pinned (.plain (OpenSpec.upto fnWhereSpec)) fnWhereUptoCard
end Rows
end Go.Proofs.YtcghpepkphphbaaDoor
