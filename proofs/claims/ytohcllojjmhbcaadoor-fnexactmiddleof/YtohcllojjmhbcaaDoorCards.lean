/-
  DERIVED. GIVEN WITH THE SEED: THE CARDS: each row of YtohcllojjmhbcaaDoorRows.lean that lists a variable, with what it lists TIED to the program's text (the seventh form; the later family's looks); each row that meets fmt, with fmt's text TOLD by the authors' own Lean function (tested against real Go, not proved from fmt's source: count such statements apart). THE CARD IS WHAT COUNTS. Prove the row's statement (the work); the ties are given (YtohcllojjmhbcaaDoorTie.lean); close each card by the builder's one call (the guide's Derived/Test/ToyasCard.lean, 'card_holds'). Laid BY PROGRAM, IN A SANDBOX (cutbox-door.mjs). By AI agents, Wed Nov 11 2026. No macro, syntax, notation, axiom, sorry.
-/
import Derived.Test.YtohcllojjmhbcaaDoorRows
import GoSem.ClaimSeven
namespace Go.Proofs.YtohcllojjmhbcaaDoor
namespace Rows

/-- THE TIED CARD OF 'laws.FnAreas'. -/
def fnAreasCard : Claim7 := { stood := { row := fnAreasRow, standIns := [], harness := (true, "e6c030c277621f01edc0a2d8764ec6d24a133cb1190e9b878cdbe0f400236404"), looks := false }, kinds := [], alts := [], laidByText := true, laidKinds := [.data], laidTests := true, laidLooks := .later }
def FnAreasCardSaid : Prop := Claim7.holds Tryd.pinned (.plain (OpenSpec.ofChange fnAreasSpec)) fnAreasCard

/-- THE TIED CARD OF 'laws.FnExactTwiceArea'. -/
def fnExactTwiceAreaCard : Claim7 := { stood := { row := fnExactTwiceAreaRow, standIns := [], harness := (true, "e6c030c277621f01edc0a2d8764ec6d24a133cb1190e9b878cdbe0f400236404"), looks := false }, kinds := [], alts := [], laidByText := true, laidKinds := [.data], laidTests := true, laidLooks := .later }
def FnExactTwiceAreaCardSaid : Prop := Claim7.holds Tryd.pinned (.plain (OpenSpec.ofChange fnExactTwiceAreaSpec)) fnExactTwiceAreaCard

/-- THE TIED CARD OF 'laws.FnExactStepsOn'. -/
def fnExactStepsOnCard : Claim7 := { stood := { row := fnExactStepsOnRow, standIns := [], harness := (true, "e6c030c277621f01edc0a2d8764ec6d24a133cb1190e9b878cdbe0f400236404"), looks := false }, kinds := [], alts := [], laidByText := true, laidKinds := [.data], laidTests := true, laidLooks := .later }
def FnExactStepsOnCardSaid : Prop := Claim7.holds Tryd.pinned (.plain (OpenSpec.ofChange fnExactStepsOnSpec)) fnExactStepsOnCard

/-- THE TIED CARD OF 'laws.FnExactRimPoints'. -/
def fnExactRimPointsCard : Claim7 := { stood := { row := fnExactRimPointsRow, standIns := [], harness := (true, "e6c030c277621f01edc0a2d8764ec6d24a133cb1190e9b878cdbe0f400236404"), looks := false }, kinds := [], alts := [], laidByText := true, laidKinds := [.data], laidTests := true, laidLooks := .later }
def FnExactRimPointsCardSaid : Prop := Claim7.holds Tryd.pinned (.plain (OpenSpec.ofChange fnExactRimPointsSpec)) fnExactRimPointsCard

/-- THE TIED CARD OF 'laws.FnExactInnerPoints'. -/
def fnExactInnerPointsCard : Claim7 := { stood := { row := fnExactInnerPointsRow, standIns := [], harness := (true, "e6c030c277621f01edc0a2d8764ec6d24a133cb1190e9b878cdbe0f400236404"), looks := false }, kinds := [], alts := [], laidByText := true, laidKinds := [.data], laidTests := true, laidLooks := .later }
def FnExactInnerPointsCardSaid : Prop := Claim7.holds Tryd.pinned (.plain (OpenSpec.ofChange fnExactInnerPointsSpec)) fnExactInnerPointsCard

/-- THE TIED CARD OF 'laws.FnExactCountIn'. -/
def fnExactCountInCard : Claim7 := { stood := { row := fnExactCountInRow, standIns := [], harness := (true, "e6c030c277621f01edc0a2d8764ec6d24a133cb1190e9b878cdbe0f400236404"), looks := false }, kinds := [], alts := [], laidByText := true, laidKinds := [.data], laidTests := true, laidLooks := .later }
def FnExactCountInCardSaid : Prop := Claim7.holds Tryd.pinned (.plain (OpenSpec.ofChange fnExactCountInSpec)) fnExactCountInCard

/-- THE TIED CARD OF 'laws.FnExactBoxOf'. -/
def fnExactBoxOfCard : Claim7 := { stood := { row := fnExactBoxOfRow, standIns := [], harness := (true, "e6c030c277621f01edc0a2d8764ec6d24a133cb1190e9b878cdbe0f400236404"), looks := false }, kinds := [], alts := [], laidByText := true, laidKinds := [.data], laidTests := true, laidLooks := .later }
def FnExactBoxOfCardSaid : Prop := Claim7.holds Tryd.pinned (.plain (OpenSpec.ofChange fnExactBoxOfSpec)) fnExactBoxOfCard

/-- THE TIED CARD OF 'laws.FnExactMiddleOf'. -/
def fnExactMiddleOfCard : Claim7 := { stood := { row := fnExactMiddleOfRow, standIns := [], harness := (true, "e6c030c277621f01edc0a2d8764ec6d24a133cb1190e9b878cdbe0f400236404"), looks := false }, kinds := [], alts := [], laidByText := true, laidKinds := [.data], laidTests := true, laidLooks := .later }
def FnExactMiddleOfCardSaid : Prop := Claim7.holds Tryd.pinned (.plain (OpenSpec.ofChange fnExactMiddleOfSpec)) fnExactMiddleOfCard

/-- THE SECOND FORM's CARD OF 'laws.FnAreas'. -/
def fnAreasUptoCard : Claim7 := { stood := { row := fnAreasUptoRow, standIns := [], harness := (true, "e6c030c277621f01edc0a2d8764ec6d24a133cb1190e9b878cdbe0f400236404"), looks := false }, kinds := [], alts := [], laidByText := true, laidKinds := [.data], laidTests := true, laidLooks := .later }
def FnAreasUptoCardSaid : Prop := Claim7.holds Tryd.pinned (.plain (OpenSpec.upto fnAreasSpec)) fnAreasUptoCard

/-- THE SECOND FORM's CARD OF 'laws.FnExactTwiceArea'. -/
def fnExactTwiceAreaUptoCard : Claim7 := { stood := { row := fnExactTwiceAreaUptoRow, standIns := [], harness := (true, "e6c030c277621f01edc0a2d8764ec6d24a133cb1190e9b878cdbe0f400236404"), looks := false }, kinds := [], alts := [], laidByText := true, laidKinds := [.data], laidTests := true, laidLooks := .later }
def FnExactTwiceAreaUptoCardSaid : Prop := Claim7.holds Tryd.pinned (.plain (OpenSpec.upto fnExactTwiceAreaSpec)) fnExactTwiceAreaUptoCard

/-- THE SECOND FORM's CARD OF 'laws.FnExactStepsOn'. -/
def fnExactStepsOnUptoCard : Claim7 := { stood := { row := fnExactStepsOnUptoRow, standIns := [], harness := (true, "e6c030c277621f01edc0a2d8764ec6d24a133cb1190e9b878cdbe0f400236404"), looks := false }, kinds := [], alts := [], laidByText := true, laidKinds := [.data], laidTests := true, laidLooks := .later }
def FnExactStepsOnUptoCardSaid : Prop := Claim7.holds Tryd.pinned (.plain (OpenSpec.upto fnExactStepsOnSpec)) fnExactStepsOnUptoCard

/-- THE SECOND FORM's CARD OF 'laws.FnExactRimPoints'. -/
def fnExactRimPointsUptoCard : Claim7 := { stood := { row := fnExactRimPointsUptoRow, standIns := [], harness := (true, "e6c030c277621f01edc0a2d8764ec6d24a133cb1190e9b878cdbe0f400236404"), looks := false }, kinds := [], alts := [], laidByText := true, laidKinds := [.data], laidTests := true, laidLooks := .later }
def FnExactRimPointsUptoCardSaid : Prop := Claim7.holds Tryd.pinned (.plain (OpenSpec.upto fnExactRimPointsSpec)) fnExactRimPointsUptoCard

/-- THE SECOND FORM's CARD OF 'laws.FnExactInnerPoints'. -/
def fnExactInnerPointsUptoCard : Claim7 := { stood := { row := fnExactInnerPointsUptoRow, standIns := [], harness := (true, "e6c030c277621f01edc0a2d8764ec6d24a133cb1190e9b878cdbe0f400236404"), looks := false }, kinds := [], alts := [], laidByText := true, laidKinds := [.data], laidTests := true, laidLooks := .later }
def FnExactInnerPointsUptoCardSaid : Prop := Claim7.holds Tryd.pinned (.plain (OpenSpec.upto fnExactInnerPointsSpec)) fnExactInnerPointsUptoCard

/-- THE SECOND FORM's CARD OF 'laws.FnExactCountIn'. -/
def fnExactCountInUptoCard : Claim7 := { stood := { row := fnExactCountInUptoRow, standIns := [], harness := (true, "e6c030c277621f01edc0a2d8764ec6d24a133cb1190e9b878cdbe0f400236404"), looks := false }, kinds := [], alts := [], laidByText := true, laidKinds := [.data], laidTests := true, laidLooks := .later }
def FnExactCountInUptoCardSaid : Prop := Claim7.holds Tryd.pinned (.plain (OpenSpec.upto fnExactCountInSpec)) fnExactCountInUptoCard

/-- THE SECOND FORM's CARD OF 'laws.FnExactBoxOf'. -/
def fnExactBoxOfUptoCard : Claim7 := { stood := { row := fnExactBoxOfUptoRow, standIns := [], harness := (true, "e6c030c277621f01edc0a2d8764ec6d24a133cb1190e9b878cdbe0f400236404"), looks := false }, kinds := [], alts := [], laidByText := true, laidKinds := [.data], laidTests := true, laidLooks := .later }
def FnExactBoxOfUptoCardSaid : Prop := Claim7.holds Tryd.pinned (.plain (OpenSpec.upto fnExactBoxOfSpec)) fnExactBoxOfUptoCard

/-- THE SECOND FORM's CARD OF 'laws.FnExactMiddleOf'. -/
def fnExactMiddleOfUptoCard : Claim7 := { stood := { row := fnExactMiddleOfUptoRow, standIns := [], harness := (true, "e6c030c277621f01edc0a2d8764ec6d24a133cb1190e9b878cdbe0f400236404"), looks := false }, kinds := [], alts := [], laidByText := true, laidKinds := [.data], laidTests := true, laidLooks := .later }
def FnExactMiddleOfUptoCardSaid : Prop := Claim7.holds Tryd.pinned (.plain (OpenSpec.upto fnExactMiddleOfSpec)) fnExactMiddleOfUptoCard
end Rows
end Go.Proofs.YtohcllojjmhbcaaDoor
