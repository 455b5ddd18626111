/-
  DERIVED. GIVEN WITH THE SEED: THE CARDS: each row of YtegmlemejmahiaaDoorRows.lean that lists a variable, with what it lists TIED to the program's text (the seventh form; the later family's looks); each row that meets fmt, with fmt's text TOLD by the authors' own Lean function (tested against real Go, not proved from fmt's source: count such statements apart). THE CARD IS WHAT COUNTS. Prove the row's statement (the work); the ties are given (YtegmlemejmahiaaDoorTie.lean); close each card by the builder's one call (the guide's Derived/Test/ToyasCard.lean, 'card_holds'). Laid BY PROGRAM, IN A SANDBOX (cutbox-door.mjs). By AI agents, Wed Nov 11 2026. No macro, syntax, notation, axiom, sorry.
-/
import Derived.Test.YtegmlemejmahiaaDoorRows
import GoSem.ClaimSeven
namespace Go.Proofs.YtegmlemejmahiaaDoor
namespace Rows

/-- THE TIED CARD OF 'laws.FnExactExtremeOf'. -/
def fnExactExtremeOfCard : Claim7 := { stood := { row := fnExactExtremeOfRow, standIns := [], harness := (true, "d0b808c4320c34eaf8c05e8656be25ed09fbaa43641d11605c56923c9f592f09"), looks := false }, kinds := [], alts := [], laidByText := true, laidKinds := [.data], laidTests := true, laidLooks := .later }
def FnExactExtremeOfCardSaid : Prop := Claim7.holds Tryd.pinned (.plain (OpenSpec.ofChange fnExactExtremeOfSpec)) fnExactExtremeOfCard

/-- THE TIED CARD OF 'laws.FnExactSupportOf'. -/
def fnExactSupportOfCard : Claim7 := { stood := { row := fnExactSupportOfRow, standIns := [], harness := (true, "d0b808c4320c34eaf8c05e8656be25ed09fbaa43641d11605c56923c9f592f09"), looks := false }, kinds := [], alts := [], laidByText := true, laidKinds := [.data], laidTests := true, laidLooks := .later }
def FnExactSupportOfCardSaid : Prop := Claim7.holds Tryd.pinned (.plain (OpenSpec.ofChange fnExactSupportOfSpec)) fnExactSupportOfCard

/-- THE TIED CARD OF 'laws.FnExactTangentsFrom'. -/
def fnExactTangentsFromCard : Claim7 := { stood := { row := fnExactTangentsFromRow, standIns := [], harness := (true, "d0b808c4320c34eaf8c05e8656be25ed09fbaa43641d11605c56923c9f592f09"), looks := false }, kinds := [], alts := [], laidByText := true, laidKinds := [.data], laidTests := true, laidLooks := .later }
def FnExactTangentsFromCardSaid : Prop := Claim7.holds Tryd.pinned (.plain (OpenSpec.ofChange fnExactTangentsFromSpec)) fnExactTangentsFromCard

/-- THE TIED CARD OF 'laws.FnExactSeesFrom'. -/
def fnExactSeesFromCard : Claim7 := { stood := { row := fnExactSeesFromRow, standIns := [], harness := (true, "d0b808c4320c34eaf8c05e8656be25ed09fbaa43641d11605c56923c9f592f09"), looks := false }, kinds := [], alts := [], laidByText := true, laidKinds := [.data], laidTests := true, laidLooks := .later }
def FnExactSeesFromCardSaid : Prop := Claim7.holds Tryd.pinned (.plain (OpenSpec.ofChange fnExactSeesFromSpec)) fnExactSeesFromCard

/-- THE TIED CARD OF 'laws.FnExactPutOutside'. -/
def fnExactPutOutsideCard : Claim7 := { stood := { row := fnExactPutOutsideRow, standIns := [], harness := (true, "d0b808c4320c34eaf8c05e8656be25ed09fbaa43641d11605c56923c9f592f09"), looks := false }, kinds := [], alts := [], laidByText := true, laidKinds := [.data], laidTests := true, laidLooks := .later }
def FnExactPutOutsideCardSaid : Prop := Claim7.holds Tryd.pinned (.plain (OpenSpec.ofChange fnExactPutOutsideSpec)) fnExactPutOutsideCard

/-- THE TIED CARD OF 'laws.FnExactIsTangent'. -/
def fnExactIsTangentCard : Claim7 := { stood := { row := fnExactIsTangentRow, standIns := [], harness := (true, "d0b808c4320c34eaf8c05e8656be25ed09fbaa43641d11605c56923c9f592f09"), looks := false }, kinds := [], alts := [], laidByText := true, laidKinds := [.data], laidTests := true, laidLooks := .later }
def FnExactIsTangentCardSaid : Prop := Claim7.holds Tryd.pinned (.plain (OpenSpec.ofChange fnExactIsTangentSpec)) fnExactIsTangentCard

/-- THE TIED CARD OF 'laws.FnExtremes'. -/
def fnExtremesCard : Claim7 := { stood := { row := fnExtremesRow, standIns := [], harness := (true, "d0b808c4320c34eaf8c05e8656be25ed09fbaa43641d11605c56923c9f592f09"), looks := false }, kinds := [], alts := [], laidByText := true, laidKinds := [.data], laidTests := true, laidLooks := .later }
def FnExtremesCardSaid : Prop := Claim7.holds Tryd.pinned (.plain (OpenSpec.ofChange fnExtremesSpec)) fnExtremesCard

/-- THE SECOND FORM's CARD OF 'laws.FnExactExtremeOf'. -/
def fnExactExtremeOfUptoCard : Claim7 := { stood := { row := fnExactExtremeOfUptoRow, standIns := [], harness := (true, "d0b808c4320c34eaf8c05e8656be25ed09fbaa43641d11605c56923c9f592f09"), looks := false }, kinds := [], alts := [], laidByText := true, laidKinds := [.data], laidTests := true, laidLooks := .later }
def FnExactExtremeOfUptoCardSaid : Prop := Claim7.holds Tryd.pinned (.plain (OpenSpec.upto fnExactExtremeOfSpec)) fnExactExtremeOfUptoCard

/-- THE SECOND FORM's CARD OF 'laws.FnExactSupportOf'. -/
def fnExactSupportOfUptoCard : Claim7 := { stood := { row := fnExactSupportOfUptoRow, standIns := [], harness := (true, "d0b808c4320c34eaf8c05e8656be25ed09fbaa43641d11605c56923c9f592f09"), looks := false }, kinds := [], alts := [], laidByText := true, laidKinds := [.data], laidTests := true, laidLooks := .later }
def FnExactSupportOfUptoCardSaid : Prop := Claim7.holds Tryd.pinned (.plain (OpenSpec.upto fnExactSupportOfSpec)) fnExactSupportOfUptoCard

/-- THE SECOND FORM's CARD OF 'laws.FnExactTangentsFrom'. -/
def fnExactTangentsFromUptoCard : Claim7 := { stood := { row := fnExactTangentsFromUptoRow, standIns := [], harness := (true, "d0b808c4320c34eaf8c05e8656be25ed09fbaa43641d11605c56923c9f592f09"), looks := false }, kinds := [], alts := [], laidByText := true, laidKinds := [.data], laidTests := true, laidLooks := .later }
def FnExactTangentsFromUptoCardSaid : Prop := Claim7.holds Tryd.pinned (.plain (OpenSpec.upto fnExactTangentsFromSpec)) fnExactTangentsFromUptoCard

/-- THE SECOND FORM's CARD OF 'laws.FnExactSeesFrom'. -/
def fnExactSeesFromUptoCard : Claim7 := { stood := { row := fnExactSeesFromUptoRow, standIns := [], harness := (true, "d0b808c4320c34eaf8c05e8656be25ed09fbaa43641d11605c56923c9f592f09"), looks := false }, kinds := [], alts := [], laidByText := true, laidKinds := [.data], laidTests := true, laidLooks := .later }
def FnExactSeesFromUptoCardSaid : Prop := Claim7.holds Tryd.pinned (.plain (OpenSpec.upto fnExactSeesFromSpec)) fnExactSeesFromUptoCard

/-- THE SECOND FORM's CARD OF 'laws.FnExactPutOutside'. -/
def fnExactPutOutsideUptoCard : Claim7 := { stood := { row := fnExactPutOutsideUptoRow, standIns := [], harness := (true, "d0b808c4320c34eaf8c05e8656be25ed09fbaa43641d11605c56923c9f592f09"), looks := false }, kinds := [], alts := [], laidByText := true, laidKinds := [.data], laidTests := true, laidLooks := .later }
def FnExactPutOutsideUptoCardSaid : Prop := Claim7.holds Tryd.pinned (.plain (OpenSpec.upto fnExactPutOutsideSpec)) fnExactPutOutsideUptoCard

/-- THE SECOND FORM's CARD OF 'laws.FnExactIsTangent'. -/
def fnExactIsTangentUptoCard : Claim7 := { stood := { row := fnExactIsTangentUptoRow, standIns := [], harness := (true, "d0b808c4320c34eaf8c05e8656be25ed09fbaa43641d11605c56923c9f592f09"), looks := false }, kinds := [], alts := [], laidByText := true, laidKinds := [.data], laidTests := true, laidLooks := .later }
def FnExactIsTangentUptoCardSaid : Prop := Claim7.holds Tryd.pinned (.plain (OpenSpec.upto fnExactIsTangentSpec)) fnExactIsTangentUptoCard

/-- THE SECOND FORM's CARD OF 'laws.FnExtremes'. -/
def fnExtremesUptoCard : Claim7 := { stood := { row := fnExtremesUptoRow, standIns := [], harness := (true, "d0b808c4320c34eaf8c05e8656be25ed09fbaa43641d11605c56923c9f592f09"), looks := false }, kinds := [], alts := [], laidByText := true, laidKinds := [.data], laidTests := true, laidLooks := .later }
def FnExtremesUptoCardSaid : Prop := Claim7.holds Tryd.pinned (.plain (OpenSpec.upto fnExtremesSpec)) fnExtremesUptoCard
end Rows
end Go.Proofs.YtegmlemejmahiaaDoor
