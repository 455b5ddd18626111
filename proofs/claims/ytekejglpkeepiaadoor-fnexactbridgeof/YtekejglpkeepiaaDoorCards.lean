/-
  DERIVED. GIVEN WITH THE SEED: THE CARDS: each row of YtekejglpkeepiaaDoorRows.lean that lists a variable, with what it lists TIED to the program's text (the seventh form; the later family's looks); each row that meets fmt, with fmt's text TOLD by the authors' own Lean function (tested against real Go, not proved from fmt's source: count such statements apart). THE CARD IS WHAT COUNTS. Prove the row's statement (the work); the ties are given (YtekejglpkeepiaaDoorTie.lean); close each card by the builder's one call (the guide's Derived/Test/ToyasCard.lean, 'card_holds'). Laid BY PROGRAM, IN A SANDBOX (cutbox-door.mjs). By AI agents, Wed Nov 11 2026. No macro, syntax, notation, axiom, sorry.
-/
import Derived.Test.YtekejglpkeepiaaDoorRows
import GoSem.ClaimSeven
namespace Go.Proofs.YtekejglpkeepiaaDoor
namespace Rows

/-- THE TIED CARD OF 'laws.FnBridges'. -/
def fnBridgesCard : Claim7 := { stood := { row := fnBridgesRow, standIns := [], harness := (true, "157fdfe9d4454d62717c24309fb643f68d35832b54b9c40a37450cdfe35af01b"), looks := false }, kinds := [], alts := [], laidByText := true, laidKinds := [.data], laidTests := true, laidLooks := .later }
def FnBridgesCardSaid : Prop := Claim7.holds Tryd.pinned (.plain (OpenSpec.ofChange fnBridgesSpec)) fnBridgesCard

/-- THE TIED CARD OF 'laws.FnTrees'. -/
def fnTreesCard : Claim7 := { stood := { row := fnTreesRow, standIns := [], harness := (true, "157fdfe9d4454d62717c24309fb643f68d35832b54b9c40a37450cdfe35af01b"), looks := false }, kinds := [], alts := [], laidByText := true, laidKinds := [.data], laidTests := true, laidLooks := .later }
def FnTreesCardSaid : Prop := Claim7.holds Tryd.pinned (.plain (OpenSpec.ofChange fnTreesSpec)) fnTreesCard

/-- THE TIED CARD OF 'laws.FnExactBridgeOf'. -/
def fnExactBridgeOfCard : Claim7 := { stood := { row := fnExactBridgeOfRow, standIns := [], harness := (true, "157fdfe9d4454d62717c24309fb643f68d35832b54b9c40a37450cdfe35af01b"), looks := false }, kinds := [], alts := [], laidByText := true, laidKinds := [.data], laidTests := true, laidLooks := .later }
def FnExactBridgeOfCardSaid : Prop := Claim7.holds Tryd.pinned (.plain (OpenSpec.ofChange fnExactBridgeOfSpec)) fnExactBridgeOfCard

/-- THE TIED CARD OF 'laws.FnExactIsBridge'. -/
def fnExactIsBridgeCard : Claim7 := { stood := { row := fnExactIsBridgeRow, standIns := [], harness := (true, "157fdfe9d4454d62717c24309fb643f68d35832b54b9c40a37450cdfe35af01b"), looks := false }, kinds := [], alts := [], laidByText := true, laidKinds := [.data], laidTests := true, laidLooks := .later }
def FnExactIsBridgeCardSaid : Prop := Claim7.holds Tryd.pinned (.plain (OpenSpec.ofChange fnExactIsBridgeSpec)) fnExactIsBridgeCard

/-- THE TIED CARD OF 'laws.FnExactMergeLower'. -/
def fnExactMergeLowerCard : Claim7 := { stood := { row := fnExactMergeLowerRow, standIns := [], harness := (true, "157fdfe9d4454d62717c24309fb643f68d35832b54b9c40a37450cdfe35af01b"), looks := false }, kinds := [], alts := [], laidByText := true, laidKinds := [.data], laidTests := true, laidLooks := .later }
def FnExactMergeLowerCardSaid : Prop := Claim7.holds Tryd.pinned (.plain (OpenSpec.ofChange fnExactMergeLowerSpec)) fnExactMergeLowerCard

/-- THE TIED CARD OF 'laws.FnExactBuildTree'. -/
def fnExactBuildTreeCard : Claim7 := { stood := { row := fnExactBuildTreeRow, standIns := [], harness := (true, "157fdfe9d4454d62717c24309fb643f68d35832b54b9c40a37450cdfe35af01b"), looks := false }, kinds := [], alts := [], laidByText := true, laidKinds := [.data], laidTests := true, laidLooks := .later }
def FnExactBuildTreeCardSaid : Prop := Claim7.holds Tryd.pinned (.plain (OpenSpec.ofChange fnExactBuildTreeSpec)) fnExactBuildTreeCard

/-- THE TIED CARD OF 'laws.FnExactGoodTree'. -/
def fnExactGoodTreeCard : Claim7 := { stood := { row := fnExactGoodTreeRow, standIns := [], harness := (true, "157fdfe9d4454d62717c24309fb643f68d35832b54b9c40a37450cdfe35af01b"), looks := false }, kinds := [], alts := [], laidByText := true, laidKinds := [.data], laidTests := true, laidLooks := .later }
def FnExactGoodTreeCardSaid : Prop := Claim7.holds Tryd.pinned (.plain (OpenSpec.ofChange fnExactGoodTreeSpec)) fnExactGoodTreeCard

/-- THE TIED CARD OF 'laws.FnExactLowerAt'. -/
def fnExactLowerAtCard : Claim7 := { stood := { row := fnExactLowerAtRow, standIns := [], harness := (true, "157fdfe9d4454d62717c24309fb643f68d35832b54b9c40a37450cdfe35af01b"), looks := false }, kinds := [], alts := [], laidByText := true, laidKinds := [.data], laidTests := true, laidLooks := .later }
def FnExactLowerAtCardSaid : Prop := Claim7.holds Tryd.pinned (.plain (OpenSpec.ofChange fnExactLowerAtSpec)) fnExactLowerAtCard

/-- THE TIED CARD OF 'laws.FnExactPathTo'. -/
def fnExactPathToCard : Claim7 := { stood := { row := fnExactPathToRow, standIns := [], harness := (true, "157fdfe9d4454d62717c24309fb643f68d35832b54b9c40a37450cdfe35af01b"), looks := false }, kinds := [], alts := [], laidByText := true, laidKinds := [.data], laidTests := true, laidLooks := .later }
def FnExactPathToCardSaid : Prop := Claim7.holds Tryd.pinned (.plain (OpenSpec.ofChange fnExactPathToSpec)) fnExactPathToCard

/-- THE TIED CARD OF 'laws.FnExactRebuildWith'. -/
def fnExactRebuildWithCard : Claim7 := { stood := { row := fnExactRebuildWithRow, standIns := [], harness := (true, "157fdfe9d4454d62717c24309fb643f68d35832b54b9c40a37450cdfe35af01b"), looks := false }, kinds := [], alts := [], laidByText := true, laidKinds := [.data], laidTests := true, laidLooks := .later }
def FnExactRebuildWithCardSaid : Prop := Claim7.holds Tryd.pinned (.plain (OpenSpec.ofChange fnExactRebuildWithSpec)) fnExactRebuildWithCard

/-- THE SECOND FORM's CARD OF 'laws.FnBridges'. -/
def fnBridgesUptoCard : Claim7 := { stood := { row := fnBridgesUptoRow, standIns := [], harness := (true, "157fdfe9d4454d62717c24309fb643f68d35832b54b9c40a37450cdfe35af01b"), looks := false }, kinds := [], alts := [], laidByText := true, laidKinds := [.data], laidTests := true, laidLooks := .later }
def FnBridgesUptoCardSaid : Prop := Claim7.holds Tryd.pinned (.plain (OpenSpec.upto fnBridgesSpec)) fnBridgesUptoCard

/-- THE SECOND FORM's CARD OF 'laws.FnTrees'. -/
def fnTreesUptoCard : Claim7 := { stood := { row := fnTreesUptoRow, standIns := [], harness := (true, "157fdfe9d4454d62717c24309fb643f68d35832b54b9c40a37450cdfe35af01b"), looks := false }, kinds := [], alts := [], laidByText := true, laidKinds := [.data], laidTests := true, laidLooks := .later }
def FnTreesUptoCardSaid : Prop := Claim7.holds Tryd.pinned (.plain (OpenSpec.upto fnTreesSpec)) fnTreesUptoCard

/-- THE SECOND FORM's CARD OF 'laws.FnExactBridgeOf'. -/
def fnExactBridgeOfUptoCard : Claim7 := { stood := { row := fnExactBridgeOfUptoRow, standIns := [], harness := (true, "157fdfe9d4454d62717c24309fb643f68d35832b54b9c40a37450cdfe35af01b"), looks := false }, kinds := [], alts := [], laidByText := true, laidKinds := [.data], laidTests := true, laidLooks := .later }
def FnExactBridgeOfUptoCardSaid : Prop := Claim7.holds Tryd.pinned (.plain (OpenSpec.upto fnExactBridgeOfSpec)) fnExactBridgeOfUptoCard

/-- THE SECOND FORM's CARD OF 'laws.FnExactIsBridge'. -/
def fnExactIsBridgeUptoCard : Claim7 := { stood := { row := fnExactIsBridgeUptoRow, standIns := [], harness := (true, "157fdfe9d4454d62717c24309fb643f68d35832b54b9c40a37450cdfe35af01b"), looks := false }, kinds := [], alts := [], laidByText := true, laidKinds := [.data], laidTests := true, laidLooks := .later }
def FnExactIsBridgeUptoCardSaid : Prop := Claim7.holds Tryd.pinned (.plain (OpenSpec.upto fnExactIsBridgeSpec)) fnExactIsBridgeUptoCard

/-- THE SECOND FORM's CARD OF 'laws.FnExactMergeLower'. -/
def fnExactMergeLowerUptoCard : Claim7 := { stood := { row := fnExactMergeLowerUptoRow, standIns := [], harness := (true, "157fdfe9d4454d62717c24309fb643f68d35832b54b9c40a37450cdfe35af01b"), looks := false }, kinds := [], alts := [], laidByText := true, laidKinds := [.data], laidTests := true, laidLooks := .later }
def FnExactMergeLowerUptoCardSaid : Prop := Claim7.holds Tryd.pinned (.plain (OpenSpec.upto fnExactMergeLowerSpec)) fnExactMergeLowerUptoCard

/-- THE SECOND FORM's CARD OF 'laws.FnExactBuildTree'. -/
def fnExactBuildTreeUptoCard : Claim7 := { stood := { row := fnExactBuildTreeUptoRow, standIns := [], harness := (true, "157fdfe9d4454d62717c24309fb643f68d35832b54b9c40a37450cdfe35af01b"), looks := false }, kinds := [], alts := [], laidByText := true, laidKinds := [.data], laidTests := true, laidLooks := .later }
def FnExactBuildTreeUptoCardSaid : Prop := Claim7.holds Tryd.pinned (.plain (OpenSpec.upto fnExactBuildTreeSpec)) fnExactBuildTreeUptoCard

/-- THE SECOND FORM's CARD OF 'laws.FnExactGoodTree'. -/
def fnExactGoodTreeUptoCard : Claim7 := { stood := { row := fnExactGoodTreeUptoRow, standIns := [], harness := (true, "157fdfe9d4454d62717c24309fb643f68d35832b54b9c40a37450cdfe35af01b"), looks := false }, kinds := [], alts := [], laidByText := true, laidKinds := [.data], laidTests := true, laidLooks := .later }
def FnExactGoodTreeUptoCardSaid : Prop := Claim7.holds Tryd.pinned (.plain (OpenSpec.upto fnExactGoodTreeSpec)) fnExactGoodTreeUptoCard

/-- THE SECOND FORM's CARD OF 'laws.FnExactLowerAt'. -/
def fnExactLowerAtUptoCard : Claim7 := { stood := { row := fnExactLowerAtUptoRow, standIns := [], harness := (true, "157fdfe9d4454d62717c24309fb643f68d35832b54b9c40a37450cdfe35af01b"), looks := false }, kinds := [], alts := [], laidByText := true, laidKinds := [.data], laidTests := true, laidLooks := .later }
def FnExactLowerAtUptoCardSaid : Prop := Claim7.holds Tryd.pinned (.plain (OpenSpec.upto fnExactLowerAtSpec)) fnExactLowerAtUptoCard

/-- THE SECOND FORM's CARD OF 'laws.FnExactPathTo'. -/
def fnExactPathToUptoCard : Claim7 := { stood := { row := fnExactPathToUptoRow, standIns := [], harness := (true, "157fdfe9d4454d62717c24309fb643f68d35832b54b9c40a37450cdfe35af01b"), looks := false }, kinds := [], alts := [], laidByText := true, laidKinds := [.data], laidTests := true, laidLooks := .later }
def FnExactPathToUptoCardSaid : Prop := Claim7.holds Tryd.pinned (.plain (OpenSpec.upto fnExactPathToSpec)) fnExactPathToUptoCard

/-- THE SECOND FORM's CARD OF 'laws.FnExactRebuildWith'. -/
def fnExactRebuildWithUptoCard : Claim7 := { stood := { row := fnExactRebuildWithUptoRow, standIns := [], harness := (true, "157fdfe9d4454d62717c24309fb643f68d35832b54b9c40a37450cdfe35af01b"), looks := false }, kinds := [], alts := [], laidByText := true, laidKinds := [.data], laidTests := true, laidLooks := .later }
def FnExactRebuildWithUptoCardSaid : Prop := Claim7.holds Tryd.pinned (.plain (OpenSpec.upto fnExactRebuildWithSpec)) fnExactRebuildWithUptoCard
end Rows
end Go.Proofs.YtekejglpkeepiaaDoor
