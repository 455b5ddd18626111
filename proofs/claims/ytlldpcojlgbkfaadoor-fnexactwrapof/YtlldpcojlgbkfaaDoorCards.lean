/-
  DERIVED. GIVEN WITH THE SEED: THE CARDS: each row of YtlldpcojlgbkfaaDoorRows.lean that lists a variable, with what it lists TIED to the program's text (the seventh form; the later family's looks); each row that meets fmt, with fmt's text TOLD by the authors' own Lean function (tested against real Go, not proved from fmt's source: count such statements apart). THE CARD IS WHAT COUNTS. Prove the row's statement (the work); the ties are given (YtlldpcojlgbkfaaDoorTie.lean); close each card by the builder's one call (the guide's Derived/Test/ToyasCard.lean, 'card_holds'). Laid BY PROGRAM, IN A SANDBOX (cutbox-door.mjs). By AI agents, Wed Nov 11 2026. No macro, syntax, notation, axiom, sorry.
-/
import Derived.Test.YtlldpcojlgbkfaaDoorRows
import GoSem.ClaimSeven
namespace Go.Proofs.YtlldpcojlgbkfaaDoor
namespace Rows

/-- THE TIED CARD OF 'laws.FnExactGoodHull'. -/
def fnExactGoodHullCard : Claim7 := { stood := { row := fnExactGoodHullRow, standIns := [], harness := (true, "8190dceb5d6b94d445c9b3c1d63f6c0f29ae1f3e89be4eaf2658299a70f7b825"), looks := false }, kinds := [], alts := [], laidByText := true, laidKinds := [.data], laidTests := true, laidLooks := .later }
def FnExactGoodHullCardSaid : Prop := Claim7.holds Tryd.pinned (.plain (OpenSpec.ofChange fnExactGoodHullSpec)) fnExactGoodHullCard

/-- THE TIED CARD OF 'laws.FnExactHullOf'. -/
def fnExactHullOfCard : Claim7 := { stood := { row := fnExactHullOfRow, standIns := [], harness := (true, "8190dceb5d6b94d445c9b3c1d63f6c0f29ae1f3e89be4eaf2658299a70f7b825"), looks := false }, kinds := [], alts := [], laidByText := true, laidKinds := [.data], laidTests := true, laidLooks := .later }
def FnExactHullOfCardSaid : Prop := Claim7.holds Tryd.pinned (.plain (OpenSpec.ofChange fnExactHullOfSpec)) fnExactHullOfCard

/-- THE TIED CARD OF 'laws.FnExactLowerOf'. -/
def fnExactLowerOfCard : Claim7 := { stood := { row := fnExactLowerOfRow, standIns := [], harness := (true, "8190dceb5d6b94d445c9b3c1d63f6c0f29ae1f3e89be4eaf2658299a70f7b825"), looks := false }, kinds := [], alts := [], laidByText := true, laidKinds := [.data], laidTests := true, laidLooks := .later }
def FnExactLowerOfCardSaid : Prop := Claim7.holds Tryd.pinned (.plain (OpenSpec.ofChange fnExactLowerOfSpec)) fnExactLowerOfCard

/-- THE TIED CARD OF 'laws.FnExactUpperOf'. -/
def fnExactUpperOfCard : Claim7 := { stood := { row := fnExactUpperOfRow, standIns := [], harness := (true, "8190dceb5d6b94d445c9b3c1d63f6c0f29ae1f3e89be4eaf2658299a70f7b825"), looks := false }, kinds := [], alts := [], laidByText := true, laidKinds := [.data], laidTests := true, laidLooks := .later }
def FnExactUpperOfCardSaid : Prop := Claim7.holds Tryd.pinned (.plain (OpenSpec.ofChange fnExactUpperOfSpec)) fnExactUpperOfCard

/-- THE TIED CARD OF 'laws.FnExactWrapOf'. -/
def fnExactWrapOfCard : Claim7 := { stood := { row := fnExactWrapOfRow, standIns := [], harness := (true, "8190dceb5d6b94d445c9b3c1d63f6c0f29ae1f3e89be4eaf2658299a70f7b825"), looks := false }, kinds := [], alts := [], laidByText := true, laidKinds := [.data], laidTests := true, laidLooks := .later }
def FnExactWrapOfCardSaid : Prop := Claim7.holds Tryd.pinned (.plain (OpenSpec.ofChange fnExactWrapOfSpec)) fnExactWrapOfCard

/-- THE TIED CARD OF 'laws.FnExactByHalves'. -/
def fnExactByHalvesCard : Claim7 := { stood := { row := fnExactByHalvesRow, standIns := [], harness := (true, "8190dceb5d6b94d445c9b3c1d63f6c0f29ae1f3e89be4eaf2658299a70f7b825"), looks := false }, kinds := [], alts := [], laidByText := true, laidKinds := [.data], laidTests := true, laidLooks := .later }
def FnExactByHalvesCardSaid : Prop := Claim7.holds Tryd.pinned (.plain (OpenSpec.ofChange fnExactByHalvesSpec)) fnExactByHalvesCard

/-- THE TIED CARD OF 'laws.FnExactIsHullOf'. -/
def fnExactIsHullOfCard : Claim7 := { stood := { row := fnExactIsHullOfRow, standIns := [], harness := (true, "8190dceb5d6b94d445c9b3c1d63f6c0f29ae1f3e89be4eaf2658299a70f7b825"), looks := false }, kinds := [], alts := [], laidByText := true, laidKinds := [.data], laidTests := true, laidLooks := .later }
def FnExactIsHullOfCardSaid : Prop := Claim7.holds Tryd.pinned (.plain (OpenSpec.ofChange fnExactIsHullOfSpec)) fnExactIsHullOfCard

/-- THE SECOND FORM's CARD OF 'laws.FnExactGoodHull'. -/
def fnExactGoodHullUptoCard : Claim7 := { stood := { row := fnExactGoodHullUptoRow, standIns := [], harness := (true, "8190dceb5d6b94d445c9b3c1d63f6c0f29ae1f3e89be4eaf2658299a70f7b825"), looks := false }, kinds := [], alts := [], laidByText := true, laidKinds := [.data], laidTests := true, laidLooks := .later }
def FnExactGoodHullUptoCardSaid : Prop := Claim7.holds Tryd.pinned (.plain (OpenSpec.upto fnExactGoodHullSpec)) fnExactGoodHullUptoCard

/-- THE SECOND FORM's CARD OF 'laws.FnExactHullOf'. -/
def fnExactHullOfUptoCard : Claim7 := { stood := { row := fnExactHullOfUptoRow, standIns := [], harness := (true, "8190dceb5d6b94d445c9b3c1d63f6c0f29ae1f3e89be4eaf2658299a70f7b825"), looks := false }, kinds := [], alts := [], laidByText := true, laidKinds := [.data], laidTests := true, laidLooks := .later }
def FnExactHullOfUptoCardSaid : Prop := Claim7.holds Tryd.pinned (.plain (OpenSpec.upto fnExactHullOfSpec)) fnExactHullOfUptoCard

/-- THE SECOND FORM's CARD OF 'laws.FnExactLowerOf'. -/
def fnExactLowerOfUptoCard : Claim7 := { stood := { row := fnExactLowerOfUptoRow, standIns := [], harness := (true, "8190dceb5d6b94d445c9b3c1d63f6c0f29ae1f3e89be4eaf2658299a70f7b825"), looks := false }, kinds := [], alts := [], laidByText := true, laidKinds := [.data], laidTests := true, laidLooks := .later }
def FnExactLowerOfUptoCardSaid : Prop := Claim7.holds Tryd.pinned (.plain (OpenSpec.upto fnExactLowerOfSpec)) fnExactLowerOfUptoCard

/-- THE SECOND FORM's CARD OF 'laws.FnExactUpperOf'. -/
def fnExactUpperOfUptoCard : Claim7 := { stood := { row := fnExactUpperOfUptoRow, standIns := [], harness := (true, "8190dceb5d6b94d445c9b3c1d63f6c0f29ae1f3e89be4eaf2658299a70f7b825"), looks := false }, kinds := [], alts := [], laidByText := true, laidKinds := [.data], laidTests := true, laidLooks := .later }
def FnExactUpperOfUptoCardSaid : Prop := Claim7.holds Tryd.pinned (.plain (OpenSpec.upto fnExactUpperOfSpec)) fnExactUpperOfUptoCard

/-- THE SECOND FORM's CARD OF 'laws.FnExactWrapOf'. -/
def fnExactWrapOfUptoCard : Claim7 := { stood := { row := fnExactWrapOfUptoRow, standIns := [], harness := (true, "8190dceb5d6b94d445c9b3c1d63f6c0f29ae1f3e89be4eaf2658299a70f7b825"), looks := false }, kinds := [], alts := [], laidByText := true, laidKinds := [.data], laidTests := true, laidLooks := .later }
def FnExactWrapOfUptoCardSaid : Prop := Claim7.holds Tryd.pinned (.plain (OpenSpec.upto fnExactWrapOfSpec)) fnExactWrapOfUptoCard

/-- THE SECOND FORM's CARD OF 'laws.FnExactByHalves'. -/
def fnExactByHalvesUptoCard : Claim7 := { stood := { row := fnExactByHalvesUptoRow, standIns := [], harness := (true, "8190dceb5d6b94d445c9b3c1d63f6c0f29ae1f3e89be4eaf2658299a70f7b825"), looks := false }, kinds := [], alts := [], laidByText := true, laidKinds := [.data], laidTests := true, laidLooks := .later }
def FnExactByHalvesUptoCardSaid : Prop := Claim7.holds Tryd.pinned (.plain (OpenSpec.upto fnExactByHalvesSpec)) fnExactByHalvesUptoCard

/-- THE SECOND FORM's CARD OF 'laws.FnExactIsHullOf'. -/
def fnExactIsHullOfUptoCard : Claim7 := { stood := { row := fnExactIsHullOfUptoRow, standIns := [], harness := (true, "8190dceb5d6b94d445c9b3c1d63f6c0f29ae1f3e89be4eaf2658299a70f7b825"), looks := false }, kinds := [], alts := [], laidByText := true, laidKinds := [.data], laidTests := true, laidLooks := .later }
def FnExactIsHullOfUptoCardSaid : Prop := Claim7.holds Tryd.pinned (.plain (OpenSpec.upto fnExactIsHullOfSpec)) fnExactIsHullOfUptoCard
end Rows
end Go.Proofs.YtlldpcojlgbkfaaDoor
