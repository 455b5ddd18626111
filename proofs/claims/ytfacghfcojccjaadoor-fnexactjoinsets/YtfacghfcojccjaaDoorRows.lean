/-
  NARROWER THAN 'FOR EVERY INPUT', by the rows' own cells (each row's printed sentence says how): FnExactGoodSet: laid · FnExactSetFrom: laid · FnExactPutPoint: laid · FnExactDropPoint: laid · FnExactPlaceOf: laid · FnExactJoinSets: laid · FnExactMoveSet: laid · FnExactTurnSet: laid.
  DERIVED. THE GIVEN ROWS OF THIS SEAT. 8 by the template 'for every input the law returns true; each argument reads behind the call as it read before'; 0 by the template 'total and deterministic' (their statements: YtfacghfcojccjaaDoorTotals.lean).
  GIVEN WITH THE SEED: the statements are not yours to turn. If you find one false, say at which input.
  Laid BY PROGRAM, IN A SANDBOX (cutbox-rows.mjs): the forced cells as the released guide's own fill.sh prints them over the translation 53ef081b41cae88a… (all of the seat's roots in one cut). By AI agents, Wed Nov 11 2026. No macro, syntax, notation, axiom, sorry.
-/
import Derived.Test.YtfacghfcojccjaaDoorChecked
import GoSem.Claim
import GoSem.ClaimJoined
import GoSem.ClaimMapViews
import Derived.JoinedTies
import Derived.KernelRfl
namespace Go.Proofs.YtfacghfcojccjaaDoor
/- THE CELL 'sum', in the pinned program and in every row, IS THE sha256 OF THE DUMP (.gsa) THAT YtfacghfcojccjaaDoorProg.lean LOADS. Nothing in Lean hashes anything: it is a label: what it is worth is what the hold of that sum in a sandbox is worth. -/
noncomputable def Tryd.pinned : Pinned := { name := "ytfacghfcojccjaadoor", sum := "53ef081b41cae88adc50cfc00441781414b544f679a85513c9a0bb448a9aa988", checked := Tryd.checked }
namespace Rows
def none {H : Type} : Left H := { results := [], args := [] }

/- WHAT THE LISTED PACKAGE-LEVEL VARIABLES READ AS WHEN THE CALL BEGINS. Each datum BY PROGRAM (the guide's laid-datum.mjs) off the statement by which the dump's own 'gosem.cut.vars' lays the variable. In a bare row this is a premise. The card (YtfacghfcojccjaaDoorCards.lean) ties it to the program's text. -/
def laid_loop_example_g00780_impl_bounds {H : Type} : DataW H := .agg [.lit (.int .i64 1000000), .lit (.int .i64 1099511627776), .lit (.int .i64 4398046511104)]

/-- 'laws.FnExactGoodSet': WHATEVER THE INPUT: true; the input reads as it did. -/
def fnExactGoodSetSpec : ChangeSpec := { name := "fnExactGoodSet", vars := ["loop.example/g00780/impl.bounds"], fn := fun _ => fun
  | [d, g1] => { results := [.lit (.bool true)], args := [d], vars := [g1] }
  | _ => none }
def fnExactGoodSetRow : OpenClaim := { program := "ytfacghfcojccjaadoor", sum := "53ef081b41cae88adc50cfc00441781414b544f679a85513c9a0bb448a9aa988", func := "loop.example/g00780/laws.FnExactGoodSet", spec := "fnExactGoodSet", unfollowed := true, recurses := true, named := ["loop.example/g00780/impl.bounds"], apart := false, laid := [("loop.example/g00780/impl.bounds", laid_loop_example_g00780_impl_bounds)] }
def FnExactGoodSetSaid : Prop := fnExactGoodSetRow.holds Tryd.pinned (OpenSpec.ofChange fnExactGoodSetSpec)

/-- ITS FALSE NEIGHBOUR: 'it returns false'. Refute it at one input. -/
def fnExactGoodSetWrong : ChangeSpec := { name := "fnExactGoodSet", vars := ["loop.example/g00780/impl.bounds"], fn := fun _ => fun
  | [d, g1] => { results := [.lit (.bool false)], args := [d], vars := [g1] }
  | _ => none }
def FnExactGoodSetWrongFalsely : Prop := fnExactGoodSetRow.holds Tryd.pinned (OpenSpec.ofChange fnExactGoodSetWrong)

/-- 'laws.FnExactSetFrom': WHATEVER THE INPUT: true; the input reads as it did. -/
def fnExactSetFromSpec : ChangeSpec := { name := "fnExactSetFrom", vars := ["loop.example/g00780/impl.bounds"], fn := fun _ => fun
  | [d, g1] => { results := [.lit (.bool true)], args := [d], vars := [g1] }
  | _ => none }
def fnExactSetFromRow : OpenClaim := { program := "ytfacghfcojccjaadoor", sum := "53ef081b41cae88adc50cfc00441781414b544f679a85513c9a0bb448a9aa988", func := "loop.example/g00780/laws.FnExactSetFrom", spec := "fnExactSetFrom", unfollowed := true, recurses := true, named := ["loop.example/g00780/impl.bounds"], apart := false, laid := [("loop.example/g00780/impl.bounds", laid_loop_example_g00780_impl_bounds)] }
def FnExactSetFromSaid : Prop := fnExactSetFromRow.holds Tryd.pinned (OpenSpec.ofChange fnExactSetFromSpec)

/-- ITS FALSE NEIGHBOUR: 'it returns false'. Refute it at one input. -/
def fnExactSetFromWrong : ChangeSpec := { name := "fnExactSetFrom", vars := ["loop.example/g00780/impl.bounds"], fn := fun _ => fun
  | [d, g1] => { results := [.lit (.bool false)], args := [d], vars := [g1] }
  | _ => none }
def FnExactSetFromWrongFalsely : Prop := fnExactSetFromRow.holds Tryd.pinned (OpenSpec.ofChange fnExactSetFromWrong)

/-- 'laws.FnExactPutPoint': WHATEVER THE INPUT: true; the input reads as it did. -/
def fnExactPutPointSpec : ChangeSpec := { name := "fnExactPutPoint", vars := ["loop.example/g00780/impl.bounds"], fn := fun _ => fun
  | [d1, d2, g1] => { results := [.lit (.bool true)], args := [d1, d2], vars := [g1] }
  | _ => none }
def fnExactPutPointRow : OpenClaim := { program := "ytfacghfcojccjaadoor", sum := "53ef081b41cae88adc50cfc00441781414b544f679a85513c9a0bb448a9aa988", func := "loop.example/g00780/laws.FnExactPutPoint", spec := "fnExactPutPoint", unfollowed := true, recurses := true, named := ["loop.example/g00780/impl.bounds"], apart := false, laid := [("loop.example/g00780/impl.bounds", laid_loop_example_g00780_impl_bounds)] }
def FnExactPutPointSaid : Prop := fnExactPutPointRow.holds Tryd.pinned (OpenSpec.ofChange fnExactPutPointSpec)

/-- ITS FALSE NEIGHBOUR: 'it returns false'. Refute it at one input. -/
def fnExactPutPointWrong : ChangeSpec := { name := "fnExactPutPoint", vars := ["loop.example/g00780/impl.bounds"], fn := fun _ => fun
  | [d1, d2, g1] => { results := [.lit (.bool false)], args := [d1, d2], vars := [g1] }
  | _ => none }
def FnExactPutPointWrongFalsely : Prop := fnExactPutPointRow.holds Tryd.pinned (OpenSpec.ofChange fnExactPutPointWrong)

/-- 'laws.FnExactDropPoint': WHATEVER THE INPUT: true; the input reads as it did. -/
def fnExactDropPointSpec : ChangeSpec := { name := "fnExactDropPoint", vars := ["loop.example/g00780/impl.bounds"], fn := fun _ => fun
  | [d1, d2, g1] => { results := [.lit (.bool true)], args := [d1, d2], vars := [g1] }
  | _ => none }
def fnExactDropPointRow : OpenClaim := { program := "ytfacghfcojccjaadoor", sum := "53ef081b41cae88adc50cfc00441781414b544f679a85513c9a0bb448a9aa988", func := "loop.example/g00780/laws.FnExactDropPoint", spec := "fnExactDropPoint", unfollowed := true, recurses := true, named := ["loop.example/g00780/impl.bounds"], apart := false, laid := [("loop.example/g00780/impl.bounds", laid_loop_example_g00780_impl_bounds)] }
def FnExactDropPointSaid : Prop := fnExactDropPointRow.holds Tryd.pinned (OpenSpec.ofChange fnExactDropPointSpec)

/-- ITS FALSE NEIGHBOUR: 'it returns false'. Refute it at one input. -/
def fnExactDropPointWrong : ChangeSpec := { name := "fnExactDropPoint", vars := ["loop.example/g00780/impl.bounds"], fn := fun _ => fun
  | [d1, d2, g1] => { results := [.lit (.bool false)], args := [d1, d2], vars := [g1] }
  | _ => none }
def FnExactDropPointWrongFalsely : Prop := fnExactDropPointRow.holds Tryd.pinned (OpenSpec.ofChange fnExactDropPointWrong)

/-- 'laws.FnExactPlaceOf': WHATEVER THE INPUT: true; the input reads as it did. -/
def fnExactPlaceOfSpec : ChangeSpec := { name := "fnExactPlaceOf", vars := ["loop.example/g00780/impl.bounds"], fn := fun _ => fun
  | [d1, d2, g1] => { results := [.lit (.bool true)], args := [d1, d2], vars := [g1] }
  | _ => none }
def fnExactPlaceOfRow : OpenClaim := { program := "ytfacghfcojccjaadoor", sum := "53ef081b41cae88adc50cfc00441781414b544f679a85513c9a0bb448a9aa988", func := "loop.example/g00780/laws.FnExactPlaceOf", spec := "fnExactPlaceOf", unfollowed := true, recurses := true, named := ["loop.example/g00780/impl.bounds"], apart := false, laid := [("loop.example/g00780/impl.bounds", laid_loop_example_g00780_impl_bounds)] }
def FnExactPlaceOfSaid : Prop := fnExactPlaceOfRow.holds Tryd.pinned (OpenSpec.ofChange fnExactPlaceOfSpec)

/-- ITS FALSE NEIGHBOUR: 'it returns false'. Refute it at one input. -/
def fnExactPlaceOfWrong : ChangeSpec := { name := "fnExactPlaceOf", vars := ["loop.example/g00780/impl.bounds"], fn := fun _ => fun
  | [d1, d2, g1] => { results := [.lit (.bool false)], args := [d1, d2], vars := [g1] }
  | _ => none }
def FnExactPlaceOfWrongFalsely : Prop := fnExactPlaceOfRow.holds Tryd.pinned (OpenSpec.ofChange fnExactPlaceOfWrong)

/-- 'laws.FnExactJoinSets': WHATEVER THE INPUT: true; the input reads as it did. -/
def fnExactJoinSetsSpec : ChangeSpec := { name := "fnExactJoinSets", vars := ["loop.example/g00780/impl.bounds"], fn := fun _ => fun
  | [d1, d2, g1] => { results := [.lit (.bool true)], args := [d1, d2], vars := [g1] }
  | _ => none }
def fnExactJoinSetsRow : OpenClaim := { program := "ytfacghfcojccjaadoor", sum := "53ef081b41cae88adc50cfc00441781414b544f679a85513c9a0bb448a9aa988", func := "loop.example/g00780/laws.FnExactJoinSets", spec := "fnExactJoinSets", unfollowed := true, recurses := true, named := ["loop.example/g00780/impl.bounds"], apart := false, laid := [("loop.example/g00780/impl.bounds", laid_loop_example_g00780_impl_bounds)] }
def FnExactJoinSetsSaid : Prop := fnExactJoinSetsRow.holds Tryd.pinned (OpenSpec.ofChange fnExactJoinSetsSpec)

/-- ITS FALSE NEIGHBOUR: 'it returns false'. Refute it at one input. -/
def fnExactJoinSetsWrong : ChangeSpec := { name := "fnExactJoinSets", vars := ["loop.example/g00780/impl.bounds"], fn := fun _ => fun
  | [d1, d2, g1] => { results := [.lit (.bool false)], args := [d1, d2], vars := [g1] }
  | _ => none }
def FnExactJoinSetsWrongFalsely : Prop := fnExactJoinSetsRow.holds Tryd.pinned (OpenSpec.ofChange fnExactJoinSetsWrong)

/-- 'laws.FnExactMoveSet': WHATEVER THE INPUT: true; the input reads as it did. -/
def fnExactMoveSetSpec : ChangeSpec := { name := "fnExactMoveSet", vars := ["loop.example/g00780/impl.bounds"], fn := fun _ => fun
  | [d1, d2, g1] => { results := [.lit (.bool true)], args := [d1, d2], vars := [g1] }
  | _ => none }
def fnExactMoveSetRow : OpenClaim := { program := "ytfacghfcojccjaadoor", sum := "53ef081b41cae88adc50cfc00441781414b544f679a85513c9a0bb448a9aa988", func := "loop.example/g00780/laws.FnExactMoveSet", spec := "fnExactMoveSet", unfollowed := true, recurses := true, named := ["loop.example/g00780/impl.bounds"], apart := false, laid := [("loop.example/g00780/impl.bounds", laid_loop_example_g00780_impl_bounds)] }
def FnExactMoveSetSaid : Prop := fnExactMoveSetRow.holds Tryd.pinned (OpenSpec.ofChange fnExactMoveSetSpec)

/-- ITS FALSE NEIGHBOUR: 'it returns false'. Refute it at one input. -/
def fnExactMoveSetWrong : ChangeSpec := { name := "fnExactMoveSet", vars := ["loop.example/g00780/impl.bounds"], fn := fun _ => fun
  | [d1, d2, g1] => { results := [.lit (.bool false)], args := [d1, d2], vars := [g1] }
  | _ => none }
def FnExactMoveSetWrongFalsely : Prop := fnExactMoveSetRow.holds Tryd.pinned (OpenSpec.ofChange fnExactMoveSetWrong)

/-- 'laws.FnExactTurnSet': WHATEVER THE INPUT: true; the input reads as it did. -/
def fnExactTurnSetSpec : ChangeSpec := { name := "fnExactTurnSet", vars := ["loop.example/g00780/impl.bounds"], fn := fun _ => fun
  | [d, g1] => { results := [.lit (.bool true)], args := [d], vars := [g1] }
  | _ => none }
def fnExactTurnSetRow : OpenClaim := { program := "ytfacghfcojccjaadoor", sum := "53ef081b41cae88adc50cfc00441781414b544f679a85513c9a0bb448a9aa988", func := "loop.example/g00780/laws.FnExactTurnSet", spec := "fnExactTurnSet", unfollowed := true, recurses := true, named := ["loop.example/g00780/impl.bounds"], apart := false, laid := [("loop.example/g00780/impl.bounds", laid_loop_example_g00780_impl_bounds)] }
def FnExactTurnSetSaid : Prop := fnExactTurnSetRow.holds Tryd.pinned (OpenSpec.ofChange fnExactTurnSetSpec)

/-- ITS FALSE NEIGHBOUR: 'it returns false'. Refute it at one input. -/
def fnExactTurnSetWrong : ChangeSpec := { name := "fnExactTurnSet", vars := ["loop.example/g00780/impl.bounds"], fn := fun _ => fun
  | [d, g1] => { results := [.lit (.bool false)], args := [d], vars := [g1] }
  | _ => none }
def FnExactTurnSetWrongFalsely : Prop := fnExactTurnSetRow.holds Tryd.pinned (OpenSpec.ofChange fnExactTurnSetWrong)

/- THE SECOND FORM. 'bulk': how many values and letters a reading holds, each counted each time it is reached (what is shared counts as often as it is met; a slice's spare places count too). A statement '..UptoSaid' is the law's where the arguments, and the package variables that the reading takes, are together of bulk at most 1048576: NARROWER than '..Said'. Prove '..Said' where nothing that the law and all that it calls make is longer than what came in: it says more and counts as full. Else prove '..UptoSaid'. A law counts once. -/
mutual
def uptoBulk {H : Type} : DataW H → Nat
  | .lit (.string bytes) => bytes.length + 1
  | .lit _ => 1
  | .nil => 1
  | .ptr d => uptoBulk d + 1
  | .slice elems spare => uptoBulkAll elems + uptoBulkAll spare + 1
  | .agg parts => uptoBulkAll parts + 1
  | .iface _ d => uptoBulk d + 1
  | .map entries => uptoBulkEntries entries + 1
  | .held _ => 1
def uptoBulkAll {H : Type} : List (DataW H) → Nat
  | [] => 0
  | d :: r => uptoBulk d + uptoBulkAll r
def uptoBulkEntries {H : Type} : List (Lit × DataW H) → Nat
  | [] => 0
  | x :: r => uptoBulkEntry x + uptoBulkEntries r
def uptoBulkEntry {H : Type} : Lit × DataW H → Nat
  | (.string bytes, d) => bytes.length + uptoBulk d + 1
  | (_, d) => uptoBulk d + 1
 end
def uptoSmall : (H : Type) → List (DataW H) → Bool := fun _ ds => decide (uptoBulkAll ds ≤ 1048576)
def OpenSpec.upto (s : _root_.Go.ChangeSpec) : _root_.Go.OpenSpec := { _root_.Go.OpenSpec.ofChange s with cond := some uptoSmall }

/-- 'laws.FnExactGoodSet', WHERE WHAT IT READS IS OF BULK AT MOST 1048576: true; the input reads as it did. -/
def fnExactGoodSetUptoRow : OpenClaim := { program := "ytfacghfcojccjaadoor", sum := "53ef081b41cae88adc50cfc00441781414b544f679a85513c9a0bb448a9aa988", func := "loop.example/g00780/laws.FnExactGoodSet", spec := "fnExactGoodSet", unfollowed := true, recurses := true, named := ["loop.example/g00780/impl.bounds"], apart := false, laid := [("loop.example/g00780/impl.bounds", laid_loop_example_g00780_impl_bounds)], narrowed := true }
def FnExactGoodSetUptoSaid : Prop := fnExactGoodSetUptoRow.holds Tryd.pinned (OpenSpec.upto fnExactGoodSetSpec)

/-- 'laws.FnExactSetFrom', WHERE WHAT IT READS IS OF BULK AT MOST 1048576: true; the input reads as it did. -/
def fnExactSetFromUptoRow : OpenClaim := { program := "ytfacghfcojccjaadoor", sum := "53ef081b41cae88adc50cfc00441781414b544f679a85513c9a0bb448a9aa988", func := "loop.example/g00780/laws.FnExactSetFrom", spec := "fnExactSetFrom", unfollowed := true, recurses := true, named := ["loop.example/g00780/impl.bounds"], apart := false, laid := [("loop.example/g00780/impl.bounds", laid_loop_example_g00780_impl_bounds)], narrowed := true }
def FnExactSetFromUptoSaid : Prop := fnExactSetFromUptoRow.holds Tryd.pinned (OpenSpec.upto fnExactSetFromSpec)

/-- 'laws.FnExactPutPoint', WHERE WHAT IT READS IS OF BULK AT MOST 1048576: true; the input reads as it did. -/
def fnExactPutPointUptoRow : OpenClaim := { program := "ytfacghfcojccjaadoor", sum := "53ef081b41cae88adc50cfc00441781414b544f679a85513c9a0bb448a9aa988", func := "loop.example/g00780/laws.FnExactPutPoint", spec := "fnExactPutPoint", unfollowed := true, recurses := true, named := ["loop.example/g00780/impl.bounds"], apart := false, laid := [("loop.example/g00780/impl.bounds", laid_loop_example_g00780_impl_bounds)], narrowed := true }
def FnExactPutPointUptoSaid : Prop := fnExactPutPointUptoRow.holds Tryd.pinned (OpenSpec.upto fnExactPutPointSpec)

/-- 'laws.FnExactDropPoint', WHERE WHAT IT READS IS OF BULK AT MOST 1048576: true; the input reads as it did. -/
def fnExactDropPointUptoRow : OpenClaim := { program := "ytfacghfcojccjaadoor", sum := "53ef081b41cae88adc50cfc00441781414b544f679a85513c9a0bb448a9aa988", func := "loop.example/g00780/laws.FnExactDropPoint", spec := "fnExactDropPoint", unfollowed := true, recurses := true, named := ["loop.example/g00780/impl.bounds"], apart := false, laid := [("loop.example/g00780/impl.bounds", laid_loop_example_g00780_impl_bounds)], narrowed := true }
def FnExactDropPointUptoSaid : Prop := fnExactDropPointUptoRow.holds Tryd.pinned (OpenSpec.upto fnExactDropPointSpec)

/-- 'laws.FnExactPlaceOf', WHERE WHAT IT READS IS OF BULK AT MOST 1048576: true; the input reads as it did. -/
def fnExactPlaceOfUptoRow : OpenClaim := { program := "ytfacghfcojccjaadoor", sum := "53ef081b41cae88adc50cfc00441781414b544f679a85513c9a0bb448a9aa988", func := "loop.example/g00780/laws.FnExactPlaceOf", spec := "fnExactPlaceOf", unfollowed := true, recurses := true, named := ["loop.example/g00780/impl.bounds"], apart := false, laid := [("loop.example/g00780/impl.bounds", laid_loop_example_g00780_impl_bounds)], narrowed := true }
def FnExactPlaceOfUptoSaid : Prop := fnExactPlaceOfUptoRow.holds Tryd.pinned (OpenSpec.upto fnExactPlaceOfSpec)

/-- 'laws.FnExactJoinSets', WHERE WHAT IT READS IS OF BULK AT MOST 1048576: true; the input reads as it did. -/
def fnExactJoinSetsUptoRow : OpenClaim := { program := "ytfacghfcojccjaadoor", sum := "53ef081b41cae88adc50cfc00441781414b544f679a85513c9a0bb448a9aa988", func := "loop.example/g00780/laws.FnExactJoinSets", spec := "fnExactJoinSets", unfollowed := true, recurses := true, named := ["loop.example/g00780/impl.bounds"], apart := false, laid := [("loop.example/g00780/impl.bounds", laid_loop_example_g00780_impl_bounds)], narrowed := true }
def FnExactJoinSetsUptoSaid : Prop := fnExactJoinSetsUptoRow.holds Tryd.pinned (OpenSpec.upto fnExactJoinSetsSpec)

/-- 'laws.FnExactMoveSet', WHERE WHAT IT READS IS OF BULK AT MOST 1048576: true; the input reads as it did. -/
def fnExactMoveSetUptoRow : OpenClaim := { program := "ytfacghfcojccjaadoor", sum := "53ef081b41cae88adc50cfc00441781414b544f679a85513c9a0bb448a9aa988", func := "loop.example/g00780/laws.FnExactMoveSet", spec := "fnExactMoveSet", unfollowed := true, recurses := true, named := ["loop.example/g00780/impl.bounds"], apart := false, laid := [("loop.example/g00780/impl.bounds", laid_loop_example_g00780_impl_bounds)], narrowed := true }
def FnExactMoveSetUptoSaid : Prop := fnExactMoveSetUptoRow.holds Tryd.pinned (OpenSpec.upto fnExactMoveSetSpec)

/-- 'laws.FnExactTurnSet', WHERE WHAT IT READS IS OF BULK AT MOST 1048576: true; the input reads as it did. -/
def fnExactTurnSetUptoRow : OpenClaim := { program := "ytfacghfcojccjaadoor", sum := "53ef081b41cae88adc50cfc00441781414b544f679a85513c9a0bb448a9aa988", func := "loop.example/g00780/laws.FnExactTurnSet", spec := "fnExactTurnSet", unfollowed := true, recurses := true, named := ["loop.example/g00780/impl.bounds"], apart := false, laid := [("loop.example/g00780/impl.bounds", laid_loop_example_g00780_impl_bounds)], narrowed := true }
def FnExactTurnSetUptoSaid : Prop := fnExactTurnSetUptoRow.holds Tryd.pinned (OpenSpec.upto fnExactTurnSetSpec)

end Rows
end Go.Proofs.YtfacghfcojccjaaDoor
