/-
  NARROWER THAN 'FOR EVERY INPUT', by the rows' own cells (each row's printed sentence says how): FnAreas: laid · FnExactTwiceArea: laid · FnExactStepsOn: laid · FnExactRimPoints: laid · FnExactInnerPoints: laid · FnExactCountIn: laid · FnExactBoxOf: laid · FnExactMiddleOf: laid.
  DERIVED. THE GIVEN ROWS OF THIS SEAT. 8 by the template 'for every input the law returns true; each argument reads behind the call as it read before'; 0 by the template 'total and deterministic' (their statements: YtohcllojjmhbcaaDoorTotals.lean).
  GIVEN WITH THE SEED: the statements are not yours to turn. If you find one false, say at which input.
  Laid BY PROGRAM, IN A SANDBOX (cutbox-rows.mjs): the forced cells as the released guide's own fill.sh prints them over the translation 662b9f7dd39dfcd8… (all of the seat's roots in one cut). By AI agents, Wed Nov 11 2026. No macro, syntax, notation, axiom, sorry.
-/
import Derived.Test.YtohcllojjmhbcaaDoorChecked
import GoSem.Claim
import GoSem.ClaimJoined
import GoSem.ClaimMapViews
import Derived.JoinedTies
import Derived.KernelRfl
namespace Go.Proofs.YtohcllojjmhbcaaDoor
/- THE CELL 'sum', in the pinned program and in every row, IS THE sha256 OF THE DUMP (.gsa) THAT YtohcllojjmhbcaaDoorProg.lean LOADS. Nothing in Lean hashes anything: it is a label: what it is worth is what the hold of that sum in a sandbox is worth. -/
noncomputable def Tryd.pinned : Pinned := { name := "ytohcllojjmhbcaadoor", sum := "662b9f7dd39dfcd871cacde661b8d6eb15e33cccbc00c4c664a964bcb2c3fdc4", checked := Tryd.checked }
namespace Rows
def none {H : Type} : Left H := { results := [], args := [] }

/- WHAT THE LISTED PACKAGE-LEVEL VARIABLES READ AS WHEN THE CALL BEGINS. Each datum BY PROGRAM (the guide's laid-datum.mjs) off the statement by which the dump's own 'gosem.cut.vars' lays the variable. In a bare row this is a premise. The card (YtohcllojjmhbcaaDoorCards.lean) ties it to the program's text. -/
def laid_loop_example_g00780_impl_bounds {H : Type} : DataW H := .agg [.lit (.int .i64 1000000), .lit (.int .i64 1099511627776), .lit (.int .i64 4398046511104), .lit (.int .i64 40)]

/-- 'laws.FnAreas': WHATEVER THE INPUT: true; the input reads as it did. -/
def fnAreasSpec : ChangeSpec := { name := "fnAreas", vars := ["loop.example/g00780/impl.bounds"], fn := fun _ => fun
  | [d1, d2, g1] => { results := [.lit (.bool true)], args := [d1, d2], vars := [g1] }
  | _ => none }
def fnAreasRow : OpenClaim := { program := "ytohcllojjmhbcaadoor", sum := "662b9f7dd39dfcd871cacde661b8d6eb15e33cccbc00c4c664a964bcb2c3fdc4", func := "loop.example/g00780/laws.FnAreas", spec := "fnAreas", unfollowed := true, recurses := true, named := ["loop.example/g00780/impl.bounds"], apart := false, laid := [("loop.example/g00780/impl.bounds", laid_loop_example_g00780_impl_bounds)] }
def FnAreasSaid : Prop := fnAreasRow.holds Tryd.pinned (OpenSpec.ofChange fnAreasSpec)

/-- ITS FALSE NEIGHBOUR: 'it returns false'. Refute it at one input. -/
def fnAreasWrong : ChangeSpec := { name := "fnAreas", vars := ["loop.example/g00780/impl.bounds"], fn := fun _ => fun
  | [d1, d2, g1] => { results := [.lit (.bool false)], args := [d1, d2], vars := [g1] }
  | _ => none }
def FnAreasWrongFalsely : Prop := fnAreasRow.holds Tryd.pinned (OpenSpec.ofChange fnAreasWrong)

/-- 'laws.FnExactTwiceArea': WHATEVER THE INPUT: true; the input reads as it did. -/
def fnExactTwiceAreaSpec : ChangeSpec := { name := "fnExactTwiceArea", vars := ["loop.example/g00780/impl.bounds"], fn := fun _ => fun
  | [d, g1] => { results := [.lit (.bool true)], args := [d], vars := [g1] }
  | _ => none }
def fnExactTwiceAreaRow : OpenClaim := { program := "ytohcllojjmhbcaadoor", sum := "662b9f7dd39dfcd871cacde661b8d6eb15e33cccbc00c4c664a964bcb2c3fdc4", func := "loop.example/g00780/laws.FnExactTwiceArea", spec := "fnExactTwiceArea", unfollowed := true, recurses := true, named := ["loop.example/g00780/impl.bounds"], apart := false, laid := [("loop.example/g00780/impl.bounds", laid_loop_example_g00780_impl_bounds)] }
def FnExactTwiceAreaSaid : Prop := fnExactTwiceAreaRow.holds Tryd.pinned (OpenSpec.ofChange fnExactTwiceAreaSpec)

/-- ITS FALSE NEIGHBOUR: 'it returns false'. Refute it at one input. -/
def fnExactTwiceAreaWrong : ChangeSpec := { name := "fnExactTwiceArea", vars := ["loop.example/g00780/impl.bounds"], fn := fun _ => fun
  | [d, g1] => { results := [.lit (.bool false)], args := [d], vars := [g1] }
  | _ => none }
def FnExactTwiceAreaWrongFalsely : Prop := fnExactTwiceAreaRow.holds Tryd.pinned (OpenSpec.ofChange fnExactTwiceAreaWrong)

/-- 'laws.FnExactStepsOn': WHATEVER THE INPUT: true; the input reads as it did. -/
def fnExactStepsOnSpec : ChangeSpec := { name := "fnExactStepsOn", vars := ["loop.example/g00780/impl.bounds"], fn := fun _ => fun
  | [d1, d2, g1] => { results := [.lit (.bool true)], args := [d1, d2], vars := [g1] }
  | _ => none }
def fnExactStepsOnRow : OpenClaim := { program := "ytohcllojjmhbcaadoor", sum := "662b9f7dd39dfcd871cacde661b8d6eb15e33cccbc00c4c664a964bcb2c3fdc4", func := "loop.example/g00780/laws.FnExactStepsOn", spec := "fnExactStepsOn", named := ["loop.example/g00780/impl.bounds"], apart := false, laid := [("loop.example/g00780/impl.bounds", laid_loop_example_g00780_impl_bounds)] }
def FnExactStepsOnSaid : Prop := fnExactStepsOnRow.holds Tryd.pinned (OpenSpec.ofChange fnExactStepsOnSpec)

/-- ITS FALSE NEIGHBOUR: 'it returns false'. Refute it at one input. -/
def fnExactStepsOnWrong : ChangeSpec := { name := "fnExactStepsOn", vars := ["loop.example/g00780/impl.bounds"], fn := fun _ => fun
  | [d1, d2, g1] => { results := [.lit (.bool false)], args := [d1, d2], vars := [g1] }
  | _ => none }
def FnExactStepsOnWrongFalsely : Prop := fnExactStepsOnRow.holds Tryd.pinned (OpenSpec.ofChange fnExactStepsOnWrong)

/-- 'laws.FnExactRimPoints': WHATEVER THE INPUT: true; the input reads as it did. -/
def fnExactRimPointsSpec : ChangeSpec := { name := "fnExactRimPoints", vars := ["loop.example/g00780/impl.bounds"], fn := fun _ => fun
  | [d, g1] => { results := [.lit (.bool true)], args := [d], vars := [g1] }
  | _ => none }
def fnExactRimPointsRow : OpenClaim := { program := "ytohcllojjmhbcaadoor", sum := "662b9f7dd39dfcd871cacde661b8d6eb15e33cccbc00c4c664a964bcb2c3fdc4", func := "loop.example/g00780/laws.FnExactRimPoints", spec := "fnExactRimPoints", unfollowed := true, recurses := true, named := ["loop.example/g00780/impl.bounds"], apart := false, laid := [("loop.example/g00780/impl.bounds", laid_loop_example_g00780_impl_bounds)] }
def FnExactRimPointsSaid : Prop := fnExactRimPointsRow.holds Tryd.pinned (OpenSpec.ofChange fnExactRimPointsSpec)

/-- ITS FALSE NEIGHBOUR: 'it returns false'. Refute it at one input. -/
def fnExactRimPointsWrong : ChangeSpec := { name := "fnExactRimPoints", vars := ["loop.example/g00780/impl.bounds"], fn := fun _ => fun
  | [d, g1] => { results := [.lit (.bool false)], args := [d], vars := [g1] }
  | _ => none }
def FnExactRimPointsWrongFalsely : Prop := fnExactRimPointsRow.holds Tryd.pinned (OpenSpec.ofChange fnExactRimPointsWrong)

/-- 'laws.FnExactInnerPoints': WHATEVER THE INPUT: true; the input reads as it did. -/
def fnExactInnerPointsSpec : ChangeSpec := { name := "fnExactInnerPoints", vars := ["loop.example/g00780/impl.bounds"], fn := fun _ => fun
  | [d, g1] => { results := [.lit (.bool true)], args := [d], vars := [g1] }
  | _ => none }
def fnExactInnerPointsRow : OpenClaim := { program := "ytohcllojjmhbcaadoor", sum := "662b9f7dd39dfcd871cacde661b8d6eb15e33cccbc00c4c664a964bcb2c3fdc4", func := "loop.example/g00780/laws.FnExactInnerPoints", spec := "fnExactInnerPoints", unfollowed := true, recurses := true, named := ["loop.example/g00780/impl.bounds"], apart := false, laid := [("loop.example/g00780/impl.bounds", laid_loop_example_g00780_impl_bounds)] }
def FnExactInnerPointsSaid : Prop := fnExactInnerPointsRow.holds Tryd.pinned (OpenSpec.ofChange fnExactInnerPointsSpec)

/-- ITS FALSE NEIGHBOUR: 'it returns false'. Refute it at one input. -/
def fnExactInnerPointsWrong : ChangeSpec := { name := "fnExactInnerPoints", vars := ["loop.example/g00780/impl.bounds"], fn := fun _ => fun
  | [d, g1] => { results := [.lit (.bool false)], args := [d], vars := [g1] }
  | _ => none }
def FnExactInnerPointsWrongFalsely : Prop := fnExactInnerPointsRow.holds Tryd.pinned (OpenSpec.ofChange fnExactInnerPointsWrong)

/-- 'laws.FnExactCountIn': WHATEVER THE INPUT: true; the input reads as it did. -/
def fnExactCountInSpec : ChangeSpec := { name := "fnExactCountIn", vars := ["loop.example/g00780/impl.bounds"], fn := fun _ => fun
  | [d, g1] => { results := [.lit (.bool true)], args := [d], vars := [g1] }
  | _ => none }
def fnExactCountInRow : OpenClaim := { program := "ytohcllojjmhbcaadoor", sum := "662b9f7dd39dfcd871cacde661b8d6eb15e33cccbc00c4c664a964bcb2c3fdc4", func := "loop.example/g00780/laws.FnExactCountIn", spec := "fnExactCountIn", unfollowed := true, recurses := true, named := ["loop.example/g00780/impl.bounds"], apart := false, laid := [("loop.example/g00780/impl.bounds", laid_loop_example_g00780_impl_bounds)] }
def FnExactCountInSaid : Prop := fnExactCountInRow.holds Tryd.pinned (OpenSpec.ofChange fnExactCountInSpec)

/-- ITS FALSE NEIGHBOUR: 'it returns false'. Refute it at one input. -/
def fnExactCountInWrong : ChangeSpec := { name := "fnExactCountIn", vars := ["loop.example/g00780/impl.bounds"], fn := fun _ => fun
  | [d, g1] => { results := [.lit (.bool false)], args := [d], vars := [g1] }
  | _ => none }
def FnExactCountInWrongFalsely : Prop := fnExactCountInRow.holds Tryd.pinned (OpenSpec.ofChange fnExactCountInWrong)

/-- 'laws.FnExactBoxOf': WHATEVER THE INPUT: true; the input reads as it did. -/
def fnExactBoxOfSpec : ChangeSpec := { name := "fnExactBoxOf", vars := ["loop.example/g00780/impl.bounds"], fn := fun _ => fun
  | [d, g1] => { results := [.lit (.bool true)], args := [d], vars := [g1] }
  | _ => none }
def fnExactBoxOfRow : OpenClaim := { program := "ytohcllojjmhbcaadoor", sum := "662b9f7dd39dfcd871cacde661b8d6eb15e33cccbc00c4c664a964bcb2c3fdc4", func := "loop.example/g00780/laws.FnExactBoxOf", spec := "fnExactBoxOf", unfollowed := true, recurses := true, named := ["loop.example/g00780/impl.bounds"], apart := false, laid := [("loop.example/g00780/impl.bounds", laid_loop_example_g00780_impl_bounds)] }
def FnExactBoxOfSaid : Prop := fnExactBoxOfRow.holds Tryd.pinned (OpenSpec.ofChange fnExactBoxOfSpec)

/-- ITS FALSE NEIGHBOUR: 'it returns false'. Refute it at one input. -/
def fnExactBoxOfWrong : ChangeSpec := { name := "fnExactBoxOf", vars := ["loop.example/g00780/impl.bounds"], fn := fun _ => fun
  | [d, g1] => { results := [.lit (.bool false)], args := [d], vars := [g1] }
  | _ => none }
def FnExactBoxOfWrongFalsely : Prop := fnExactBoxOfRow.holds Tryd.pinned (OpenSpec.ofChange fnExactBoxOfWrong)

/-- 'laws.FnExactMiddleOf': WHATEVER THE INPUT: true; the input reads as it did. -/
def fnExactMiddleOfSpec : ChangeSpec := { name := "fnExactMiddleOf", vars := ["loop.example/g00780/impl.bounds"], fn := fun _ => fun
  | [d, g1] => { results := [.lit (.bool true)], args := [d], vars := [g1] }
  | _ => none }
def fnExactMiddleOfRow : OpenClaim := { program := "ytohcllojjmhbcaadoor", sum := "662b9f7dd39dfcd871cacde661b8d6eb15e33cccbc00c4c664a964bcb2c3fdc4", func := "loop.example/g00780/laws.FnExactMiddleOf", spec := "fnExactMiddleOf", unfollowed := true, recurses := true, named := ["loop.example/g00780/impl.bounds"], apart := false, laid := [("loop.example/g00780/impl.bounds", laid_loop_example_g00780_impl_bounds)] }
def FnExactMiddleOfSaid : Prop := fnExactMiddleOfRow.holds Tryd.pinned (OpenSpec.ofChange fnExactMiddleOfSpec)

/-- ITS FALSE NEIGHBOUR: 'it returns false'. Refute it at one input. -/
def fnExactMiddleOfWrong : ChangeSpec := { name := "fnExactMiddleOf", vars := ["loop.example/g00780/impl.bounds"], fn := fun _ => fun
  | [d, g1] => { results := [.lit (.bool false)], args := [d], vars := [g1] }
  | _ => none }
def FnExactMiddleOfWrongFalsely : Prop := fnExactMiddleOfRow.holds Tryd.pinned (OpenSpec.ofChange fnExactMiddleOfWrong)

/- THE SECOND FORM. 'bulk': how many values and letters a reading holds, each counted each time it is reached (what is shared counts as often as it is met; a slice's spare places count too). A statement '..UptoSaid' is the law's where the arguments, and the package variables that the reading takes, are together of bulk at most 1048576: NARROWER than '..Said'. Prove '..Said' where nothing that the law and all that it calls make is longer than what came in: it says more and counts as full. Else prove '..UptoSaid'. A law counts once. -/
mutual
def uptoBulk {H : Type} : DataW H → Nat
  | .lit (.string bytes) => bytes.length + 1
  | .lit _ => 1
  | .nil => 1
  | .ptr d => uptoBulk d + 1
  | .slice elems spare => uptoBulkAll elems + uptoBulkAll spare + 1
  | .agg parts => uptoBulkAll parts + 1
  | .iface _ d => uptoBulk d + 1
  | .map entries => uptoBulkEntries entries + 1
  | .held _ => 1
def uptoBulkAll {H : Type} : List (DataW H) → Nat
  | [] => 0
  | d :: r => uptoBulk d + uptoBulkAll r
def uptoBulkEntries {H : Type} : List (Lit × DataW H) → Nat
  | [] => 0
  | x :: r => uptoBulkEntry x + uptoBulkEntries r
def uptoBulkEntry {H : Type} : Lit × DataW H → Nat
  | (.string bytes, d) => bytes.length + uptoBulk d + 1
  | (_, d) => uptoBulk d + 1
 end
def uptoSmall : (H : Type) → List (DataW H) → Bool := fun _ ds => decide (uptoBulkAll ds ≤ 1048576)
def OpenSpec.upto (s : _root_.Go.ChangeSpec) : _root_.Go.OpenSpec := { _root_.Go.OpenSpec.ofChange s with cond := some uptoSmall }

/-- 'laws.FnAreas', WHERE WHAT IT READS IS OF BULK AT MOST 1048576: true; the input reads as it did. -/
def fnAreasUptoRow : OpenClaim := { program := "ytohcllojjmhbcaadoor", sum := "662b9f7dd39dfcd871cacde661b8d6eb15e33cccbc00c4c664a964bcb2c3fdc4", func := "loop.example/g00780/laws.FnAreas", spec := "fnAreas", unfollowed := true, recurses := true, named := ["loop.example/g00780/impl.bounds"], apart := false, laid := [("loop.example/g00780/impl.bounds", laid_loop_example_g00780_impl_bounds)], narrowed := true }
def FnAreasUptoSaid : Prop := fnAreasUptoRow.holds Tryd.pinned (OpenSpec.upto fnAreasSpec)

/-- 'laws.FnExactTwiceArea', WHERE WHAT IT READS IS OF BULK AT MOST 1048576: true; the input reads as it did. -/
def fnExactTwiceAreaUptoRow : OpenClaim := { program := "ytohcllojjmhbcaadoor", sum := "662b9f7dd39dfcd871cacde661b8d6eb15e33cccbc00c4c664a964bcb2c3fdc4", func := "loop.example/g00780/laws.FnExactTwiceArea", spec := "fnExactTwiceArea", unfollowed := true, recurses := true, named := ["loop.example/g00780/impl.bounds"], apart := false, laid := [("loop.example/g00780/impl.bounds", laid_loop_example_g00780_impl_bounds)], narrowed := true }
def FnExactTwiceAreaUptoSaid : Prop := fnExactTwiceAreaUptoRow.holds Tryd.pinned (OpenSpec.upto fnExactTwiceAreaSpec)

/-- 'laws.FnExactStepsOn', WHERE WHAT IT READS IS OF BULK AT MOST 1048576: true; the input reads as it did. -/
def fnExactStepsOnUptoRow : OpenClaim := { program := "ytohcllojjmhbcaadoor", sum := "662b9f7dd39dfcd871cacde661b8d6eb15e33cccbc00c4c664a964bcb2c3fdc4", func := "loop.example/g00780/laws.FnExactStepsOn", spec := "fnExactStepsOn", named := ["loop.example/g00780/impl.bounds"], apart := false, laid := [("loop.example/g00780/impl.bounds", laid_loop_example_g00780_impl_bounds)], narrowed := true }
def FnExactStepsOnUptoSaid : Prop := fnExactStepsOnUptoRow.holds Tryd.pinned (OpenSpec.upto fnExactStepsOnSpec)

/-- 'laws.FnExactRimPoints', WHERE WHAT IT READS IS OF BULK AT MOST 1048576: true; the input reads as it did. -/
def fnExactRimPointsUptoRow : OpenClaim := { program := "ytohcllojjmhbcaadoor", sum := "662b9f7dd39dfcd871cacde661b8d6eb15e33cccbc00c4c664a964bcb2c3fdc4", func := "loop.example/g00780/laws.FnExactRimPoints", spec := "fnExactRimPoints", unfollowed := true, recurses := true, named := ["loop.example/g00780/impl.bounds"], apart := false, laid := [("loop.example/g00780/impl.bounds", laid_loop_example_g00780_impl_bounds)], narrowed := true }
def FnExactRimPointsUptoSaid : Prop := fnExactRimPointsUptoRow.holds Tryd.pinned (OpenSpec.upto fnExactRimPointsSpec)

/-- 'laws.FnExactInnerPoints', WHERE WHAT IT READS IS OF BULK AT MOST 1048576: true; the input reads as it did. -/
def fnExactInnerPointsUptoRow : OpenClaim := { program := "ytohcllojjmhbcaadoor", sum := "662b9f7dd39dfcd871cacde661b8d6eb15e33cccbc00c4c664a964bcb2c3fdc4", func := "loop.example/g00780/laws.FnExactInnerPoints", spec := "fnExactInnerPoints", unfollowed := true, recurses := true, named := ["loop.example/g00780/impl.bounds"], apart := false, laid := [("loop.example/g00780/impl.bounds", laid_loop_example_g00780_impl_bounds)], narrowed := true }
def FnExactInnerPointsUptoSaid : Prop := fnExactInnerPointsUptoRow.holds Tryd.pinned (OpenSpec.upto fnExactInnerPointsSpec)

/-- 'laws.FnExactCountIn', WHERE WHAT IT READS IS OF BULK AT MOST 1048576: true; the input reads as it did. -/
def fnExactCountInUptoRow : OpenClaim := { program := "ytohcllojjmhbcaadoor", sum := "662b9f7dd39dfcd871cacde661b8d6eb15e33cccbc00c4c664a964bcb2c3fdc4", func := "loop.example/g00780/laws.FnExactCountIn", spec := "fnExactCountIn", unfollowed := true, recurses := true, named := ["loop.example/g00780/impl.bounds"], apart := false, laid := [("loop.example/g00780/impl.bounds", laid_loop_example_g00780_impl_bounds)], narrowed := true }
def FnExactCountInUptoSaid : Prop := fnExactCountInUptoRow.holds Tryd.pinned (OpenSpec.upto fnExactCountInSpec)

/-- 'laws.FnExactBoxOf', WHERE WHAT IT READS IS OF BULK AT MOST 1048576: true; the input reads as it did. -/
def fnExactBoxOfUptoRow : OpenClaim := { program := "ytohcllojjmhbcaadoor", sum := "662b9f7dd39dfcd871cacde661b8d6eb15e33cccbc00c4c664a964bcb2c3fdc4", func := "loop.example/g00780/laws.FnExactBoxOf", spec := "fnExactBoxOf", unfollowed := true, recurses := true, named := ["loop.example/g00780/impl.bounds"], apart := false, laid := [("loop.example/g00780/impl.bounds", laid_loop_example_g00780_impl_bounds)], narrowed := true }
def FnExactBoxOfUptoSaid : Prop := fnExactBoxOfUptoRow.holds Tryd.pinned (OpenSpec.upto fnExactBoxOfSpec)

/-- 'laws.FnExactMiddleOf', WHERE WHAT IT READS IS OF BULK AT MOST 1048576: true; the input reads as it did. -/
def fnExactMiddleOfUptoRow : OpenClaim := { program := "ytohcllojjmhbcaadoor", sum := "662b9f7dd39dfcd871cacde661b8d6eb15e33cccbc00c4c664a964bcb2c3fdc4", func := "loop.example/g00780/laws.FnExactMiddleOf", spec := "fnExactMiddleOf", unfollowed := true, recurses := true, named := ["loop.example/g00780/impl.bounds"], apart := false, laid := [("loop.example/g00780/impl.bounds", laid_loop_example_g00780_impl_bounds)], narrowed := true }
def FnExactMiddleOfUptoSaid : Prop := fnExactMiddleOfUptoRow.holds Tryd.pinned (OpenSpec.upto fnExactMiddleOfSpec)

end Rows
end Go.Proofs.YtohcllojjmhbcaaDoor
