/-
  NARROWER THAN 'FOR EVERY INPUT', by the rows' own cells (each row's printed sentence says how): FnBridges: laid · FnTrees: laid · FnExactBridgeOf: laid · FnExactIsBridge: laid · FnExactMergeLower: laid · FnExactBuildTree: laid · FnExactGoodTree: laid · FnExactLowerAt: laid · FnExactPathTo: laid · FnExactRebuildWith: laid.
  DERIVED. THE GIVEN ROWS OF THIS SEAT. 10 by the template 'for every input the law returns true; each argument reads behind the call as it read before'; 0 by the template 'total and deterministic' (their statements: YtekejglpkeepiaaDoorTotals.lean).
  GIVEN WITH THE SEED: the statements are not yours to turn. If you find one false, say at which input.
  Laid BY PROGRAM, IN A SANDBOX (cutbox-rows.mjs): the forced cells as the released guide's own fill.sh prints them over the translation cceb06f861804b94… (all of the seat's roots in one cut). By AI agents, Wed Nov 11 2026. No macro, syntax, notation, axiom, sorry.
-/
import Derived.Test.YtekejglpkeepiaaDoorChecked
import GoSem.Claim
import GoSem.ClaimJoined
import GoSem.ClaimMapViews
import Derived.JoinedTies
import Derived.KernelRfl
namespace Go.Proofs.YtekejglpkeepiaaDoor
/- THE CELL 'sum', in the pinned program and in every row, IS THE sha256 OF THE DUMP (.gsa) THAT YtekejglpkeepiaaDoorProg.lean LOADS. Nothing in Lean hashes anything: it is a label: what it is worth is what the hold of that sum in a sandbox is worth. -/
noncomputable def Tryd.pinned : Pinned := { name := "ytekejglpkeepiaadoor", sum := "cceb06f861804b947700a9d566e38c70b89e3e4997467e971afe297e7a144c9e", checked := Tryd.checked }
namespace Rows
def none {H : Type} : Left H := { results := [], args := [] }

/- WHAT THE LISTED PACKAGE-LEVEL VARIABLES READ AS WHEN THE CALL BEGINS. Each datum BY PROGRAM (the guide's laid-datum.mjs) off the statement by which the dump's own 'gosem.cut.vars' lays the variable. In a bare row this is a premise. The card (YtekejglpkeepiaaDoorCards.lean) ties it to the program's text. -/
def laid_loop_example_g00780_impl_bounds {H : Type} : DataW H := .agg [.lit (.int .i64 1000000), .lit (.int .i64 1099511627776), .lit (.int .i64 4398046511104), .lit (.int .i64 40)]

/-- 'laws.FnBridges': WHATEVER THE INPUT: true; the input reads as it did. -/
def fnBridgesSpec : ChangeSpec := { name := "fnBridges", vars := ["loop.example/g00780/impl.bounds"], fn := fun _ => fun
  | [d1, d2, g1] => { results := [.lit (.bool true)], args := [d1, d2], vars := [g1] }
  | _ => none }
def fnBridgesRow : OpenClaim := { program := "ytekejglpkeepiaadoor", sum := "cceb06f861804b947700a9d566e38c70b89e3e4997467e971afe297e7a144c9e", func := "loop.example/g00780/laws.FnBridges", spec := "fnBridges", unfollowed := true, recurses := true, named := ["loop.example/g00780/impl.bounds"], apart := false, laid := [("loop.example/g00780/impl.bounds", laid_loop_example_g00780_impl_bounds)] }
def FnBridgesSaid : Prop := fnBridgesRow.holds Tryd.pinned (OpenSpec.ofChange fnBridgesSpec)

/-- ITS FALSE NEIGHBOUR: 'it returns false'. Refute it at one input. -/
def fnBridgesWrong : ChangeSpec := { name := "fnBridges", vars := ["loop.example/g00780/impl.bounds"], fn := fun _ => fun
  | [d1, d2, g1] => { results := [.lit (.bool false)], args := [d1, d2], vars := [g1] }
  | _ => none }
def FnBridgesWrongFalsely : Prop := fnBridgesRow.holds Tryd.pinned (OpenSpec.ofChange fnBridgesWrong)

/-- 'laws.FnTrees': WHATEVER THE INPUT: true; the input reads as it did. -/
def fnTreesSpec : ChangeSpec := { name := "fnTrees", vars := ["loop.example/g00780/impl.bounds"], fn := fun _ => fun
  | [d1, d2, g1] => { results := [.lit (.bool true)], args := [d1, d2], vars := [g1] }
  | _ => none }
def fnTreesRow : OpenClaim := { program := "ytekejglpkeepiaadoor", sum := "cceb06f861804b947700a9d566e38c70b89e3e4997467e971afe297e7a144c9e", func := "loop.example/g00780/laws.FnTrees", spec := "fnTrees", unfollowed := true, recurses := true, named := ["loop.example/g00780/impl.bounds"], apart := false, laid := [("loop.example/g00780/impl.bounds", laid_loop_example_g00780_impl_bounds)] }
def FnTreesSaid : Prop := fnTreesRow.holds Tryd.pinned (OpenSpec.ofChange fnTreesSpec)

/-- ITS FALSE NEIGHBOUR: 'it returns false'. Refute it at one input. -/
def fnTreesWrong : ChangeSpec := { name := "fnTrees", vars := ["loop.example/g00780/impl.bounds"], fn := fun _ => fun
  | [d1, d2, g1] => { results := [.lit (.bool false)], args := [d1, d2], vars := [g1] }
  | _ => none }
def FnTreesWrongFalsely : Prop := fnTreesRow.holds Tryd.pinned (OpenSpec.ofChange fnTreesWrong)

/-- 'laws.FnExactBridgeOf': WHATEVER THE INPUT: true; the input reads as it did. -/
def fnExactBridgeOfSpec : ChangeSpec := { name := "fnExactBridgeOf", vars := ["loop.example/g00780/impl.bounds"], fn := fun _ => fun
  | [d1, d2, g1] => { results := [.lit (.bool true)], args := [d1, d2], vars := [g1] }
  | _ => none }
def fnExactBridgeOfRow : OpenClaim := { program := "ytekejglpkeepiaadoor", sum := "cceb06f861804b947700a9d566e38c70b89e3e4997467e971afe297e7a144c9e", func := "loop.example/g00780/laws.FnExactBridgeOf", spec := "fnExactBridgeOf", unfollowed := true, recurses := true, named := ["loop.example/g00780/impl.bounds"], apart := false, laid := [("loop.example/g00780/impl.bounds", laid_loop_example_g00780_impl_bounds)] }
def FnExactBridgeOfSaid : Prop := fnExactBridgeOfRow.holds Tryd.pinned (OpenSpec.ofChange fnExactBridgeOfSpec)

/-- ITS FALSE NEIGHBOUR: 'it returns false'. Refute it at one input. -/
def fnExactBridgeOfWrong : ChangeSpec := { name := "fnExactBridgeOf", vars := ["loop.example/g00780/impl.bounds"], fn := fun _ => fun
  | [d1, d2, g1] => { results := [.lit (.bool false)], args := [d1, d2], vars := [g1] }
  | _ => none }
def FnExactBridgeOfWrongFalsely : Prop := fnExactBridgeOfRow.holds Tryd.pinned (OpenSpec.ofChange fnExactBridgeOfWrong)

/-- 'laws.FnExactIsBridge': WHATEVER THE INPUT: true; the input reads as it did. -/
def fnExactIsBridgeSpec : ChangeSpec := { name := "fnExactIsBridge", vars := ["loop.example/g00780/impl.bounds"], fn := fun _ => fun
  | [d1, d2, d3, d4, g1] => { results := [.lit (.bool true)], args := [d1, d2, d3, d4], vars := [g1] }
  | _ => none }
def fnExactIsBridgeRow : OpenClaim := { program := "ytekejglpkeepiaadoor", sum := "cceb06f861804b947700a9d566e38c70b89e3e4997467e971afe297e7a144c9e", func := "loop.example/g00780/laws.FnExactIsBridge", spec := "fnExactIsBridge", unfollowed := true, recurses := true, named := ["loop.example/g00780/impl.bounds"], apart := false, laid := [("loop.example/g00780/impl.bounds", laid_loop_example_g00780_impl_bounds)] }
def FnExactIsBridgeSaid : Prop := fnExactIsBridgeRow.holds Tryd.pinned (OpenSpec.ofChange fnExactIsBridgeSpec)

/-- ITS FALSE NEIGHBOUR: 'it returns false'. Refute it at one input. -/
def fnExactIsBridgeWrong : ChangeSpec := { name := "fnExactIsBridge", vars := ["loop.example/g00780/impl.bounds"], fn := fun _ => fun
  | [d1, d2, d3, d4, g1] => { results := [.lit (.bool false)], args := [d1, d2, d3, d4], vars := [g1] }
  | _ => none }
def FnExactIsBridgeWrongFalsely : Prop := fnExactIsBridgeRow.holds Tryd.pinned (OpenSpec.ofChange fnExactIsBridgeWrong)

/-- 'laws.FnExactMergeLower': WHATEVER THE INPUT: true; the input reads as it did. -/
def fnExactMergeLowerSpec : ChangeSpec := { name := "fnExactMergeLower", vars := ["loop.example/g00780/impl.bounds"], fn := fun _ => fun
  | [d1, d2, g1] => { results := [.lit (.bool true)], args := [d1, d2], vars := [g1] }
  | _ => none }
def fnExactMergeLowerRow : OpenClaim := { program := "ytekejglpkeepiaadoor", sum := "cceb06f861804b947700a9d566e38c70b89e3e4997467e971afe297e7a144c9e", func := "loop.example/g00780/laws.FnExactMergeLower", spec := "fnExactMergeLower", unfollowed := true, recurses := true, named := ["loop.example/g00780/impl.bounds"], apart := false, laid := [("loop.example/g00780/impl.bounds", laid_loop_example_g00780_impl_bounds)] }
def FnExactMergeLowerSaid : Prop := fnExactMergeLowerRow.holds Tryd.pinned (OpenSpec.ofChange fnExactMergeLowerSpec)

/-- ITS FALSE NEIGHBOUR: 'it returns false'. Refute it at one input. -/
def fnExactMergeLowerWrong : ChangeSpec := { name := "fnExactMergeLower", vars := ["loop.example/g00780/impl.bounds"], fn := fun _ => fun
  | [d1, d2, g1] => { results := [.lit (.bool false)], args := [d1, d2], vars := [g1] }
  | _ => none }
def FnExactMergeLowerWrongFalsely : Prop := fnExactMergeLowerRow.holds Tryd.pinned (OpenSpec.ofChange fnExactMergeLowerWrong)

/-- 'laws.FnExactBuildTree': WHATEVER THE INPUT: true; the input reads as it did. -/
def fnExactBuildTreeSpec : ChangeSpec := { name := "fnExactBuildTree", vars := ["loop.example/g00780/impl.bounds"], fn := fun _ => fun
  | [d, g1] => { results := [.lit (.bool true)], args := [d], vars := [g1] }
  | _ => none }
def fnExactBuildTreeRow : OpenClaim := { program := "ytekejglpkeepiaadoor", sum := "cceb06f861804b947700a9d566e38c70b89e3e4997467e971afe297e7a144c9e", func := "loop.example/g00780/laws.FnExactBuildTree", spec := "fnExactBuildTree", unfollowed := true, recurses := true, named := ["loop.example/g00780/impl.bounds"], apart := false, laid := [("loop.example/g00780/impl.bounds", laid_loop_example_g00780_impl_bounds)] }
def FnExactBuildTreeSaid : Prop := fnExactBuildTreeRow.holds Tryd.pinned (OpenSpec.ofChange fnExactBuildTreeSpec)

/-- ITS FALSE NEIGHBOUR: 'it returns false'. Refute it at one input. -/
def fnExactBuildTreeWrong : ChangeSpec := { name := "fnExactBuildTree", vars := ["loop.example/g00780/impl.bounds"], fn := fun _ => fun
  | [d, g1] => { results := [.lit (.bool false)], args := [d], vars := [g1] }
  | _ => none }
def FnExactBuildTreeWrongFalsely : Prop := fnExactBuildTreeRow.holds Tryd.pinned (OpenSpec.ofChange fnExactBuildTreeWrong)

/-- 'laws.FnExactGoodTree': WHATEVER THE INPUT: true; the input reads as it did. -/
def fnExactGoodTreeSpec : ChangeSpec := { name := "fnExactGoodTree", vars := ["loop.example/g00780/impl.bounds"], fn := fun _ => fun
  | [d, g1] => { results := [.lit (.bool true)], args := [d], vars := [g1] }
  | _ => none }
def fnExactGoodTreeRow : OpenClaim := { program := "ytekejglpkeepiaadoor", sum := "cceb06f861804b947700a9d566e38c70b89e3e4997467e971afe297e7a144c9e", func := "loop.example/g00780/laws.FnExactGoodTree", spec := "fnExactGoodTree", unfollowed := true, recurses := true, named := ["loop.example/g00780/impl.bounds"], apart := false, laid := [("loop.example/g00780/impl.bounds", laid_loop_example_g00780_impl_bounds)] }
def FnExactGoodTreeSaid : Prop := fnExactGoodTreeRow.holds Tryd.pinned (OpenSpec.ofChange fnExactGoodTreeSpec)

/-- ITS FALSE NEIGHBOUR: 'it returns false'. Refute it at one input. -/
def fnExactGoodTreeWrong : ChangeSpec := { name := "fnExactGoodTree", vars := ["loop.example/g00780/impl.bounds"], fn := fun _ => fun
  | [d, g1] => { results := [.lit (.bool false)], args := [d], vars := [g1] }
  | _ => none }
def FnExactGoodTreeWrongFalsely : Prop := fnExactGoodTreeRow.holds Tryd.pinned (OpenSpec.ofChange fnExactGoodTreeWrong)

/-- 'laws.FnExactLowerAt': WHATEVER THE INPUT: true; the input reads as it did. -/
def fnExactLowerAtSpec : ChangeSpec := { name := "fnExactLowerAt", vars := ["loop.example/g00780/impl.bounds"], fn := fun _ => fun
  | [d1, d2, g1] => { results := [.lit (.bool true)], args := [d1, d2], vars := [g1] }
  | _ => none }
def fnExactLowerAtRow : OpenClaim := { program := "ytekejglpkeepiaadoor", sum := "cceb06f861804b947700a9d566e38c70b89e3e4997467e971afe297e7a144c9e", func := "loop.example/g00780/laws.FnExactLowerAt", spec := "fnExactLowerAt", unfollowed := true, recurses := true, named := ["loop.example/g00780/impl.bounds"], apart := false, laid := [("loop.example/g00780/impl.bounds", laid_loop_example_g00780_impl_bounds)] }
def FnExactLowerAtSaid : Prop := fnExactLowerAtRow.holds Tryd.pinned (OpenSpec.ofChange fnExactLowerAtSpec)

/-- ITS FALSE NEIGHBOUR: 'it returns false'. Refute it at one input. -/
def fnExactLowerAtWrong : ChangeSpec := { name := "fnExactLowerAt", vars := ["loop.example/g00780/impl.bounds"], fn := fun _ => fun
  | [d1, d2, g1] => { results := [.lit (.bool false)], args := [d1, d2], vars := [g1] }
  | _ => none }
def FnExactLowerAtWrongFalsely : Prop := fnExactLowerAtRow.holds Tryd.pinned (OpenSpec.ofChange fnExactLowerAtWrong)

/-- 'laws.FnExactPathTo': WHATEVER THE INPUT: true; the input reads as it did. -/
def fnExactPathToSpec : ChangeSpec := { name := "fnExactPathTo", vars := ["loop.example/g00780/impl.bounds"], fn := fun _ => fun
  | [d1, d2, g1] => { results := [.lit (.bool true)], args := [d1, d2], vars := [g1] }
  | _ => none }
def fnExactPathToRow : OpenClaim := { program := "ytekejglpkeepiaadoor", sum := "cceb06f861804b947700a9d566e38c70b89e3e4997467e971afe297e7a144c9e", func := "loop.example/g00780/laws.FnExactPathTo", spec := "fnExactPathTo", unfollowed := true, recurses := true, named := ["loop.example/g00780/impl.bounds"], apart := false, laid := [("loop.example/g00780/impl.bounds", laid_loop_example_g00780_impl_bounds)] }
def FnExactPathToSaid : Prop := fnExactPathToRow.holds Tryd.pinned (OpenSpec.ofChange fnExactPathToSpec)

/-- ITS FALSE NEIGHBOUR: 'it returns false'. Refute it at one input. -/
def fnExactPathToWrong : ChangeSpec := { name := "fnExactPathTo", vars := ["loop.example/g00780/impl.bounds"], fn := fun _ => fun
  | [d1, d2, g1] => { results := [.lit (.bool false)], args := [d1, d2], vars := [g1] }
  | _ => none }
def FnExactPathToWrongFalsely : Prop := fnExactPathToRow.holds Tryd.pinned (OpenSpec.ofChange fnExactPathToWrong)

/-- 'laws.FnExactRebuildWith': WHATEVER THE INPUT: true; the input reads as it did. -/
def fnExactRebuildWithSpec : ChangeSpec := { name := "fnExactRebuildWith", vars := ["loop.example/g00780/impl.bounds"], fn := fun _ => fun
  | [d1, d2, g1] => { results := [.lit (.bool true)], args := [d1, d2], vars := [g1] }
  | _ => none }
def fnExactRebuildWithRow : OpenClaim := { program := "ytekejglpkeepiaadoor", sum := "cceb06f861804b947700a9d566e38c70b89e3e4997467e971afe297e7a144c9e", func := "loop.example/g00780/laws.FnExactRebuildWith", spec := "fnExactRebuildWith", unfollowed := true, recurses := true, named := ["loop.example/g00780/impl.bounds"], apart := false, laid := [("loop.example/g00780/impl.bounds", laid_loop_example_g00780_impl_bounds)] }
def FnExactRebuildWithSaid : Prop := fnExactRebuildWithRow.holds Tryd.pinned (OpenSpec.ofChange fnExactRebuildWithSpec)

/-- ITS FALSE NEIGHBOUR: 'it returns false'. Refute it at one input. -/
def fnExactRebuildWithWrong : ChangeSpec := { name := "fnExactRebuildWith", vars := ["loop.example/g00780/impl.bounds"], fn := fun _ => fun
  | [d1, d2, g1] => { results := [.lit (.bool false)], args := [d1, d2], vars := [g1] }
  | _ => none }
def FnExactRebuildWithWrongFalsely : Prop := fnExactRebuildWithRow.holds Tryd.pinned (OpenSpec.ofChange fnExactRebuildWithWrong)

/- THE SECOND FORM. 'bulk': how many values and letters a reading holds, each counted each time it is reached (what is shared counts as often as it is met; a slice's spare places count too). A statement '..UptoSaid' is the law's where the arguments, and the package variables that the reading takes, are together of bulk at most 1048576: NARROWER than '..Said'. Prove '..Said' where nothing that the law and all that it calls make is longer than what came in: it says more and counts as full. Else prove '..UptoSaid'. A law counts once. -/
mutual
def uptoBulk {H : Type} : DataW H → Nat
  | .lit (.string bytes) => bytes.length + 1
  | .lit _ => 1
  | .nil => 1
  | .ptr d => uptoBulk d + 1
  | .slice elems spare => uptoBulkAll elems + uptoBulkAll spare + 1
  | .agg parts => uptoBulkAll parts + 1
  | .iface _ d => uptoBulk d + 1
  | .map entries => uptoBulkEntries entries + 1
  | .held _ => 1
def uptoBulkAll {H : Type} : List (DataW H) → Nat
  | [] => 0
  | d :: r => uptoBulk d + uptoBulkAll r
def uptoBulkEntries {H : Type} : List (Lit × DataW H) → Nat
  | [] => 0
  | x :: r => uptoBulkEntry x + uptoBulkEntries r
def uptoBulkEntry {H : Type} : Lit × DataW H → Nat
  | (.string bytes, d) => bytes.length + uptoBulk d + 1
  | (_, d) => uptoBulk d + 1
 end
def uptoSmall : (H : Type) → List (DataW H) → Bool := fun _ ds => decide (uptoBulkAll ds ≤ 1048576)
def OpenSpec.upto (s : _root_.Go.ChangeSpec) : _root_.Go.OpenSpec := { _root_.Go.OpenSpec.ofChange s with cond := some uptoSmall }

/-- 'laws.FnBridges', WHERE WHAT IT READS IS OF BULK AT MOST 1048576: true; the input reads as it did. -/
def fnBridgesUptoRow : OpenClaim := { program := "ytekejglpkeepiaadoor", sum := "cceb06f861804b947700a9d566e38c70b89e3e4997467e971afe297e7a144c9e", func := "loop.example/g00780/laws.FnBridges", spec := "fnBridges", unfollowed := true, recurses := true, named := ["loop.example/g00780/impl.bounds"], apart := false, laid := [("loop.example/g00780/impl.bounds", laid_loop_example_g00780_impl_bounds)], narrowed := true }
def FnBridgesUptoSaid : Prop := fnBridgesUptoRow.holds Tryd.pinned (OpenSpec.upto fnBridgesSpec)

/-- 'laws.FnTrees', WHERE WHAT IT READS IS OF BULK AT MOST 1048576: true; the input reads as it did. -/
def fnTreesUptoRow : OpenClaim := { program := "ytekejglpkeepiaadoor", sum := "cceb06f861804b947700a9d566e38c70b89e3e4997467e971afe297e7a144c9e", func := "loop.example/g00780/laws.FnTrees", spec := "fnTrees", unfollowed := true, recurses := true, named := ["loop.example/g00780/impl.bounds"], apart := false, laid := [("loop.example/g00780/impl.bounds", laid_loop_example_g00780_impl_bounds)], narrowed := true }
def FnTreesUptoSaid : Prop := fnTreesUptoRow.holds Tryd.pinned (OpenSpec.upto fnTreesSpec)

/-- 'laws.FnExactBridgeOf', WHERE WHAT IT READS IS OF BULK AT MOST 1048576: true; the input reads as it did. -/
def fnExactBridgeOfUptoRow : OpenClaim := { program := "ytekejglpkeepiaadoor", sum := "cceb06f861804b947700a9d566e38c70b89e3e4997467e971afe297e7a144c9e", func := "loop.example/g00780/laws.FnExactBridgeOf", spec := "fnExactBridgeOf", unfollowed := true, recurses := true, named := ["loop.example/g00780/impl.bounds"], apart := false, laid := [("loop.example/g00780/impl.bounds", laid_loop_example_g00780_impl_bounds)], narrowed := true }
def FnExactBridgeOfUptoSaid : Prop := fnExactBridgeOfUptoRow.holds Tryd.pinned (OpenSpec.upto fnExactBridgeOfSpec)

/-- 'laws.FnExactIsBridge', WHERE WHAT IT READS IS OF BULK AT MOST 1048576: true; the input reads as it did. -/
def fnExactIsBridgeUptoRow : OpenClaim := { program := "ytekejglpkeepiaadoor", sum := "cceb06f861804b947700a9d566e38c70b89e3e4997467e971afe297e7a144c9e", func := "loop.example/g00780/laws.FnExactIsBridge", spec := "fnExactIsBridge", unfollowed := true, recurses := true, named := ["loop.example/g00780/impl.bounds"], apart := false, laid := [("loop.example/g00780/impl.bounds", laid_loop_example_g00780_impl_bounds)], narrowed := true }
def FnExactIsBridgeUptoSaid : Prop := fnExactIsBridgeUptoRow.holds Tryd.pinned (OpenSpec.upto fnExactIsBridgeSpec)

/-- 'laws.FnExactMergeLower', WHERE WHAT IT READS IS OF BULK AT MOST 1048576: true; the input reads as it did. -/
def fnExactMergeLowerUptoRow : OpenClaim := { program := "ytekejglpkeepiaadoor", sum := "cceb06f861804b947700a9d566e38c70b89e3e4997467e971afe297e7a144c9e", func := "loop.example/g00780/laws.FnExactMergeLower", spec := "fnExactMergeLower", unfollowed := true, recurses := true, named := ["loop.example/g00780/impl.bounds"], apart := false, laid := [("loop.example/g00780/impl.bounds", laid_loop_example_g00780_impl_bounds)], narrowed := true }
def FnExactMergeLowerUptoSaid : Prop := fnExactMergeLowerUptoRow.holds Tryd.pinned (OpenSpec.upto fnExactMergeLowerSpec)

/-- 'laws.FnExactBuildTree', WHERE WHAT IT READS IS OF BULK AT MOST 1048576: true; the input reads as it did. -/
def fnExactBuildTreeUptoRow : OpenClaim := { program := "ytekejglpkeepiaadoor", sum := "cceb06f861804b947700a9d566e38c70b89e3e4997467e971afe297e7a144c9e", func := "loop.example/g00780/laws.FnExactBuildTree", spec := "fnExactBuildTree", unfollowed := true, recurses := true, named := ["loop.example/g00780/impl.bounds"], apart := false, laid := [("loop.example/g00780/impl.bounds", laid_loop_example_g00780_impl_bounds)], narrowed := true }
def FnExactBuildTreeUptoSaid : Prop := fnExactBuildTreeUptoRow.holds Tryd.pinned (OpenSpec.upto fnExactBuildTreeSpec)

/-- 'laws.FnExactGoodTree', WHERE WHAT IT READS IS OF BULK AT MOST 1048576: true; the input reads as it did. -/
def fnExactGoodTreeUptoRow : OpenClaim := { program := "ytekejglpkeepiaadoor", sum := "cceb06f861804b947700a9d566e38c70b89e3e4997467e971afe297e7a144c9e", func := "loop.example/g00780/laws.FnExactGoodTree", spec := "fnExactGoodTree", unfollowed := true, recurses := true, named := ["loop.example/g00780/impl.bounds"], apart := false, laid := [("loop.example/g00780/impl.bounds", laid_loop_example_g00780_impl_bounds)], narrowed := true }
def FnExactGoodTreeUptoSaid : Prop := fnExactGoodTreeUptoRow.holds Tryd.pinned (OpenSpec.upto fnExactGoodTreeSpec)

/-- 'laws.FnExactLowerAt', WHERE WHAT IT READS IS OF BULK AT MOST 1048576: true; the input reads as it did. -/
def fnExactLowerAtUptoRow : OpenClaim := { program := "ytekejglpkeepiaadoor", sum := "cceb06f861804b947700a9d566e38c70b89e3e4997467e971afe297e7a144c9e", func := "loop.example/g00780/laws.FnExactLowerAt", spec := "fnExactLowerAt", unfollowed := true, recurses := true, named := ["loop.example/g00780/impl.bounds"], apart := false, laid := [("loop.example/g00780/impl.bounds", laid_loop_example_g00780_impl_bounds)], narrowed := true }
def FnExactLowerAtUptoSaid : Prop := fnExactLowerAtUptoRow.holds Tryd.pinned (OpenSpec.upto fnExactLowerAtSpec)

/-- 'laws.FnExactPathTo', WHERE WHAT IT READS IS OF BULK AT MOST 1048576: true; the input reads as it did. -/
def fnExactPathToUptoRow : OpenClaim := { program := "ytekejglpkeepiaadoor", sum := "cceb06f861804b947700a9d566e38c70b89e3e4997467e971afe297e7a144c9e", func := "loop.example/g00780/laws.FnExactPathTo", spec := "fnExactPathTo", unfollowed := true, recurses := true, named := ["loop.example/g00780/impl.bounds"], apart := false, laid := [("loop.example/g00780/impl.bounds", laid_loop_example_g00780_impl_bounds)], narrowed := true }
def FnExactPathToUptoSaid : Prop := fnExactPathToUptoRow.holds Tryd.pinned (OpenSpec.upto fnExactPathToSpec)

/-- 'laws.FnExactRebuildWith', WHERE WHAT IT READS IS OF BULK AT MOST 1048576: true; the input reads as it did. -/
def fnExactRebuildWithUptoRow : OpenClaim := { program := "ytekejglpkeepiaadoor", sum := "cceb06f861804b947700a9d566e38c70b89e3e4997467e971afe297e7a144c9e", func := "loop.example/g00780/laws.FnExactRebuildWith", spec := "fnExactRebuildWith", unfollowed := true, recurses := true, named := ["loop.example/g00780/impl.bounds"], apart := false, laid := [("loop.example/g00780/impl.bounds", laid_loop_example_g00780_impl_bounds)], narrowed := true }
def FnExactRebuildWithUptoSaid : Prop := fnExactRebuildWithUptoRow.holds Tryd.pinned (OpenSpec.upto fnExactRebuildWithSpec)

end Rows
end Go.Proofs.YtekejglpkeepiaaDoor
