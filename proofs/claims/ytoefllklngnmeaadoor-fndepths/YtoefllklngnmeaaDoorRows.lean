/-
  NARROWER THAN 'FOR EVERY INPUT', by the rows' own cells (each row's printed sentence says how): FnExactDepthOf: laid · FnExactLayersOf: laid · FnExactLayerOf: laid · FnExactWithoutHull: laid · FnExactManyLayers: laid · FnExactPeelTo: laid · FnDepths: laid.
  DERIVED. THE GIVEN ROWS OF THIS SEAT. 7 by the template 'for every input the law returns true; each argument reads behind the call as it read before'; 0 by the template 'total and deterministic' (their statements: YtoefllklngnmeaaDoorTotals.lean).
  GIVEN WITH THE SEED: the statements are not yours to turn. If you find one false, say at which input.
  Laid BY PROGRAM, IN A SANDBOX (cutbox-rows.mjs): the forced cells as the released guide's own fill.sh prints them over the translation 33c6798a89456069… (all of the seat's roots in one cut). By AI agents, Wed Nov 11 2026. No macro, syntax, notation, axiom, sorry.
-/
import Derived.Test.YtoefllklngnmeaaDoorChecked
import GoSem.Claim
import GoSem.ClaimJoined
import GoSem.ClaimMapViews
import Derived.JoinedTies
import Derived.KernelRfl
namespace Go.Proofs.YtoefllklngnmeaaDoor
/- THE CELL 'sum', in the pinned program and in every row, IS THE sha256 OF THE DUMP (.gsa) THAT YtoefllklngnmeaaDoorProg.lean LOADS. Nothing in Lean hashes anything: it is a label: what it is worth is what the hold of that sum in a sandbox is worth. -/
noncomputable def Tryd.pinned : Pinned := { name := "ytoefllklngnmeaadoor", sum := "33c6798a89456069c2427cf1171de7b785c2c965d437542c0fb8296cd2288ea5", checked := Tryd.checked }
namespace Rows
def none {H : Type} : Left H := { results := [], args := [] }

/- WHAT THE LISTED PACKAGE-LEVEL VARIABLES READ AS WHEN THE CALL BEGINS. Each datum BY PROGRAM (the guide's laid-datum.mjs) off the statement by which the dump's own 'gosem.cut.vars' lays the variable. In a bare row this is a premise. The card (YtoefllklngnmeaaDoorCards.lean) ties it to the program's text. -/
def laid_loop_example_g00780_impl_bounds {H : Type} : DataW H := .agg [.lit (.int .i64 1000000), .lit (.int .i64 1099511627776), .lit (.int .i64 4398046511104), .lit (.int .i64 40)]

/-- 'laws.FnExactDepthOf': WHATEVER THE INPUT: true; the input reads as it did. -/
def fnExactDepthOfSpec : ChangeSpec := { name := "fnExactDepthOf", vars := ["loop.example/g00780/impl.bounds"], fn := fun _ => fun
  | [d1, d2, g1] => { results := [.lit (.bool true)], args := [d1, d2], vars := [g1] }
  | _ => none }
def fnExactDepthOfRow : OpenClaim := { program := "ytoefllklngnmeaadoor", sum := "33c6798a89456069c2427cf1171de7b785c2c965d437542c0fb8296cd2288ea5", func := "loop.example/g00780/laws.FnExactDepthOf", spec := "fnExactDepthOf", unfollowed := true, recurses := true, named := ["loop.example/g00780/impl.bounds"], plainKeys := false, apart := false, laid := [("loop.example/g00780/impl.bounds", laid_loop_example_g00780_impl_bounds)] }
def FnExactDepthOfSaid : Prop := fnExactDepthOfRow.holds Tryd.pinned (OpenSpec.ofChange fnExactDepthOfSpec)

/-- ITS FALSE NEIGHBOUR: 'it returns false'. Refute it at one input. -/
def fnExactDepthOfWrong : ChangeSpec := { name := "fnExactDepthOf", vars := ["loop.example/g00780/impl.bounds"], fn := fun _ => fun
  | [d1, d2, g1] => { results := [.lit (.bool false)], args := [d1, d2], vars := [g1] }
  | _ => none }
def FnExactDepthOfWrongFalsely : Prop := fnExactDepthOfRow.holds Tryd.pinned (OpenSpec.ofChange fnExactDepthOfWrong)

/-- 'laws.FnExactLayersOf': WHATEVER THE INPUT: true; the input reads as it did. -/
def fnExactLayersOfSpec : ChangeSpec := { name := "fnExactLayersOf", vars := ["loop.example/g00780/impl.bounds"], fn := fun _ => fun
  | [d, g1] => { results := [.lit (.bool true)], args := [d], vars := [g1] }
  | _ => none }
def fnExactLayersOfRow : OpenClaim := { program := "ytoefllklngnmeaadoor", sum := "33c6798a89456069c2427cf1171de7b785c2c965d437542c0fb8296cd2288ea5", func := "loop.example/g00780/laws.FnExactLayersOf", spec := "fnExactLayersOf", unfollowed := true, recurses := true, named := ["loop.example/g00780/impl.bounds"], plainKeys := false, apart := false, laid := [("loop.example/g00780/impl.bounds", laid_loop_example_g00780_impl_bounds)] }
def FnExactLayersOfSaid : Prop := fnExactLayersOfRow.holds Tryd.pinned (OpenSpec.ofChange fnExactLayersOfSpec)

/-- ITS FALSE NEIGHBOUR: 'it returns false'. Refute it at one input. -/
def fnExactLayersOfWrong : ChangeSpec := { name := "fnExactLayersOf", vars := ["loop.example/g00780/impl.bounds"], fn := fun _ => fun
  | [d, g1] => { results := [.lit (.bool false)], args := [d], vars := [g1] }
  | _ => none }
def FnExactLayersOfWrongFalsely : Prop := fnExactLayersOfRow.holds Tryd.pinned (OpenSpec.ofChange fnExactLayersOfWrong)

/-- 'laws.FnExactLayerOf': WHATEVER THE INPUT: true; the input reads as it did. -/
def fnExactLayerOfSpec : ChangeSpec := { name := "fnExactLayerOf", vars := ["loop.example/g00780/impl.bounds"], fn := fun _ => fun
  | [d1, d2, g1] => { results := [.lit (.bool true)], args := [d1, d2], vars := [g1] }
  | _ => none }
def fnExactLayerOfRow : OpenClaim := { program := "ytoefllklngnmeaadoor", sum := "33c6798a89456069c2427cf1171de7b785c2c965d437542c0fb8296cd2288ea5", func := "loop.example/g00780/laws.FnExactLayerOf", spec := "fnExactLayerOf", unfollowed := true, recurses := true, named := ["loop.example/g00780/impl.bounds"], plainKeys := false, apart := false, laid := [("loop.example/g00780/impl.bounds", laid_loop_example_g00780_impl_bounds)] }
def FnExactLayerOfSaid : Prop := fnExactLayerOfRow.holds Tryd.pinned (OpenSpec.ofChange fnExactLayerOfSpec)

/-- ITS FALSE NEIGHBOUR: 'it returns false'. Refute it at one input. -/
def fnExactLayerOfWrong : ChangeSpec := { name := "fnExactLayerOf", vars := ["loop.example/g00780/impl.bounds"], fn := fun _ => fun
  | [d1, d2, g1] => { results := [.lit (.bool false)], args := [d1, d2], vars := [g1] }
  | _ => none }
def FnExactLayerOfWrongFalsely : Prop := fnExactLayerOfRow.holds Tryd.pinned (OpenSpec.ofChange fnExactLayerOfWrong)

/-- 'laws.FnExactWithoutHull': WHATEVER THE INPUT: true; the input reads as it did. -/
def fnExactWithoutHullSpec : ChangeSpec := { name := "fnExactWithoutHull", vars := ["loop.example/g00780/impl.bounds"], fn := fun _ => fun
  | [d, g1] => { results := [.lit (.bool true)], args := [d], vars := [g1] }
  | _ => none }
def fnExactWithoutHullRow : OpenClaim := { program := "ytoefllklngnmeaadoor", sum := "33c6798a89456069c2427cf1171de7b785c2c965d437542c0fb8296cd2288ea5", func := "loop.example/g00780/laws.FnExactWithoutHull", spec := "fnExactWithoutHull", unfollowed := true, recurses := true, named := ["loop.example/g00780/impl.bounds"], plainKeys := false, apart := false, laid := [("loop.example/g00780/impl.bounds", laid_loop_example_g00780_impl_bounds)] }
def FnExactWithoutHullSaid : Prop := fnExactWithoutHullRow.holds Tryd.pinned (OpenSpec.ofChange fnExactWithoutHullSpec)

/-- ITS FALSE NEIGHBOUR: 'it returns false'. Refute it at one input. -/
def fnExactWithoutHullWrong : ChangeSpec := { name := "fnExactWithoutHull", vars := ["loop.example/g00780/impl.bounds"], fn := fun _ => fun
  | [d, g1] => { results := [.lit (.bool false)], args := [d], vars := [g1] }
  | _ => none }
def FnExactWithoutHullWrongFalsely : Prop := fnExactWithoutHullRow.holds Tryd.pinned (OpenSpec.ofChange fnExactWithoutHullWrong)

/-- 'laws.FnExactManyLayers': WHATEVER THE INPUT: true; the input reads as it did. -/
def fnExactManyLayersSpec : ChangeSpec := { name := "fnExactManyLayers", vars := ["loop.example/g00780/impl.bounds"], fn := fun _ => fun
  | [d, g1] => { results := [.lit (.bool true)], args := [d], vars := [g1] }
  | _ => none }
def fnExactManyLayersRow : OpenClaim := { program := "ytoefllklngnmeaadoor", sum := "33c6798a89456069c2427cf1171de7b785c2c965d437542c0fb8296cd2288ea5", func := "loop.example/g00780/laws.FnExactManyLayers", spec := "fnExactManyLayers", unfollowed := true, recurses := true, named := ["loop.example/g00780/impl.bounds"], plainKeys := false, apart := false, laid := [("loop.example/g00780/impl.bounds", laid_loop_example_g00780_impl_bounds)] }
def FnExactManyLayersSaid : Prop := fnExactManyLayersRow.holds Tryd.pinned (OpenSpec.ofChange fnExactManyLayersSpec)

/-- ITS FALSE NEIGHBOUR: 'it returns false'. Refute it at one input. -/
def fnExactManyLayersWrong : ChangeSpec := { name := "fnExactManyLayers", vars := ["loop.example/g00780/impl.bounds"], fn := fun _ => fun
  | [d, g1] => { results := [.lit (.bool false)], args := [d], vars := [g1] }
  | _ => none }
def FnExactManyLayersWrongFalsely : Prop := fnExactManyLayersRow.holds Tryd.pinned (OpenSpec.ofChange fnExactManyLayersWrong)

/-- 'laws.FnExactPeelTo': WHATEVER THE INPUT: true; the input reads as it did. -/
def fnExactPeelToSpec : ChangeSpec := { name := "fnExactPeelTo", vars := ["loop.example/g00780/impl.bounds"], fn := fun _ => fun
  | [d1, d2, g1] => { results := [.lit (.bool true)], args := [d1, d2], vars := [g1] }
  | _ => none }
def fnExactPeelToRow : OpenClaim := { program := "ytoefllklngnmeaadoor", sum := "33c6798a89456069c2427cf1171de7b785c2c965d437542c0fb8296cd2288ea5", func := "loop.example/g00780/laws.FnExactPeelTo", spec := "fnExactPeelTo", unfollowed := true, recurses := true, named := ["loop.example/g00780/impl.bounds"], plainKeys := false, apart := false, laid := [("loop.example/g00780/impl.bounds", laid_loop_example_g00780_impl_bounds)] }
def FnExactPeelToSaid : Prop := fnExactPeelToRow.holds Tryd.pinned (OpenSpec.ofChange fnExactPeelToSpec)

/-- ITS FALSE NEIGHBOUR: 'it returns false'. Refute it at one input. -/
def fnExactPeelToWrong : ChangeSpec := { name := "fnExactPeelTo", vars := ["loop.example/g00780/impl.bounds"], fn := fun _ => fun
  | [d1, d2, g1] => { results := [.lit (.bool false)], args := [d1, d2], vars := [g1] }
  | _ => none }
def FnExactPeelToWrongFalsely : Prop := fnExactPeelToRow.holds Tryd.pinned (OpenSpec.ofChange fnExactPeelToWrong)

/-- 'laws.FnDepths': WHATEVER THE INPUT: true; the input reads as it did. -/
def fnDepthsSpec : ChangeSpec := { name := "fnDepths", vars := ["loop.example/g00780/impl.bounds"], fn := fun _ => fun
  | [d1, d2, g1] => { results := [.lit (.bool true)], args := [d1, d2], vars := [g1] }
  | _ => none }
def fnDepthsRow : OpenClaim := { program := "ytoefllklngnmeaadoor", sum := "33c6798a89456069c2427cf1171de7b785c2c965d437542c0fb8296cd2288ea5", func := "loop.example/g00780/laws.FnDepths", spec := "fnDepths", unfollowed := true, recurses := true, named := ["loop.example/g00780/impl.bounds"], plainKeys := false, apart := false, laid := [("loop.example/g00780/impl.bounds", laid_loop_example_g00780_impl_bounds)] }
def FnDepthsSaid : Prop := fnDepthsRow.holds Tryd.pinned (OpenSpec.ofChange fnDepthsSpec)

/-- ITS FALSE NEIGHBOUR: 'it returns false'. Refute it at one input. -/
def fnDepthsWrong : ChangeSpec := { name := "fnDepths", vars := ["loop.example/g00780/impl.bounds"], fn := fun _ => fun
  | [d1, d2, g1] => { results := [.lit (.bool false)], args := [d1, d2], vars := [g1] }
  | _ => none }
def FnDepthsWrongFalsely : Prop := fnDepthsRow.holds Tryd.pinned (OpenSpec.ofChange fnDepthsWrong)

/- THE SECOND FORM. 'bulk': how many values and letters a reading holds, each counted each time it is reached (what is shared counts as often as it is met; a slice's spare places count too). A statement '..UptoSaid' is the law's where the arguments, and the package variables that the reading takes, are together of bulk at most 1048576: NARROWER than '..Said'. Prove '..Said' where nothing that the law and all that it calls make is longer than what came in: it says more and counts as full. Else prove '..UptoSaid'. A law counts once. -/
mutual
def uptoBulk {H : Type} : DataW H → Nat
  | .lit (.string bytes) => bytes.length + 1
  | .lit _ => 1
  | .nil => 1
  | .ptr d => uptoBulk d + 1
  | .slice elems spare => uptoBulkAll elems + uptoBulkAll spare + 1
  | .agg parts => uptoBulkAll parts + 1
  | .iface _ d => uptoBulk d + 1
  | .map entries => uptoBulkEntries entries + 1
  | .held _ => 1
def uptoBulkAll {H : Type} : List (DataW H) → Nat
  | [] => 0
  | d :: r => uptoBulk d + uptoBulkAll r
def uptoBulkEntries {H : Type} : List (Lit × DataW H) → Nat
  | [] => 0
  | x :: r => uptoBulkEntry x + uptoBulkEntries r
def uptoBulkEntry {H : Type} : Lit × DataW H → Nat
  | (.string bytes, d) => bytes.length + uptoBulk d + 1
  | (_, d) => uptoBulk d + 1
 end
def uptoSmall : (H : Type) → List (DataW H) → Bool := fun _ ds => decide (uptoBulkAll ds ≤ 1048576)
def OpenSpec.upto (s : _root_.Go.ChangeSpec) : _root_.Go.OpenSpec := { _root_.Go.OpenSpec.ofChange s with cond := some uptoSmall }

/-- 'laws.FnExactDepthOf', WHERE WHAT IT READS IS OF BULK AT MOST 1048576: true; the input reads as it did. -/
def fnExactDepthOfUptoRow : OpenClaim := { program := "ytoefllklngnmeaadoor", sum := "33c6798a89456069c2427cf1171de7b785c2c965d437542c0fb8296cd2288ea5", func := "loop.example/g00780/laws.FnExactDepthOf", spec := "fnExactDepthOf", unfollowed := true, recurses := true, named := ["loop.example/g00780/impl.bounds"], plainKeys := false, apart := false, laid := [("loop.example/g00780/impl.bounds", laid_loop_example_g00780_impl_bounds)], narrowed := true }
def FnExactDepthOfUptoSaid : Prop := fnExactDepthOfUptoRow.holds Tryd.pinned (OpenSpec.upto fnExactDepthOfSpec)

/-- 'laws.FnExactLayersOf', WHERE WHAT IT READS IS OF BULK AT MOST 1048576: true; the input reads as it did. -/
def fnExactLayersOfUptoRow : OpenClaim := { program := "ytoefllklngnmeaadoor", sum := "33c6798a89456069c2427cf1171de7b785c2c965d437542c0fb8296cd2288ea5", func := "loop.example/g00780/laws.FnExactLayersOf", spec := "fnExactLayersOf", unfollowed := true, recurses := true, named := ["loop.example/g00780/impl.bounds"], plainKeys := false, apart := false, laid := [("loop.example/g00780/impl.bounds", laid_loop_example_g00780_impl_bounds)], narrowed := true }
def FnExactLayersOfUptoSaid : Prop := fnExactLayersOfUptoRow.holds Tryd.pinned (OpenSpec.upto fnExactLayersOfSpec)

/-- 'laws.FnExactLayerOf', WHERE WHAT IT READS IS OF BULK AT MOST 1048576: true; the input reads as it did. -/
def fnExactLayerOfUptoRow : OpenClaim := { program := "ytoefllklngnmeaadoor", sum := "33c6798a89456069c2427cf1171de7b785c2c965d437542c0fb8296cd2288ea5", func := "loop.example/g00780/laws.FnExactLayerOf", spec := "fnExactLayerOf", unfollowed := true, recurses := true, named := ["loop.example/g00780/impl.bounds"], plainKeys := false, apart := false, laid := [("loop.example/g00780/impl.bounds", laid_loop_example_g00780_impl_bounds)], narrowed := true }
def FnExactLayerOfUptoSaid : Prop := fnExactLayerOfUptoRow.holds Tryd.pinned (OpenSpec.upto fnExactLayerOfSpec)

/-- 'laws.FnExactWithoutHull', WHERE WHAT IT READS IS OF BULK AT MOST 1048576: true; the input reads as it did. -/
def fnExactWithoutHullUptoRow : OpenClaim := { program := "ytoefllklngnmeaadoor", sum := "33c6798a89456069c2427cf1171de7b785c2c965d437542c0fb8296cd2288ea5", func := "loop.example/g00780/laws.FnExactWithoutHull", spec := "fnExactWithoutHull", unfollowed := true, recurses := true, named := ["loop.example/g00780/impl.bounds"], plainKeys := false, apart := false, laid := [("loop.example/g00780/impl.bounds", laid_loop_example_g00780_impl_bounds)], narrowed := true }
def FnExactWithoutHullUptoSaid : Prop := fnExactWithoutHullUptoRow.holds Tryd.pinned (OpenSpec.upto fnExactWithoutHullSpec)

/-- 'laws.FnExactManyLayers', WHERE WHAT IT READS IS OF BULK AT MOST 1048576: true; the input reads as it did. -/
def fnExactManyLayersUptoRow : OpenClaim := { program := "ytoefllklngnmeaadoor", sum := "33c6798a89456069c2427cf1171de7b785c2c965d437542c0fb8296cd2288ea5", func := "loop.example/g00780/laws.FnExactManyLayers", spec := "fnExactManyLayers", unfollowed := true, recurses := true, named := ["loop.example/g00780/impl.bounds"], plainKeys := false, apart := false, laid := [("loop.example/g00780/impl.bounds", laid_loop_example_g00780_impl_bounds)], narrowed := true }
def FnExactManyLayersUptoSaid : Prop := fnExactManyLayersUptoRow.holds Tryd.pinned (OpenSpec.upto fnExactManyLayersSpec)

/-- 'laws.FnExactPeelTo', WHERE WHAT IT READS IS OF BULK AT MOST 1048576: true; the input reads as it did. -/
def fnExactPeelToUptoRow : OpenClaim := { program := "ytoefllklngnmeaadoor", sum := "33c6798a89456069c2427cf1171de7b785c2c965d437542c0fb8296cd2288ea5", func := "loop.example/g00780/laws.FnExactPeelTo", spec := "fnExactPeelTo", unfollowed := true, recurses := true, named := ["loop.example/g00780/impl.bounds"], plainKeys := false, apart := false, laid := [("loop.example/g00780/impl.bounds", laid_loop_example_g00780_impl_bounds)], narrowed := true }
def FnExactPeelToUptoSaid : Prop := fnExactPeelToUptoRow.holds Tryd.pinned (OpenSpec.upto fnExactPeelToSpec)

/-- 'laws.FnDepths', WHERE WHAT IT READS IS OF BULK AT MOST 1048576: true; the input reads as it did. -/
def fnDepthsUptoRow : OpenClaim := { program := "ytoefllklngnmeaadoor", sum := "33c6798a89456069c2427cf1171de7b785c2c965d437542c0fb8296cd2288ea5", func := "loop.example/g00780/laws.FnDepths", spec := "fnDepths", unfollowed := true, recurses := true, named := ["loop.example/g00780/impl.bounds"], plainKeys := false, apart := false, laid := [("loop.example/g00780/impl.bounds", laid_loop_example_g00780_impl_bounds)], narrowed := true }
def FnDepthsUptoSaid : Prop := fnDepthsUptoRow.holds Tryd.pinned (OpenSpec.upto fnDepthsSpec)

end Rows
end Go.Proofs.YtoefllklngnmeaaDoor
