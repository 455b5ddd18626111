/-
  NARROWER THAN 'FOR EVERY INPUT', by the rows' own cells (each row's printed sentence says how): FnExactApartOf: laid · FnExactNearestOf: laid · FnExactNearestByHalves: laid · FnExactFarthestOf: laid · FnExactAcrossOf: laid · FnExactNextTo: laid · FnExactWithinOf: laid · FnNear: laid · FnNextTo: laid.
  DERIVED. THE GIVEN ROWS OF THIS SEAT. 9 by the template 'for every input the law returns true; each argument reads behind the call as it read before'; 0 by the template 'total and deterministic' (their statements: YtipiamhnngmjmaaDoorTotals.lean).
  GIVEN WITH THE SEED: the statements are not yours to turn. If you find one false, say at which input.
  Laid BY PROGRAM, IN A SANDBOX (cutbox-rows.mjs): the forced cells as the released guide's own fill.sh prints them over the translation e2d1cfe477196dc6… (all of the seat's roots in one cut). By AI agents, Wed Nov 11 2026. No macro, syntax, notation, axiom, sorry.
-/
import Derived.Test.YtipiamhnngmjmaaDoorChecked
import GoSem.Claim
import GoSem.ClaimJoined
import GoSem.ClaimMapViews
import Derived.JoinedTies
import Derived.KernelRfl
namespace Go.Proofs.YtipiamhnngmjmaaDoor
/- THE CELL 'sum', in the pinned program and in every row, IS THE sha256 OF THE DUMP (.gsa) THAT YtipiamhnngmjmaaDoorProg.lean LOADS. Nothing in Lean hashes anything: it is a label: what it is worth is what the hold of that sum in a sandbox is worth. -/
noncomputable def Tryd.pinned : Pinned := { name := "ytipiamhnngmjmaadoor", sum := "e2d1cfe477196dc63feed32342663ffac0f437c233ef0c2df1fec0ee662b9c63", checked := Tryd.checked }
namespace Rows
def none {H : Type} : Left H := { results := [], args := [] }

/- WHAT THE LISTED PACKAGE-LEVEL VARIABLES READ AS WHEN THE CALL BEGINS. Each datum BY PROGRAM (the guide's laid-datum.mjs) off the statement by which the dump's own 'gosem.cut.vars' lays the variable. In a bare row this is a premise. The card (YtipiamhnngmjmaaDoorCards.lean) ties it to the program's text. -/
def laid_loop_example_g00780_impl_bounds {H : Type} : DataW H := .agg [.lit (.int .i64 1000000), .lit (.int .i64 1099511627776), .lit (.int .i64 4398046511104), .lit (.int .i64 40)]

/-- 'laws.FnExactApartOf': WHATEVER THE INPUT: true; the input reads as it did. -/
def fnExactApartOfSpec : ChangeSpec := { name := "fnExactApartOf", vars := ["loop.example/g00780/impl.bounds"], fn := fun _ => fun
  | [d1, d2, g1] => { results := [.lit (.bool true)], args := [d1, d2], vars := [g1] }
  | _ => none }
def fnExactApartOfRow : OpenClaim := { program := "ytipiamhnngmjmaadoor", sum := "e2d1cfe477196dc63feed32342663ffac0f437c233ef0c2df1fec0ee662b9c63", func := "loop.example/g00780/laws.FnExactApartOf", spec := "fnExactApartOf", named := ["loop.example/g00780/impl.bounds"], apart := false, laid := [("loop.example/g00780/impl.bounds", laid_loop_example_g00780_impl_bounds)] }
def FnExactApartOfSaid : Prop := fnExactApartOfRow.holds Tryd.pinned (OpenSpec.ofChange fnExactApartOfSpec)

/-- ITS FALSE NEIGHBOUR: 'it returns false'. Refute it at one input. -/
def fnExactApartOfWrong : ChangeSpec := { name := "fnExactApartOf", vars := ["loop.example/g00780/impl.bounds"], fn := fun _ => fun
  | [d1, d2, g1] => { results := [.lit (.bool false)], args := [d1, d2], vars := [g1] }
  | _ => none }
def FnExactApartOfWrongFalsely : Prop := fnExactApartOfRow.holds Tryd.pinned (OpenSpec.ofChange fnExactApartOfWrong)

/-- 'laws.FnExactNearestOf': WHATEVER THE INPUT: true; the input reads as it did. -/
def fnExactNearestOfSpec : ChangeSpec := { name := "fnExactNearestOf", vars := ["loop.example/g00780/impl.bounds"], fn := fun _ => fun
  | [d, g1] => { results := [.lit (.bool true)], args := [d], vars := [g1] }
  | _ => none }
def fnExactNearestOfRow : OpenClaim := { program := "ytipiamhnngmjmaadoor", sum := "e2d1cfe477196dc63feed32342663ffac0f437c233ef0c2df1fec0ee662b9c63", func := "loop.example/g00780/laws.FnExactNearestOf", spec := "fnExactNearestOf", unfollowed := true, recurses := true, named := ["loop.example/g00780/impl.bounds"], apart := false, laid := [("loop.example/g00780/impl.bounds", laid_loop_example_g00780_impl_bounds)] }
def FnExactNearestOfSaid : Prop := fnExactNearestOfRow.holds Tryd.pinned (OpenSpec.ofChange fnExactNearestOfSpec)

/-- ITS FALSE NEIGHBOUR: 'it returns false'. Refute it at one input. -/
def fnExactNearestOfWrong : ChangeSpec := { name := "fnExactNearestOf", vars := ["loop.example/g00780/impl.bounds"], fn := fun _ => fun
  | [d, g1] => { results := [.lit (.bool false)], args := [d], vars := [g1] }
  | _ => none }
def FnExactNearestOfWrongFalsely : Prop := fnExactNearestOfRow.holds Tryd.pinned (OpenSpec.ofChange fnExactNearestOfWrong)

/-- 'laws.FnExactNearestByHalves': WHATEVER THE INPUT: true; the input reads as it did. -/
def fnExactNearestByHalvesSpec : ChangeSpec := { name := "fnExactNearestByHalves", vars := ["loop.example/g00780/impl.bounds"], fn := fun _ => fun
  | [d, g1] => { results := [.lit (.bool true)], args := [d], vars := [g1] }
  | _ => none }
def fnExactNearestByHalvesRow : OpenClaim := { program := "ytipiamhnngmjmaadoor", sum := "e2d1cfe477196dc63feed32342663ffac0f437c233ef0c2df1fec0ee662b9c63", func := "loop.example/g00780/laws.FnExactNearestByHalves", spec := "fnExactNearestByHalves", unfollowed := true, recurses := true, named := ["loop.example/g00780/impl.bounds"], apart := false, laid := [("loop.example/g00780/impl.bounds", laid_loop_example_g00780_impl_bounds)] }
def FnExactNearestByHalvesSaid : Prop := fnExactNearestByHalvesRow.holds Tryd.pinned (OpenSpec.ofChange fnExactNearestByHalvesSpec)

/-- ITS FALSE NEIGHBOUR: 'it returns false'. Refute it at one input. -/
def fnExactNearestByHalvesWrong : ChangeSpec := { name := "fnExactNearestByHalves", vars := ["loop.example/g00780/impl.bounds"], fn := fun _ => fun
  | [d, g1] => { results := [.lit (.bool false)], args := [d], vars := [g1] }
  | _ => none }
def FnExactNearestByHalvesWrongFalsely : Prop := fnExactNearestByHalvesRow.holds Tryd.pinned (OpenSpec.ofChange fnExactNearestByHalvesWrong)

/-- 'laws.FnExactFarthestOf': WHATEVER THE INPUT: true; the input reads as it did. -/
def fnExactFarthestOfSpec : ChangeSpec := { name := "fnExactFarthestOf", vars := ["loop.example/g00780/impl.bounds"], fn := fun _ => fun
  | [d, g1] => { results := [.lit (.bool true)], args := [d], vars := [g1] }
  | _ => none }
def fnExactFarthestOfRow : OpenClaim := { program := "ytipiamhnngmjmaadoor", sum := "e2d1cfe477196dc63feed32342663ffac0f437c233ef0c2df1fec0ee662b9c63", func := "loop.example/g00780/laws.FnExactFarthestOf", spec := "fnExactFarthestOf", unfollowed := true, recurses := true, named := ["loop.example/g00780/impl.bounds"], apart := false, laid := [("loop.example/g00780/impl.bounds", laid_loop_example_g00780_impl_bounds)] }
def FnExactFarthestOfSaid : Prop := fnExactFarthestOfRow.holds Tryd.pinned (OpenSpec.ofChange fnExactFarthestOfSpec)

/-- ITS FALSE NEIGHBOUR: 'it returns false'. Refute it at one input. -/
def fnExactFarthestOfWrong : ChangeSpec := { name := "fnExactFarthestOf", vars := ["loop.example/g00780/impl.bounds"], fn := fun _ => fun
  | [d, g1] => { results := [.lit (.bool false)], args := [d], vars := [g1] }
  | _ => none }
def FnExactFarthestOfWrongFalsely : Prop := fnExactFarthestOfRow.holds Tryd.pinned (OpenSpec.ofChange fnExactFarthestOfWrong)

/-- 'laws.FnExactAcrossOf': WHATEVER THE INPUT: true; the input reads as it did. -/
def fnExactAcrossOfSpec : ChangeSpec := { name := "fnExactAcrossOf", vars := ["loop.example/g00780/impl.bounds"], fn := fun _ => fun
  | [d, g1] => { results := [.lit (.bool true)], args := [d], vars := [g1] }
  | _ => none }
def fnExactAcrossOfRow : OpenClaim := { program := "ytipiamhnngmjmaadoor", sum := "e2d1cfe477196dc63feed32342663ffac0f437c233ef0c2df1fec0ee662b9c63", func := "loop.example/g00780/laws.FnExactAcrossOf", spec := "fnExactAcrossOf", unfollowed := true, recurses := true, named := ["loop.example/g00780/impl.bounds"], apart := false, laid := [("loop.example/g00780/impl.bounds", laid_loop_example_g00780_impl_bounds)] }
def FnExactAcrossOfSaid : Prop := fnExactAcrossOfRow.holds Tryd.pinned (OpenSpec.ofChange fnExactAcrossOfSpec)

/-- ITS FALSE NEIGHBOUR: 'it returns false'. Refute it at one input. -/
def fnExactAcrossOfWrong : ChangeSpec := { name := "fnExactAcrossOf", vars := ["loop.example/g00780/impl.bounds"], fn := fun _ => fun
  | [d, g1] => { results := [.lit (.bool false)], args := [d], vars := [g1] }
  | _ => none }
def FnExactAcrossOfWrongFalsely : Prop := fnExactAcrossOfRow.holds Tryd.pinned (OpenSpec.ofChange fnExactAcrossOfWrong)

/-- 'laws.FnExactNextTo': WHATEVER THE INPUT: true; the input reads as it did. -/
def fnExactNextToSpec : ChangeSpec := { name := "fnExactNextTo", vars := ["loop.example/g00780/impl.bounds"], fn := fun _ => fun
  | [d1, d2, g1] => { results := [.lit (.bool true)], args := [d1, d2], vars := [g1] }
  | _ => none }
def fnExactNextToRow : OpenClaim := { program := "ytipiamhnngmjmaadoor", sum := "e2d1cfe477196dc63feed32342663ffac0f437c233ef0c2df1fec0ee662b9c63", func := "loop.example/g00780/laws.FnExactNextTo", spec := "fnExactNextTo", unfollowed := true, recurses := true, named := ["loop.example/g00780/impl.bounds"], apart := false, laid := [("loop.example/g00780/impl.bounds", laid_loop_example_g00780_impl_bounds)] }
def FnExactNextToSaid : Prop := fnExactNextToRow.holds Tryd.pinned (OpenSpec.ofChange fnExactNextToSpec)

/-- ITS FALSE NEIGHBOUR: 'it returns false'. Refute it at one input. -/
def fnExactNextToWrong : ChangeSpec := { name := "fnExactNextTo", vars := ["loop.example/g00780/impl.bounds"], fn := fun _ => fun
  | [d1, d2, g1] => { results := [.lit (.bool false)], args := [d1, d2], vars := [g1] }
  | _ => none }
def FnExactNextToWrongFalsely : Prop := fnExactNextToRow.holds Tryd.pinned (OpenSpec.ofChange fnExactNextToWrong)

/-- 'laws.FnExactWithinOf': WHATEVER THE INPUT: true; the input reads as it did. -/
def fnExactWithinOfSpec : ChangeSpec := { name := "fnExactWithinOf", vars := ["loop.example/g00780/impl.bounds"], fn := fun _ => fun
  | [d1, d2, d3, g1] => { results := [.lit (.bool true)], args := [d1, d2, d3], vars := [g1] }
  | _ => none }
def fnExactWithinOfRow : OpenClaim := { program := "ytipiamhnngmjmaadoor", sum := "e2d1cfe477196dc63feed32342663ffac0f437c233ef0c2df1fec0ee662b9c63", func := "loop.example/g00780/laws.FnExactWithinOf", spec := "fnExactWithinOf", unfollowed := true, recurses := true, named := ["loop.example/g00780/impl.bounds"], apart := false, laid := [("loop.example/g00780/impl.bounds", laid_loop_example_g00780_impl_bounds)] }
def FnExactWithinOfSaid : Prop := fnExactWithinOfRow.holds Tryd.pinned (OpenSpec.ofChange fnExactWithinOfSpec)

/-- ITS FALSE NEIGHBOUR: 'it returns false'. Refute it at one input. -/
def fnExactWithinOfWrong : ChangeSpec := { name := "fnExactWithinOf", vars := ["loop.example/g00780/impl.bounds"], fn := fun _ => fun
  | [d1, d2, d3, g1] => { results := [.lit (.bool false)], args := [d1, d2, d3], vars := [g1] }
  | _ => none }
def FnExactWithinOfWrongFalsely : Prop := fnExactWithinOfRow.holds Tryd.pinned (OpenSpec.ofChange fnExactWithinOfWrong)

/-- 'laws.FnNear': WHATEVER THE INPUT: true; the input reads as it did. -/
def fnNearSpec : ChangeSpec := { name := "fnNear", vars := ["loop.example/g00780/impl.bounds"], fn := fun _ => fun
  | [d1, d2, g1] => { results := [.lit (.bool true)], args := [d1, d2], vars := [g1] }
  | _ => none }
def fnNearRow : OpenClaim := { program := "ytipiamhnngmjmaadoor", sum := "e2d1cfe477196dc63feed32342663ffac0f437c233ef0c2df1fec0ee662b9c63", func := "loop.example/g00780/laws.FnNear", spec := "fnNear", unfollowed := true, recurses := true, named := ["loop.example/g00780/impl.bounds"], apart := false, laid := [("loop.example/g00780/impl.bounds", laid_loop_example_g00780_impl_bounds)] }
def FnNearSaid : Prop := fnNearRow.holds Tryd.pinned (OpenSpec.ofChange fnNearSpec)

/-- ITS FALSE NEIGHBOUR: 'it returns false'. Refute it at one input. -/
def fnNearWrong : ChangeSpec := { name := "fnNear", vars := ["loop.example/g00780/impl.bounds"], fn := fun _ => fun
  | [d1, d2, g1] => { results := [.lit (.bool false)], args := [d1, d2], vars := [g1] }
  | _ => none }
def FnNearWrongFalsely : Prop := fnNearRow.holds Tryd.pinned (OpenSpec.ofChange fnNearWrong)

/-- 'laws.FnNextTo': WHATEVER THE INPUT: true; the input reads as it did. -/
def fnNextToSpec : ChangeSpec := { name := "fnNextTo", vars := ["loop.example/g00780/impl.bounds"], fn := fun _ => fun
  | [d1, d2, g1] => { results := [.lit (.bool true)], args := [d1, d2], vars := [g1] }
  | _ => none }
def fnNextToRow : OpenClaim := { program := "ytipiamhnngmjmaadoor", sum := "e2d1cfe477196dc63feed32342663ffac0f437c233ef0c2df1fec0ee662b9c63", func := "loop.example/g00780/laws.FnNextTo", spec := "fnNextTo", unfollowed := true, recurses := true, named := ["loop.example/g00780/impl.bounds"], apart := false, laid := [("loop.example/g00780/impl.bounds", laid_loop_example_g00780_impl_bounds)] }
def FnNextToSaid : Prop := fnNextToRow.holds Tryd.pinned (OpenSpec.ofChange fnNextToSpec)

/-- ITS FALSE NEIGHBOUR: 'it returns false'. Refute it at one input. -/
def fnNextToWrong : ChangeSpec := { name := "fnNextTo", vars := ["loop.example/g00780/impl.bounds"], fn := fun _ => fun
  | [d1, d2, g1] => { results := [.lit (.bool false)], args := [d1, d2], vars := [g1] }
  | _ => none }
def FnNextToWrongFalsely : Prop := fnNextToRow.holds Tryd.pinned (OpenSpec.ofChange fnNextToWrong)

/- THE SECOND FORM. 'bulk': how many values and letters a reading holds, each counted each time it is reached (what is shared counts as often as it is met; a slice's spare places count too). A statement '..UptoSaid' is the law's where the arguments, and the package variables that the reading takes, are together of bulk at most 1048576: NARROWER than '..Said'. Prove '..Said' where nothing that the law and all that it calls make is longer than what came in: it says more and counts as full. Else prove '..UptoSaid'. A law counts once. -/
mutual
def uptoBulk {H : Type} : DataW H → Nat
  | .lit (.string bytes) => bytes.length + 1
  | .lit _ => 1
  | .nil => 1
  | .ptr d => uptoBulk d + 1
  | .slice elems spare => uptoBulkAll elems + uptoBulkAll spare + 1
  | .agg parts => uptoBulkAll parts + 1
  | .iface _ d => uptoBulk d + 1
  | .map entries => uptoBulkEntries entries + 1
  | .held _ => 1
def uptoBulkAll {H : Type} : List (DataW H) → Nat
  | [] => 0
  | d :: r => uptoBulk d + uptoBulkAll r
def uptoBulkEntries {H : Type} : List (Lit × DataW H) → Nat
  | [] => 0
  | x :: r => uptoBulkEntry x + uptoBulkEntries r
def uptoBulkEntry {H : Type} : Lit × DataW H → Nat
  | (.string bytes, d) => bytes.length + uptoBulk d + 1
  | (_, d) => uptoBulk d + 1
 end
def uptoSmall : (H : Type) → List (DataW H) → Bool := fun _ ds => decide (uptoBulkAll ds ≤ 1048576)
def OpenSpec.upto (s : _root_.Go.ChangeSpec) : _root_.Go.OpenSpec := { _root_.Go.OpenSpec.ofChange s with cond := some uptoSmall }

/-- 'laws.FnExactApartOf', WHERE WHAT IT READS IS OF BULK AT MOST 1048576: true; the input reads as it did. -/
def fnExactApartOfUptoRow : OpenClaim := { program := "ytipiamhnngmjmaadoor", sum := "e2d1cfe477196dc63feed32342663ffac0f437c233ef0c2df1fec0ee662b9c63", func := "loop.example/g00780/laws.FnExactApartOf", spec := "fnExactApartOf", named := ["loop.example/g00780/impl.bounds"], apart := false, laid := [("loop.example/g00780/impl.bounds", laid_loop_example_g00780_impl_bounds)], narrowed := true }
def FnExactApartOfUptoSaid : Prop := fnExactApartOfUptoRow.holds Tryd.pinned (OpenSpec.upto fnExactApartOfSpec)

/-- 'laws.FnExactNearestOf', WHERE WHAT IT READS IS OF BULK AT MOST 1048576: true; the input reads as it did. -/
def fnExactNearestOfUptoRow : OpenClaim := { program := "ytipiamhnngmjmaadoor", sum := "e2d1cfe477196dc63feed32342663ffac0f437c233ef0c2df1fec0ee662b9c63", func := "loop.example/g00780/laws.FnExactNearestOf", spec := "fnExactNearestOf", unfollowed := true, recurses := true, named := ["loop.example/g00780/impl.bounds"], apart := false, laid := [("loop.example/g00780/impl.bounds", laid_loop_example_g00780_impl_bounds)], narrowed := true }
def FnExactNearestOfUptoSaid : Prop := fnExactNearestOfUptoRow.holds Tryd.pinned (OpenSpec.upto fnExactNearestOfSpec)

/-- 'laws.FnExactNearestByHalves', WHERE WHAT IT READS IS OF BULK AT MOST 1048576: true; the input reads as it did. -/
def fnExactNearestByHalvesUptoRow : OpenClaim := { program := "ytipiamhnngmjmaadoor", sum := "e2d1cfe477196dc63feed32342663ffac0f437c233ef0c2df1fec0ee662b9c63", func := "loop.example/g00780/laws.FnExactNearestByHalves", spec := "fnExactNearestByHalves", unfollowed := true, recurses := true, named := ["loop.example/g00780/impl.bounds"], apart := false, laid := [("loop.example/g00780/impl.bounds", laid_loop_example_g00780_impl_bounds)], narrowed := true }
def FnExactNearestByHalvesUptoSaid : Prop := fnExactNearestByHalvesUptoRow.holds Tryd.pinned (OpenSpec.upto fnExactNearestByHalvesSpec)

/-- 'laws.FnExactFarthestOf', WHERE WHAT IT READS IS OF BULK AT MOST 1048576: true; the input reads as it did. -/
def fnExactFarthestOfUptoRow : OpenClaim := { program := "ytipiamhnngmjmaadoor", sum := "e2d1cfe477196dc63feed32342663ffac0f437c233ef0c2df1fec0ee662b9c63", func := "loop.example/g00780/laws.FnExactFarthestOf", spec := "fnExactFarthestOf", unfollowed := true, recurses := true, named := ["loop.example/g00780/impl.bounds"], apart := false, laid := [("loop.example/g00780/impl.bounds", laid_loop_example_g00780_impl_bounds)], narrowed := true }
def FnExactFarthestOfUptoSaid : Prop := fnExactFarthestOfUptoRow.holds Tryd.pinned (OpenSpec.upto fnExactFarthestOfSpec)

/-- 'laws.FnExactAcrossOf', WHERE WHAT IT READS IS OF BULK AT MOST 1048576: true; the input reads as it did. -/
def fnExactAcrossOfUptoRow : OpenClaim := { program := "ytipiamhnngmjmaadoor", sum := "e2d1cfe477196dc63feed32342663ffac0f437c233ef0c2df1fec0ee662b9c63", func := "loop.example/g00780/laws.FnExactAcrossOf", spec := "fnExactAcrossOf", unfollowed := true, recurses := true, named := ["loop.example/g00780/impl.bounds"], apart := false, laid := [("loop.example/g00780/impl.bounds", laid_loop_example_g00780_impl_bounds)], narrowed := true }
def FnExactAcrossOfUptoSaid : Prop := fnExactAcrossOfUptoRow.holds Tryd.pinned (OpenSpec.upto fnExactAcrossOfSpec)

/-- 'laws.FnExactNextTo', WHERE WHAT IT READS IS OF BULK AT MOST 1048576: true; the input reads as it did. -/
def fnExactNextToUptoRow : OpenClaim := { program := "ytipiamhnngmjmaadoor", sum := "e2d1cfe477196dc63feed32342663ffac0f437c233ef0c2df1fec0ee662b9c63", func := "loop.example/g00780/laws.FnExactNextTo", spec := "fnExactNextTo", unfollowed := true, recurses := true, named := ["loop.example/g00780/impl.bounds"], apart := false, laid := [("loop.example/g00780/impl.bounds", laid_loop_example_g00780_impl_bounds)], narrowed := true }
def FnExactNextToUptoSaid : Prop := fnExactNextToUptoRow.holds Tryd.pinned (OpenSpec.upto fnExactNextToSpec)

/-- 'laws.FnExactWithinOf', WHERE WHAT IT READS IS OF BULK AT MOST 1048576: true; the input reads as it did. -/
def fnExactWithinOfUptoRow : OpenClaim := { program := "ytipiamhnngmjmaadoor", sum := "e2d1cfe477196dc63feed32342663ffac0f437c233ef0c2df1fec0ee662b9c63", func := "loop.example/g00780/laws.FnExactWithinOf", spec := "fnExactWithinOf", unfollowed := true, recurses := true, named := ["loop.example/g00780/impl.bounds"], apart := false, laid := [("loop.example/g00780/impl.bounds", laid_loop_example_g00780_impl_bounds)], narrowed := true }
def FnExactWithinOfUptoSaid : Prop := fnExactWithinOfUptoRow.holds Tryd.pinned (OpenSpec.upto fnExactWithinOfSpec)

/-- 'laws.FnNear', WHERE WHAT IT READS IS OF BULK AT MOST 1048576: true; the input reads as it did. -/
def fnNearUptoRow : OpenClaim := { program := "ytipiamhnngmjmaadoor", sum := "e2d1cfe477196dc63feed32342663ffac0f437c233ef0c2df1fec0ee662b9c63", func := "loop.example/g00780/laws.FnNear", spec := "fnNear", unfollowed := true, recurses := true, named := ["loop.example/g00780/impl.bounds"], apart := false, laid := [("loop.example/g00780/impl.bounds", laid_loop_example_g00780_impl_bounds)], narrowed := true }
def FnNearUptoSaid : Prop := fnNearUptoRow.holds Tryd.pinned (OpenSpec.upto fnNearSpec)

/-- 'laws.FnNextTo', WHERE WHAT IT READS IS OF BULK AT MOST 1048576: true; the input reads as it did. -/
def fnNextToUptoRow : OpenClaim := { program := "ytipiamhnngmjmaadoor", sum := "e2d1cfe477196dc63feed32342663ffac0f437c233ef0c2df1fec0ee662b9c63", func := "loop.example/g00780/laws.FnNextTo", spec := "fnNextTo", unfollowed := true, recurses := true, named := ["loop.example/g00780/impl.bounds"], apart := false, laid := [("loop.example/g00780/impl.bounds", laid_loop_example_g00780_impl_bounds)], narrowed := true }
def FnNextToUptoSaid : Prop := fnNextToUptoRow.holds Tryd.pinned (OpenSpec.upto fnNextToSpec)

end Rows
end Go.Proofs.YtipiamhnngmjmaaDoor
