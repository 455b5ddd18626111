/-
  NARROWER THAN 'FOR EVERY INPUT', by the rows' own cells (each row's printed sentence says how): FnExactExtremeOf: laid · FnExactSupportOf: laid · FnExactTangentsFrom: laid · FnExactSeesFrom: laid · FnExactPutOutside: laid · FnExactIsTangent: laid · FnExtremes: laid.
  DERIVED. THE GIVEN ROWS OF THIS SEAT. 7 by the template 'for every input the law returns true; each argument reads behind the call as it read before'; 0 by the template 'total and deterministic' (their statements: YtegmlemejmahiaaDoorTotals.lean).
  GIVEN WITH THE SEED: the statements are not yours to turn. If you find one false, say at which input.
  Laid BY PROGRAM, IN A SANDBOX (cutbox-rows.mjs): the forced cells as the released guide's own fill.sh prints them over the translation e861a20a319b19a0… (all of the seat's roots in one cut). By AI agents, Wed Nov 11 2026. No macro, syntax, notation, axiom, sorry.
-/
import Derived.Test.YtegmlemejmahiaaDoorChecked
import GoSem.Claim
import GoSem.ClaimJoined
import GoSem.ClaimMapViews
import Derived.JoinedTies
import Derived.KernelRfl
namespace Go.Proofs.YtegmlemejmahiaaDoor
/- THE CELL 'sum', in the pinned program and in every row, IS THE sha256 OF THE DUMP (.gsa) THAT YtegmlemejmahiaaDoorProg.lean LOADS. Nothing in Lean hashes anything: it is a label: what it is worth is what the hold of that sum in a sandbox is worth. -/
noncomputable def Tryd.pinned : Pinned := { name := "ytegmlemejmahiaadoor", sum := "e861a20a319b19a0f1ad9bab46838dbb9f4e0f5fe7b8edd05da45173f4c37d13", checked := Tryd.checked }
namespace Rows
def none {H : Type} : Left H := { results := [], args := [] }

/- WHAT THE LISTED PACKAGE-LEVEL VARIABLES READ AS WHEN THE CALL BEGINS. Each datum BY PROGRAM (the guide's laid-datum.mjs) off the statement by which the dump's own 'gosem.cut.vars' lays the variable. In a bare row this is a premise. The card (YtegmlemejmahiaaDoorCards.lean) ties it to the program's text. -/
def laid_loop_example_g00780_impl_bounds {H : Type} : DataW H := .agg [.lit (.int .i64 1000000), .lit (.int .i64 1099511627776), .lit (.int .i64 4398046511104)]

/-- 'laws.FnExactExtremeOf': WHATEVER THE INPUT: true; the input reads as it did. -/
def fnExactExtremeOfSpec : ChangeSpec := { name := "fnExactExtremeOf", vars := ["loop.example/g00780/impl.bounds"], fn := fun _ => fun
  | [d1, d2, g1] => { results := [.lit (.bool true)], args := [d1, d2], vars := [g1] }
  | _ => none }
def fnExactExtremeOfRow : OpenClaim := { program := "ytegmlemejmahiaadoor", sum := "e861a20a319b19a0f1ad9bab46838dbb9f4e0f5fe7b8edd05da45173f4c37d13", func := "loop.example/g00780/laws.FnExactExtremeOf", spec := "fnExactExtremeOf", unfollowed := true, recurses := true, named := ["loop.example/g00780/impl.bounds"], apart := false, laid := [("loop.example/g00780/impl.bounds", laid_loop_example_g00780_impl_bounds)] }
def FnExactExtremeOfSaid : Prop := fnExactExtremeOfRow.holds Tryd.pinned (OpenSpec.ofChange fnExactExtremeOfSpec)

/-- ITS FALSE NEIGHBOUR: 'it returns false'. Refute it at one input. -/
def fnExactExtremeOfWrong : ChangeSpec := { name := "fnExactExtremeOf", vars := ["loop.example/g00780/impl.bounds"], fn := fun _ => fun
  | [d1, d2, g1] => { results := [.lit (.bool false)], args := [d1, d2], vars := [g1] }
  | _ => none }
def FnExactExtremeOfWrongFalsely : Prop := fnExactExtremeOfRow.holds Tryd.pinned (OpenSpec.ofChange fnExactExtremeOfWrong)

/-- 'laws.FnExactSupportOf': WHATEVER THE INPUT: true; the input reads as it did. -/
def fnExactSupportOfSpec : ChangeSpec := { name := "fnExactSupportOf", vars := ["loop.example/g00780/impl.bounds"], fn := fun _ => fun
  | [d1, d2, g1] => { results := [.lit (.bool true)], args := [d1, d2], vars := [g1] }
  | _ => none }
def fnExactSupportOfRow : OpenClaim := { program := "ytegmlemejmahiaadoor", sum := "e861a20a319b19a0f1ad9bab46838dbb9f4e0f5fe7b8edd05da45173f4c37d13", func := "loop.example/g00780/laws.FnExactSupportOf", spec := "fnExactSupportOf", unfollowed := true, recurses := true, named := ["loop.example/g00780/impl.bounds"], apart := false, laid := [("loop.example/g00780/impl.bounds", laid_loop_example_g00780_impl_bounds)] }
def FnExactSupportOfSaid : Prop := fnExactSupportOfRow.holds Tryd.pinned (OpenSpec.ofChange fnExactSupportOfSpec)

/-- ITS FALSE NEIGHBOUR: 'it returns false'. Refute it at one input. -/
def fnExactSupportOfWrong : ChangeSpec := { name := "fnExactSupportOf", vars := ["loop.example/g00780/impl.bounds"], fn := fun _ => fun
  | [d1, d2, g1] => { results := [.lit (.bool false)], args := [d1, d2], vars := [g1] }
  | _ => none }
def FnExactSupportOfWrongFalsely : Prop := fnExactSupportOfRow.holds Tryd.pinned (OpenSpec.ofChange fnExactSupportOfWrong)

/-- 'laws.FnExactTangentsFrom': WHATEVER THE INPUT: true; the input reads as it did. -/
def fnExactTangentsFromSpec : ChangeSpec := { name := "fnExactTangentsFrom", vars := ["loop.example/g00780/impl.bounds"], fn := fun _ => fun
  | [d1, d2, g1] => { results := [.lit (.bool true)], args := [d1, d2], vars := [g1] }
  | _ => none }
def fnExactTangentsFromRow : OpenClaim := { program := "ytegmlemejmahiaadoor", sum := "e861a20a319b19a0f1ad9bab46838dbb9f4e0f5fe7b8edd05da45173f4c37d13", func := "loop.example/g00780/laws.FnExactTangentsFrom", spec := "fnExactTangentsFrom", unfollowed := true, recurses := true, named := ["loop.example/g00780/impl.bounds"], apart := false, laid := [("loop.example/g00780/impl.bounds", laid_loop_example_g00780_impl_bounds)] }
def FnExactTangentsFromSaid : Prop := fnExactTangentsFromRow.holds Tryd.pinned (OpenSpec.ofChange fnExactTangentsFromSpec)

/-- ITS FALSE NEIGHBOUR: 'it returns false'. Refute it at one input. -/
def fnExactTangentsFromWrong : ChangeSpec := { name := "fnExactTangentsFrom", vars := ["loop.example/g00780/impl.bounds"], fn := fun _ => fun
  | [d1, d2, g1] => { results := [.lit (.bool false)], args := [d1, d2], vars := [g1] }
  | _ => none }
def FnExactTangentsFromWrongFalsely : Prop := fnExactTangentsFromRow.holds Tryd.pinned (OpenSpec.ofChange fnExactTangentsFromWrong)

/-- 'laws.FnExactSeesFrom': WHATEVER THE INPUT: true; the input reads as it did. -/
def fnExactSeesFromSpec : ChangeSpec := { name := "fnExactSeesFrom", vars := ["loop.example/g00780/impl.bounds"], fn := fun _ => fun
  | [d1, d2, g1] => { results := [.lit (.bool true)], args := [d1, d2], vars := [g1] }
  | _ => none }
def fnExactSeesFromRow : OpenClaim := { program := "ytegmlemejmahiaadoor", sum := "e861a20a319b19a0f1ad9bab46838dbb9f4e0f5fe7b8edd05da45173f4c37d13", func := "loop.example/g00780/laws.FnExactSeesFrom", spec := "fnExactSeesFrom", unfollowed := true, recurses := true, named := ["loop.example/g00780/impl.bounds"], apart := false, laid := [("loop.example/g00780/impl.bounds", laid_loop_example_g00780_impl_bounds)] }
def FnExactSeesFromSaid : Prop := fnExactSeesFromRow.holds Tryd.pinned (OpenSpec.ofChange fnExactSeesFromSpec)

/-- ITS FALSE NEIGHBOUR: 'it returns false'. Refute it at one input. -/
def fnExactSeesFromWrong : ChangeSpec := { name := "fnExactSeesFrom", vars := ["loop.example/g00780/impl.bounds"], fn := fun _ => fun
  | [d1, d2, g1] => { results := [.lit (.bool false)], args := [d1, d2], vars := [g1] }
  | _ => none }
def FnExactSeesFromWrongFalsely : Prop := fnExactSeesFromRow.holds Tryd.pinned (OpenSpec.ofChange fnExactSeesFromWrong)

/-- 'laws.FnExactPutOutside': WHATEVER THE INPUT: true; the input reads as it did. -/
def fnExactPutOutsideSpec : ChangeSpec := { name := "fnExactPutOutside", vars := ["loop.example/g00780/impl.bounds"], fn := fun _ => fun
  | [d1, d2, g1] => { results := [.lit (.bool true)], args := [d1, d2], vars := [g1] }
  | _ => none }
def fnExactPutOutsideRow : OpenClaim := { program := "ytegmlemejmahiaadoor", sum := "e861a20a319b19a0f1ad9bab46838dbb9f4e0f5fe7b8edd05da45173f4c37d13", func := "loop.example/g00780/laws.FnExactPutOutside", spec := "fnExactPutOutside", unfollowed := true, recurses := true, named := ["loop.example/g00780/impl.bounds"], apart := false, laid := [("loop.example/g00780/impl.bounds", laid_loop_example_g00780_impl_bounds)] }
def FnExactPutOutsideSaid : Prop := fnExactPutOutsideRow.holds Tryd.pinned (OpenSpec.ofChange fnExactPutOutsideSpec)

/-- ITS FALSE NEIGHBOUR: 'it returns false'. Refute it at one input. -/
def fnExactPutOutsideWrong : ChangeSpec := { name := "fnExactPutOutside", vars := ["loop.example/g00780/impl.bounds"], fn := fun _ => fun
  | [d1, d2, g1] => { results := [.lit (.bool false)], args := [d1, d2], vars := [g1] }
  | _ => none }
def FnExactPutOutsideWrongFalsely : Prop := fnExactPutOutsideRow.holds Tryd.pinned (OpenSpec.ofChange fnExactPutOutsideWrong)

/-- 'laws.FnExactIsTangent': WHATEVER THE INPUT: true; the input reads as it did. -/
def fnExactIsTangentSpec : ChangeSpec := { name := "fnExactIsTangent", vars := ["loop.example/g00780/impl.bounds"], fn := fun _ => fun
  | [d1, d2, d3, g1] => { results := [.lit (.bool true)], args := [d1, d2, d3], vars := [g1] }
  | _ => none }
def fnExactIsTangentRow : OpenClaim := { program := "ytegmlemejmahiaadoor", sum := "e861a20a319b19a0f1ad9bab46838dbb9f4e0f5fe7b8edd05da45173f4c37d13", func := "loop.example/g00780/laws.FnExactIsTangent", spec := "fnExactIsTangent", unfollowed := true, recurses := true, named := ["loop.example/g00780/impl.bounds"], apart := false, laid := [("loop.example/g00780/impl.bounds", laid_loop_example_g00780_impl_bounds)] }
def FnExactIsTangentSaid : Prop := fnExactIsTangentRow.holds Tryd.pinned (OpenSpec.ofChange fnExactIsTangentSpec)

/-- ITS FALSE NEIGHBOUR: 'it returns false'. Refute it at one input. -/
def fnExactIsTangentWrong : ChangeSpec := { name := "fnExactIsTangent", vars := ["loop.example/g00780/impl.bounds"], fn := fun _ => fun
  | [d1, d2, d3, g1] => { results := [.lit (.bool false)], args := [d1, d2, d3], vars := [g1] }
  | _ => none }
def FnExactIsTangentWrongFalsely : Prop := fnExactIsTangentRow.holds Tryd.pinned (OpenSpec.ofChange fnExactIsTangentWrong)

/-- 'laws.FnExtremes': WHATEVER THE INPUT: true; the input reads as it did. -/
def fnExtremesSpec : ChangeSpec := { name := "fnExtremes", vars := ["loop.example/g00780/impl.bounds"], fn := fun _ => fun
  | [d1, d2, g1] => { results := [.lit (.bool true)], args := [d1, d2], vars := [g1] }
  | _ => none }
def fnExtremesRow : OpenClaim := { program := "ytegmlemejmahiaadoor", sum := "e861a20a319b19a0f1ad9bab46838dbb9f4e0f5fe7b8edd05da45173f4c37d13", func := "loop.example/g00780/laws.FnExtremes", spec := "fnExtremes", unfollowed := true, recurses := true, named := ["loop.example/g00780/impl.bounds"], apart := false, laid := [("loop.example/g00780/impl.bounds", laid_loop_example_g00780_impl_bounds)] }
def FnExtremesSaid : Prop := fnExtremesRow.holds Tryd.pinned (OpenSpec.ofChange fnExtremesSpec)

/-- ITS FALSE NEIGHBOUR: 'it returns false'. Refute it at one input. -/
def fnExtremesWrong : ChangeSpec := { name := "fnExtremes", vars := ["loop.example/g00780/impl.bounds"], fn := fun _ => fun
  | [d1, d2, g1] => { results := [.lit (.bool false)], args := [d1, d2], vars := [g1] }
  | _ => none }
def FnExtremesWrongFalsely : Prop := fnExtremesRow.holds Tryd.pinned (OpenSpec.ofChange fnExtremesWrong)

/- THE SECOND FORM. 'bulk': how many values and letters a reading holds, each counted each time it is reached (what is shared counts as often as it is met; a slice's spare places count too). A statement '..UptoSaid' is the law's where the arguments, and the package variables that the reading takes, are together of bulk at most 1048576: NARROWER than '..Said'. Prove '..Said' where nothing that the law and all that it calls make is longer than what came in: it says more and counts as full. Else prove '..UptoSaid'. A law counts once. -/
mutual
def uptoBulk {H : Type} : DataW H → Nat
  | .lit (.string bytes) => bytes.length + 1
  | .lit _ => 1
  | .nil => 1
  | .ptr d => uptoBulk d + 1
  | .slice elems spare => uptoBulkAll elems + uptoBulkAll spare + 1
  | .agg parts => uptoBulkAll parts + 1
  | .iface _ d => uptoBulk d + 1
  | .map entries => uptoBulkEntries entries + 1
  | .held _ => 1
def uptoBulkAll {H : Type} : List (DataW H) → Nat
  | [] => 0
  | d :: r => uptoBulk d + uptoBulkAll r
def uptoBulkEntries {H : Type} : List (Lit × DataW H) → Nat
  | [] => 0
  | x :: r => uptoBulkEntry x + uptoBulkEntries r
def uptoBulkEntry {H : Type} : Lit × DataW H → Nat
  | (.string bytes, d) => bytes.length + uptoBulk d + 1
  | (_, d) => uptoBulk d + 1
 end
def uptoSmall : (H : Type) → List (DataW H) → Bool := fun _ ds => decide (uptoBulkAll ds ≤ 1048576)
def OpenSpec.upto (s : _root_.Go.ChangeSpec) : _root_.Go.OpenSpec := { _root_.Go.OpenSpec.ofChange s with cond := some uptoSmall }

/-- 'laws.FnExactExtremeOf', WHERE WHAT IT READS IS OF BULK AT MOST 1048576: true; the input reads as it did. -/
def fnExactExtremeOfUptoRow : OpenClaim := { program := "ytegmlemejmahiaadoor", sum := "e861a20a319b19a0f1ad9bab46838dbb9f4e0f5fe7b8edd05da45173f4c37d13", func := "loop.example/g00780/laws.FnExactExtremeOf", spec := "fnExactExtremeOf", unfollowed := true, recurses := true, named := ["loop.example/g00780/impl.bounds"], apart := false, laid := [("loop.example/g00780/impl.bounds", laid_loop_example_g00780_impl_bounds)], narrowed := true }
def FnExactExtremeOfUptoSaid : Prop := fnExactExtremeOfUptoRow.holds Tryd.pinned (OpenSpec.upto fnExactExtremeOfSpec)

/-- 'laws.FnExactSupportOf', WHERE WHAT IT READS IS OF BULK AT MOST 1048576: true; the input reads as it did. -/
def fnExactSupportOfUptoRow : OpenClaim := { program := "ytegmlemejmahiaadoor", sum := "e861a20a319b19a0f1ad9bab46838dbb9f4e0f5fe7b8edd05da45173f4c37d13", func := "loop.example/g00780/laws.FnExactSupportOf", spec := "fnExactSupportOf", unfollowed := true, recurses := true, named := ["loop.example/g00780/impl.bounds"], apart := false, laid := [("loop.example/g00780/impl.bounds", laid_loop_example_g00780_impl_bounds)], narrowed := true }
def FnExactSupportOfUptoSaid : Prop := fnExactSupportOfUptoRow.holds Tryd.pinned (OpenSpec.upto fnExactSupportOfSpec)

/-- 'laws.FnExactTangentsFrom', WHERE WHAT IT READS IS OF BULK AT MOST 1048576: true; the input reads as it did. -/
def fnExactTangentsFromUptoRow : OpenClaim := { program := "ytegmlemejmahiaadoor", sum := "e861a20a319b19a0f1ad9bab46838dbb9f4e0f5fe7b8edd05da45173f4c37d13", func := "loop.example/g00780/laws.FnExactTangentsFrom", spec := "fnExactTangentsFrom", unfollowed := true, recurses := true, named := ["loop.example/g00780/impl.bounds"], apart := false, laid := [("loop.example/g00780/impl.bounds", laid_loop_example_g00780_impl_bounds)], narrowed := true }
def FnExactTangentsFromUptoSaid : Prop := fnExactTangentsFromUptoRow.holds Tryd.pinned (OpenSpec.upto fnExactTangentsFromSpec)

/-- 'laws.FnExactSeesFrom', WHERE WHAT IT READS IS OF BULK AT MOST 1048576: true; the input reads as it did. -/
def fnExactSeesFromUptoRow : OpenClaim := { program := "ytegmlemejmahiaadoor", sum := "e861a20a319b19a0f1ad9bab46838dbb9f4e0f5fe7b8edd05da45173f4c37d13", func := "loop.example/g00780/laws.FnExactSeesFrom", spec := "fnExactSeesFrom", unfollowed := true, recurses := true, named := ["loop.example/g00780/impl.bounds"], apart := false, laid := [("loop.example/g00780/impl.bounds", laid_loop_example_g00780_impl_bounds)], narrowed := true }
def FnExactSeesFromUptoSaid : Prop := fnExactSeesFromUptoRow.holds Tryd.pinned (OpenSpec.upto fnExactSeesFromSpec)

/-- 'laws.FnExactPutOutside', WHERE WHAT IT READS IS OF BULK AT MOST 1048576: true; the input reads as it did. -/
def fnExactPutOutsideUptoRow : OpenClaim := { program := "ytegmlemejmahiaadoor", sum := "e861a20a319b19a0f1ad9bab46838dbb9f4e0f5fe7b8edd05da45173f4c37d13", func := "loop.example/g00780/laws.FnExactPutOutside", spec := "fnExactPutOutside", unfollowed := true, recurses := true, named := ["loop.example/g00780/impl.bounds"], apart := false, laid := [("loop.example/g00780/impl.bounds", laid_loop_example_g00780_impl_bounds)], narrowed := true }
def FnExactPutOutsideUptoSaid : Prop := fnExactPutOutsideUptoRow.holds Tryd.pinned (OpenSpec.upto fnExactPutOutsideSpec)

/-- 'laws.FnExactIsTangent', WHERE WHAT IT READS IS OF BULK AT MOST 1048576: true; the input reads as it did. -/
def fnExactIsTangentUptoRow : OpenClaim := { program := "ytegmlemejmahiaadoor", sum := "e861a20a319b19a0f1ad9bab46838dbb9f4e0f5fe7b8edd05da45173f4c37d13", func := "loop.example/g00780/laws.FnExactIsTangent", spec := "fnExactIsTangent", unfollowed := true, recurses := true, named := ["loop.example/g00780/impl.bounds"], apart := false, laid := [("loop.example/g00780/impl.bounds", laid_loop_example_g00780_impl_bounds)], narrowed := true }
def FnExactIsTangentUptoSaid : Prop := fnExactIsTangentUptoRow.holds Tryd.pinned (OpenSpec.upto fnExactIsTangentSpec)

/-- 'laws.FnExtremes', WHERE WHAT IT READS IS OF BULK AT MOST 1048576: true; the input reads as it did. -/
def fnExtremesUptoRow : OpenClaim := { program := "ytegmlemejmahiaadoor", sum := "e861a20a319b19a0f1ad9bab46838dbb9f4e0f5fe7b8edd05da45173f4c37d13", func := "loop.example/g00780/laws.FnExtremes", spec := "fnExtremes", unfollowed := true, recurses := true, named := ["loop.example/g00780/impl.bounds"], apart := false, laid := [("loop.example/g00780/impl.bounds", laid_loop_example_g00780_impl_bounds)], narrowed := true }
def FnExtremesUptoSaid : Prop := fnExtremesUptoRow.holds Tryd.pinned (OpenSpec.upto fnExtremesSpec)

end Rows
end Go.Proofs.YtegmlemejmahiaaDoor
