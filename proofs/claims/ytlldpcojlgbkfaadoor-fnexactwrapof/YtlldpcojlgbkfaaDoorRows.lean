/-
  NARROWER THAN 'FOR EVERY INPUT', by the rows' own cells (each row's printed sentence says how): FnExactGoodHull: laid · FnExactHullOf: laid · FnExactLowerOf: laid · FnExactUpperOf: laid · FnExactWrapOf: laid · FnExactByHalves: laid · FnExactIsHullOf: laid.
  DERIVED. THE GIVEN ROWS OF THIS SEAT. 7 by the template 'for every input the law returns true; each argument reads behind the call as it read before'; 0 by the template 'total and deterministic' (their statements: YtlldpcojlgbkfaaDoorTotals.lean).
  GIVEN WITH THE SEED: the statements are not yours to turn. If you find one false, say at which input.
  Laid BY PROGRAM, IN A SANDBOX (cutbox-rows.mjs): the forced cells as the released guide's own fill.sh prints them over the translation 46e4af6e929064b8… (all of the seat's roots in one cut). By AI agents, Wed Nov 11 2026. No macro, syntax, notation, axiom, sorry.
-/
import Derived.Test.YtlldpcojlgbkfaaDoorChecked
import GoSem.Claim
import GoSem.ClaimJoined
import GoSem.ClaimMapViews
import Derived.JoinedTies
import Derived.KernelRfl
namespace Go.Proofs.YtlldpcojlgbkfaaDoor
/- THE CELL 'sum', in the pinned program and in every row, IS THE sha256 OF THE DUMP (.gsa) THAT YtlldpcojlgbkfaaDoorProg.lean LOADS. Nothing in Lean hashes anything: it is a label: what it is worth is what the hold of that sum in a sandbox is worth. -/
noncomputable def Tryd.pinned : Pinned := { name := "ytlldpcojlgbkfaadoor", sum := "46e4af6e929064b8fed6d6b82d49d5e3343ff9692ce5b1b1dd3f1bec76cab325", checked := Tryd.checked }
namespace Rows
def none {H : Type} : Left H := { results := [], args := [] }

/- WHAT THE LISTED PACKAGE-LEVEL VARIABLES READ AS WHEN THE CALL BEGINS. Each datum BY PROGRAM (the guide's laid-datum.mjs) off the statement by which the dump's own 'gosem.cut.vars' lays the variable. In a bare row this is a premise. The card (YtlldpcojlgbkfaaDoorCards.lean) ties it to the program's text. -/
def laid_loop_example_g00780_impl_bounds {H : Type} : DataW H := .agg [.lit (.int .i64 1000000), .lit (.int .i64 1099511627776), .lit (.int .i64 4398046511104)]

/-- 'laws.FnExactGoodHull': WHATEVER THE INPUT: true; the input reads as it did. -/
def fnExactGoodHullSpec : ChangeSpec := { name := "fnExactGoodHull", vars := ["loop.example/g00780/impl.bounds"], fn := fun _ => fun
  | [d, g1] => { results := [.lit (.bool true)], args := [d], vars := [g1] }
  | _ => none }
def fnExactGoodHullRow : OpenClaim := { program := "ytlldpcojlgbkfaadoor", sum := "46e4af6e929064b8fed6d6b82d49d5e3343ff9692ce5b1b1dd3f1bec76cab325", func := "loop.example/g00780/laws.FnExactGoodHull", spec := "fnExactGoodHull", unfollowed := true, recurses := true, named := ["loop.example/g00780/impl.bounds"], apart := false, laid := [("loop.example/g00780/impl.bounds", laid_loop_example_g00780_impl_bounds)] }
def FnExactGoodHullSaid : Prop := fnExactGoodHullRow.holds Tryd.pinned (OpenSpec.ofChange fnExactGoodHullSpec)

/-- ITS FALSE NEIGHBOUR: 'it returns false'. Refute it at one input. -/
def fnExactGoodHullWrong : ChangeSpec := { name := "fnExactGoodHull", vars := ["loop.example/g00780/impl.bounds"], fn := fun _ => fun
  | [d, g1] => { results := [.lit (.bool false)], args := [d], vars := [g1] }
  | _ => none }
def FnExactGoodHullWrongFalsely : Prop := fnExactGoodHullRow.holds Tryd.pinned (OpenSpec.ofChange fnExactGoodHullWrong)

/-- 'laws.FnExactHullOf': WHATEVER THE INPUT: true; the input reads as it did. -/
def fnExactHullOfSpec : ChangeSpec := { name := "fnExactHullOf", vars := ["loop.example/g00780/impl.bounds"], fn := fun _ => fun
  | [d, g1] => { results := [.lit (.bool true)], args := [d], vars := [g1] }
  | _ => none }
def fnExactHullOfRow : OpenClaim := { program := "ytlldpcojlgbkfaadoor", sum := "46e4af6e929064b8fed6d6b82d49d5e3343ff9692ce5b1b1dd3f1bec76cab325", func := "loop.example/g00780/laws.FnExactHullOf", spec := "fnExactHullOf", unfollowed := true, recurses := true, named := ["loop.example/g00780/impl.bounds"], apart := false, laid := [("loop.example/g00780/impl.bounds", laid_loop_example_g00780_impl_bounds)] }
def FnExactHullOfSaid : Prop := fnExactHullOfRow.holds Tryd.pinned (OpenSpec.ofChange fnExactHullOfSpec)

/-- ITS FALSE NEIGHBOUR: 'it returns false'. Refute it at one input. -/
def fnExactHullOfWrong : ChangeSpec := { name := "fnExactHullOf", vars := ["loop.example/g00780/impl.bounds"], fn := fun _ => fun
  | [d, g1] => { results := [.lit (.bool false)], args := [d], vars := [g1] }
  | _ => none }
def FnExactHullOfWrongFalsely : Prop := fnExactHullOfRow.holds Tryd.pinned (OpenSpec.ofChange fnExactHullOfWrong)

/-- 'laws.FnExactLowerOf': WHATEVER THE INPUT: true; the input reads as it did. -/
def fnExactLowerOfSpec : ChangeSpec := { name := "fnExactLowerOf", vars := ["loop.example/g00780/impl.bounds"], fn := fun _ => fun
  | [d, g1] => { results := [.lit (.bool true)], args := [d], vars := [g1] }
  | _ => none }
def fnExactLowerOfRow : OpenClaim := { program := "ytlldpcojlgbkfaadoor", sum := "46e4af6e929064b8fed6d6b82d49d5e3343ff9692ce5b1b1dd3f1bec76cab325", func := "loop.example/g00780/laws.FnExactLowerOf", spec := "fnExactLowerOf", unfollowed := true, recurses := true, named := ["loop.example/g00780/impl.bounds"], apart := false, laid := [("loop.example/g00780/impl.bounds", laid_loop_example_g00780_impl_bounds)] }
def FnExactLowerOfSaid : Prop := fnExactLowerOfRow.holds Tryd.pinned (OpenSpec.ofChange fnExactLowerOfSpec)

/-- ITS FALSE NEIGHBOUR: 'it returns false'. Refute it at one input. -/
def fnExactLowerOfWrong : ChangeSpec := { name := "fnExactLowerOf", vars := ["loop.example/g00780/impl.bounds"], fn := fun _ => fun
  | [d, g1] => { results := [.lit (.bool false)], args := [d], vars := [g1] }
  | _ => none }
def FnExactLowerOfWrongFalsely : Prop := fnExactLowerOfRow.holds Tryd.pinned (OpenSpec.ofChange fnExactLowerOfWrong)

/-- 'laws.FnExactUpperOf': WHATEVER THE INPUT: true; the input reads as it did. -/
def fnExactUpperOfSpec : ChangeSpec := { name := "fnExactUpperOf", vars := ["loop.example/g00780/impl.bounds"], fn := fun _ => fun
  | [d, g1] => { results := [.lit (.bool true)], args := [d], vars := [g1] }
  | _ => none }
def fnExactUpperOfRow : OpenClaim := { program := "ytlldpcojlgbkfaadoor", sum := "46e4af6e929064b8fed6d6b82d49d5e3343ff9692ce5b1b1dd3f1bec76cab325", func := "loop.example/g00780/laws.FnExactUpperOf", spec := "fnExactUpperOf", unfollowed := true, recurses := true, named := ["loop.example/g00780/impl.bounds"], apart := false, laid := [("loop.example/g00780/impl.bounds", laid_loop_example_g00780_impl_bounds)] }
def FnExactUpperOfSaid : Prop := fnExactUpperOfRow.holds Tryd.pinned (OpenSpec.ofChange fnExactUpperOfSpec)

/-- ITS FALSE NEIGHBOUR: 'it returns false'. Refute it at one input. -/
def fnExactUpperOfWrong : ChangeSpec := { name := "fnExactUpperOf", vars := ["loop.example/g00780/impl.bounds"], fn := fun _ => fun
  | [d, g1] => { results := [.lit (.bool false)], args := [d], vars := [g1] }
  | _ => none }
def FnExactUpperOfWrongFalsely : Prop := fnExactUpperOfRow.holds Tryd.pinned (OpenSpec.ofChange fnExactUpperOfWrong)

/-- 'laws.FnExactWrapOf': WHATEVER THE INPUT: true; the input reads as it did. -/
def fnExactWrapOfSpec : ChangeSpec := { name := "fnExactWrapOf", vars := ["loop.example/g00780/impl.bounds"], fn := fun _ => fun
  | [d, g1] => { results := [.lit (.bool true)], args := [d], vars := [g1] }
  | _ => none }
def fnExactWrapOfRow : OpenClaim := { program := "ytlldpcojlgbkfaadoor", sum := "46e4af6e929064b8fed6d6b82d49d5e3343ff9692ce5b1b1dd3f1bec76cab325", func := "loop.example/g00780/laws.FnExactWrapOf", spec := "fnExactWrapOf", unfollowed := true, recurses := true, named := ["loop.example/g00780/impl.bounds"], apart := false, laid := [("loop.example/g00780/impl.bounds", laid_loop_example_g00780_impl_bounds)] }
def FnExactWrapOfSaid : Prop := fnExactWrapOfRow.holds Tryd.pinned (OpenSpec.ofChange fnExactWrapOfSpec)

/-- ITS FALSE NEIGHBOUR: 'it returns false'. Refute it at one input. -/
def fnExactWrapOfWrong : ChangeSpec := { name := "fnExactWrapOf", vars := ["loop.example/g00780/impl.bounds"], fn := fun _ => fun
  | [d, g1] => { results := [.lit (.bool false)], args := [d], vars := [g1] }
  | _ => none }
def FnExactWrapOfWrongFalsely : Prop := fnExactWrapOfRow.holds Tryd.pinned (OpenSpec.ofChange fnExactWrapOfWrong)

/-- 'laws.FnExactByHalves': WHATEVER THE INPUT: true; the input reads as it did. -/
def fnExactByHalvesSpec : ChangeSpec := { name := "fnExactByHalves", vars := ["loop.example/g00780/impl.bounds"], fn := fun _ => fun
  | [d, g1] => { results := [.lit (.bool true)], args := [d], vars := [g1] }
  | _ => none }
def fnExactByHalvesRow : OpenClaim := { program := "ytlldpcojlgbkfaadoor", sum := "46e4af6e929064b8fed6d6b82d49d5e3343ff9692ce5b1b1dd3f1bec76cab325", func := "loop.example/g00780/laws.FnExactByHalves", spec := "fnExactByHalves", unfollowed := true, recurses := true, named := ["loop.example/g00780/impl.bounds"], apart := false, laid := [("loop.example/g00780/impl.bounds", laid_loop_example_g00780_impl_bounds)] }
def FnExactByHalvesSaid : Prop := fnExactByHalvesRow.holds Tryd.pinned (OpenSpec.ofChange fnExactByHalvesSpec)

/-- ITS FALSE NEIGHBOUR: 'it returns false'. Refute it at one input. -/
def fnExactByHalvesWrong : ChangeSpec := { name := "fnExactByHalves", vars := ["loop.example/g00780/impl.bounds"], fn := fun _ => fun
  | [d, g1] => { results := [.lit (.bool false)], args := [d], vars := [g1] }
  | _ => none }
def FnExactByHalvesWrongFalsely : Prop := fnExactByHalvesRow.holds Tryd.pinned (OpenSpec.ofChange fnExactByHalvesWrong)

/-- 'laws.FnExactIsHullOf': WHATEVER THE INPUT: true; the input reads as it did. -/
def fnExactIsHullOfSpec : ChangeSpec := { name := "fnExactIsHullOf", vars := ["loop.example/g00780/impl.bounds"], fn := fun _ => fun
  | [d1, d2, g1] => { results := [.lit (.bool true)], args := [d1, d2], vars := [g1] }
  | _ => none }
def fnExactIsHullOfRow : OpenClaim := { program := "ytlldpcojlgbkfaadoor", sum := "46e4af6e929064b8fed6d6b82d49d5e3343ff9692ce5b1b1dd3f1bec76cab325", func := "loop.example/g00780/laws.FnExactIsHullOf", spec := "fnExactIsHullOf", unfollowed := true, recurses := true, named := ["loop.example/g00780/impl.bounds"], apart := false, laid := [("loop.example/g00780/impl.bounds", laid_loop_example_g00780_impl_bounds)] }
def FnExactIsHullOfSaid : Prop := fnExactIsHullOfRow.holds Tryd.pinned (OpenSpec.ofChange fnExactIsHullOfSpec)

/-- ITS FALSE NEIGHBOUR: 'it returns false'. Refute it at one input. -/
def fnExactIsHullOfWrong : ChangeSpec := { name := "fnExactIsHullOf", vars := ["loop.example/g00780/impl.bounds"], fn := fun _ => fun
  | [d1, d2, g1] => { results := [.lit (.bool false)], args := [d1, d2], vars := [g1] }
  | _ => none }
def FnExactIsHullOfWrongFalsely : Prop := fnExactIsHullOfRow.holds Tryd.pinned (OpenSpec.ofChange fnExactIsHullOfWrong)

/- THE SECOND FORM. 'bulk': how many values and letters a reading holds, each counted each time it is reached (what is shared counts as often as it is met; a slice's spare places count too). A statement '..UptoSaid' is the law's where the arguments, and the package variables that the reading takes, are together of bulk at most 1048576: NARROWER than '..Said'. Prove '..Said' where nothing that the law and all that it calls make is longer than what came in: it says more and counts as full. Else prove '..UptoSaid'. A law counts once. -/
mutual
def uptoBulk {H : Type} : DataW H → Nat
  | .lit (.string bytes) => bytes.length + 1
  | .lit _ => 1
  | .nil => 1
  | .ptr d => uptoBulk d + 1
  | .slice elems spare => uptoBulkAll elems + uptoBulkAll spare + 1
  | .agg parts => uptoBulkAll parts + 1
  | .iface _ d => uptoBulk d + 1
  | .map entries => uptoBulkEntries entries + 1
  | .held _ => 1
def uptoBulkAll {H : Type} : List (DataW H) → Nat
  | [] => 0
  | d :: r => uptoBulk d + uptoBulkAll r
def uptoBulkEntries {H : Type} : List (Lit × DataW H) → Nat
  | [] => 0
  | x :: r => uptoBulkEntry x + uptoBulkEntries r
def uptoBulkEntry {H : Type} : Lit × DataW H → Nat
  | (.string bytes, d) => bytes.length + uptoBulk d + 1
  | (_, d) => uptoBulk d + 1
 end
def uptoSmall : (H : Type) → List (DataW H) → Bool := fun _ ds => decide (uptoBulkAll ds ≤ 1048576)
def OpenSpec.upto (s : _root_.Go.ChangeSpec) : _root_.Go.OpenSpec := { _root_.Go.OpenSpec.ofChange s with cond := some uptoSmall }

/-- 'laws.FnExactGoodHull', WHERE WHAT IT READS IS OF BULK AT MOST 1048576: true; the input reads as it did. -/
def fnExactGoodHullUptoRow : OpenClaim := { program := "ytlldpcojlgbkfaadoor", sum := "46e4af6e929064b8fed6d6b82d49d5e3343ff9692ce5b1b1dd3f1bec76cab325", func := "loop.example/g00780/laws.FnExactGoodHull", spec := "fnExactGoodHull", unfollowed := true, recurses := true, named := ["loop.example/g00780/impl.bounds"], apart := false, laid := [("loop.example/g00780/impl.bounds", laid_loop_example_g00780_impl_bounds)], narrowed := true }
def FnExactGoodHullUptoSaid : Prop := fnExactGoodHullUptoRow.holds Tryd.pinned (OpenSpec.upto fnExactGoodHullSpec)

/-- 'laws.FnExactHullOf', WHERE WHAT IT READS IS OF BULK AT MOST 1048576: true; the input reads as it did. -/
def fnExactHullOfUptoRow : OpenClaim := { program := "ytlldpcojlgbkfaadoor", sum := "46e4af6e929064b8fed6d6b82d49d5e3343ff9692ce5b1b1dd3f1bec76cab325", func := "loop.example/g00780/laws.FnExactHullOf", spec := "fnExactHullOf", unfollowed := true, recurses := true, named := ["loop.example/g00780/impl.bounds"], apart := false, laid := [("loop.example/g00780/impl.bounds", laid_loop_example_g00780_impl_bounds)], narrowed := true }
def FnExactHullOfUptoSaid : Prop := fnExactHullOfUptoRow.holds Tryd.pinned (OpenSpec.upto fnExactHullOfSpec)

/-- 'laws.FnExactLowerOf', WHERE WHAT IT READS IS OF BULK AT MOST 1048576: true; the input reads as it did. -/
def fnExactLowerOfUptoRow : OpenClaim := { program := "ytlldpcojlgbkfaadoor", sum := "46e4af6e929064b8fed6d6b82d49d5e3343ff9692ce5b1b1dd3f1bec76cab325", func := "loop.example/g00780/laws.FnExactLowerOf", spec := "fnExactLowerOf", unfollowed := true, recurses := true, named := ["loop.example/g00780/impl.bounds"], apart := false, laid := [("loop.example/g00780/impl.bounds", laid_loop_example_g00780_impl_bounds)], narrowed := true }
def FnExactLowerOfUptoSaid : Prop := fnExactLowerOfUptoRow.holds Tryd.pinned (OpenSpec.upto fnExactLowerOfSpec)

/-- 'laws.FnExactUpperOf', WHERE WHAT IT READS IS OF BULK AT MOST 1048576: true; the input reads as it did. -/
def fnExactUpperOfUptoRow : OpenClaim := { program := "ytlldpcojlgbkfaadoor", sum := "46e4af6e929064b8fed6d6b82d49d5e3343ff9692ce5b1b1dd3f1bec76cab325", func := "loop.example/g00780/laws.FnExactUpperOf", spec := "fnExactUpperOf", unfollowed := true, recurses := true, named := ["loop.example/g00780/impl.bounds"], apart := false, laid := [("loop.example/g00780/impl.bounds", laid_loop_example_g00780_impl_bounds)], narrowed := true }
def FnExactUpperOfUptoSaid : Prop := fnExactUpperOfUptoRow.holds Tryd.pinned (OpenSpec.upto fnExactUpperOfSpec)

/-- 'laws.FnExactWrapOf', WHERE WHAT IT READS IS OF BULK AT MOST 1048576: true; the input reads as it did. -/
def fnExactWrapOfUptoRow : OpenClaim := { program := "ytlldpcojlgbkfaadoor", sum := "46e4af6e929064b8fed6d6b82d49d5e3343ff9692ce5b1b1dd3f1bec76cab325", func := "loop.example/g00780/laws.FnExactWrapOf", spec := "fnExactWrapOf", unfollowed := true, recurses := true, named := ["loop.example/g00780/impl.bounds"], apart := false, laid := [("loop.example/g00780/impl.bounds", laid_loop_example_g00780_impl_bounds)], narrowed := true }
def FnExactWrapOfUptoSaid : Prop := fnExactWrapOfUptoRow.holds Tryd.pinned (OpenSpec.upto fnExactWrapOfSpec)

/-- 'laws.FnExactByHalves', WHERE WHAT IT READS IS OF BULK AT MOST 1048576: true; the input reads as it did. -/
def fnExactByHalvesUptoRow : OpenClaim := { program := "ytlldpcojlgbkfaadoor", sum := "46e4af6e929064b8fed6d6b82d49d5e3343ff9692ce5b1b1dd3f1bec76cab325", func := "loop.example/g00780/laws.FnExactByHalves", spec := "fnExactByHalves", unfollowed := true, recurses := true, named := ["loop.example/g00780/impl.bounds"], apart := false, laid := [("loop.example/g00780/impl.bounds", laid_loop_example_g00780_impl_bounds)], narrowed := true }
def FnExactByHalvesUptoSaid : Prop := fnExactByHalvesUptoRow.holds Tryd.pinned (OpenSpec.upto fnExactByHalvesSpec)

/-- 'laws.FnExactIsHullOf', WHERE WHAT IT READS IS OF BULK AT MOST 1048576: true; the input reads as it did. -/
def fnExactIsHullOfUptoRow : OpenClaim := { program := "ytlldpcojlgbkfaadoor", sum := "46e4af6e929064b8fed6d6b82d49d5e3343ff9692ce5b1b1dd3f1bec76cab325", func := "loop.example/g00780/laws.FnExactIsHullOf", spec := "fnExactIsHullOf", unfollowed := true, recurses := true, named := ["loop.example/g00780/impl.bounds"], apart := false, laid := [("loop.example/g00780/impl.bounds", laid_loop_example_g00780_impl_bounds)], narrowed := true }
def FnExactIsHullOfUptoSaid : Prop := fnExactIsHullOfUptoRow.holds Tryd.pinned (OpenSpec.upto fnExactIsHullOfSpec)

end Rows
end Go.Proofs.YtlldpcojlgbkfaaDoor
