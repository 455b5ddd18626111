/-
  A copy of a list in new memory (contracts for the walks).
  Conditions: as each theorem states them.
-/
import Derived.Test.YtoefllklngnmeaaDoorFMark
import Derived.Test.YtoefllklngnmeaaDoorTri4
import Derived.Test.YtoefllklngnmeaaDoorHHullA
import Derived.Lib.SliceRun
namespace Go.Proofs.YtoefllklngnmeaaDoor
open Go.RowKit
set_option linter.unusedVariables false
set_option maxRecDepth 8000
theorem OwnC.empty {N : Nat} {w : World} (h : N ≤ w.heap.size) : OwnC N (.slice (Option.some ⟨w.heap.size, 0, none⟩) 0 0) [] (w.alloc (.cells #[] 30)) :=
  .inr ⟨w.heap.size, 0, 0, fun _ => .int .i64 0, rfl, h, Nat.le_refl _, Nat.zero_le _, Nat.le_refl _, ⟨#[], heap_alloc_new _ _, rfl, fun i hi => absurd hi (Nat.not_lt_zero _)⟩, fun i hi => absurd hi (Nat.not_lt_zero _)⟩
theorem eql_nil_sl (w : World) (b off n c : Nat) : (binOp .eql 28 (.slice (some ⟨b, off, none⟩) n c) (.slice none 0 0)).run Tryd.prog w = .ok (.bool false) w := by
  have := Lib.run_eql_slice_nil (P := Tryd.prog) w 28 30 (some ⟨b, off, none⟩) n c 0 0 Tryd.underlying28
  simpa using this
attribute [local go_sem] eql_nil_sl
end Go.Proofs.YtoefllklngnmeaaDoor
