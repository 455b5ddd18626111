/-
  A copy of a list in new memory (contracts for the walks).
  Conditions: as each theorem states them.
-/
import Derived.Test.YtegmlemejmahiaaGreatDoorB6
import Derived.Test.YtegmlemejmahiaaGreatDoorTri4
import Derived.Test.YtegmlemejmahiaaGreatDoorHHullA
import Derived.Lib.SliceRun
namespace Go.Proofs.YtegmlemejmahiaaGreatDoor
open Go.RowKit
set_option linter.unusedVariables false
set_option maxRecDepth 8000
theorem OwnC.empty {N : Nat} {w : World} (h : N ≤ w.heap.size) : OwnC N (.slice (Option.some ⟨w.heap.size, 0, none⟩) 0 0) [] (w.alloc (.cells #[] 26)) :=
  .inr ⟨w.heap.size, 0, 0, fun _ => .int .i64 0, rfl, h, Nat.le_refl _, Nat.zero_le _, Nat.le_refl _, ⟨#[], heap_alloc_new _ _, rfl, fun i hi => absurd hi (Nat.not_lt_zero _)⟩, fun i hi => absurd hi (Nat.not_lt_zero _)⟩
theorem eql_nil_sl (w : World) (b off n c : Nat) : (binOp .eql 24 (.slice (some ⟨b, off, none⟩) n c) (.slice none 0 0)).run Tryz.prog w = .ok (.bool false) w := by
  have := Lib.run_eql_slice_nil (P := Tryz.prog) w 24 26 (some ⟨b, off, none⟩) n c 0 0 Tryz.underlying24
  simpa using this
attribute [local go_sem] eql_nil_sl
set_option maxHeartbeats 2000000 in
set_option maxRecDepth 8000 in
theorem clone_c (l : List (Int × Int)) (b off n cap : Nat) (w : World) (hl : l.length = n) (h0 : 0 < n) (h1 : n ≤ 1000000) (hA : At w.heap.size (some ⟨b, off, none⟩) l w) :
    Calls Tryz.prog 33 #[.slice (some ⟨b, off, none⟩) n cap] w fun e w' => ∃ v, e = .returned v ∧ OwnC w.heap.size v l w' ∧ Below w.heap.size w w' := by
  subst hl
  obtain ⟨i0, hi, hz0, hz1, hz2⟩ := info_parts info_pt
  have HA := hid hA
  have hlen : 0 + l.length ≤ 1048576 := by omega
  clear hA
  go_enter Tryz.func33, Tryz.ntmps33
  go_wp2_with (at_builtin; refine wpList_append_cut rfl (.tmp 5) (.tmp 6) 24 rfl w.heap.size Tryz.underlying24 hi hz0 hz1 hz2 (by rfl) (.slice (some ⟨w.heap.size, 0, none⟩) 0 0) [] l rfl (OwnC.empty (Nat.le_refl _)) ⟨b, off, none⟩ _ _ rfl rfl (fun j u hu => cells_at (HA.out.later (by go_grown)) j u hu) h0 (by simpa using hlen) (by simp) ?_; intro g cp w2 hO2 hg2 _; have hB2 := OwnC.grownBelow (OwnC.empty (Nat.le_refl w.heap.size)) hg2 (by simp); have HX := hid hO2; have HB2 := hid hB2; clear hg2 hO2 hB2)
  go_ret
  exact ⟨_, rfl, by have := HX.out; simpa using this, (by go_grown : Below w.heap.size w _).trans HB2.out⟩
end Go.Proofs.YtegmlemejmahiaaGreatDoor
