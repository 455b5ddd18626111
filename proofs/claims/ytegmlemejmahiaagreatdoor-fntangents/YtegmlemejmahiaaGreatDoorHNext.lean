/-
  Which point is next round a set, in the program (a contract for the walks).
  Conditions: as each theorem states them.
-/
import Derived.Test.YtegmlemejmahiaaGreatDoorHBeyond
namespace Go.Proofs.YtegmlemejmahiaaGreatDoor
open Go.RowKit Go.Shelf
set_option linter.unusedVariables false
set_option maxRecDepth 8000
theorem istep_tl {a b p : Int × Int} (h : tlB a p b = true) : istep a b p = p := by unfold istep; rw [if_pos (.inr (.inl h))]
theorem istep_by {a b p : Int × Int} (h : byB a b p = true) : istep a b p = p := by unfold istep; rw [if_pos (.inr (.inr h))]
theorem istep_no {a b p : Int × Int} (h0 : b ≠ a) (h : tlB a p b = false) (k : byB a b p = false) : istep a b p = b := by
  unfold istep
  rw [if_neg]
  rintro (e | e | e)
  · exact h0 e
  · rw [h] at e; cases e
  · rw [k] at e; cases e
theorem istep_at {a p : Int × Int} : istep a a p = p := by unfold istep; rw [if_pos (.inl rfl)]
theorem fold_take {f : Int × Int → Int × Int → Int × Int} {l : List (Int × Int)} {k : Nat} {b : Int × Int} (h : k < l.length) : (l.take (k + 1)).foldl f b = f ((l.take k).foldl f b) (px l k, py l k) := by
  rw [pt_take h, List.foldl_append]; rfl
end Go.Proofs.YtegmlemejmahiaaGreatDoor
