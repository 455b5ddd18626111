/-
  What PutPoint answers, in the specification and in the program (contracts for the walks).
  Conditions: as each theorem states them.
-/
import Derived.Test.YtegmlemejmahiaaDoorSet12
import Derived.Test.YtegmlemejmahiaaDoorSet9
namespace Go.Proofs.YtegmlemejmahiaaDoor
open Go.RowKit
set_option linter.unusedVariables false
theorem fit_row (b n : Nat) (h : n ≤ 1048576) : Fit (some ⟨b, 0, none⟩) n n := .inr ⟨⟨b, 0, rfl⟩, Nat.le_refl _, by unfold maxLen; omega⟩
def putOk (l : List (Int × Int)) (x y : Int) : Bool := goodL l && (goodB x y && (!decide (l.length = 60) && !hasB l x y))
def putA (l : List (Int × Int)) (x y : Int) : List (Int × Int) := if putOk l x y then putR l x y else []
theorem putA_len (l : List (Int × Int)) (x y : Int) (h : l.length ≤ 1048576) : (putA l x y).length ≤ 1048576 := by
  unfold putA
  split
  · rename_i e
    rw [putOk, Bool.and_eq_true] at e
    have h60 := goodL_few e.1
    have hp := plc_le l x y
    rw [putR, List.length_append, List.length_take, List.length_cons, List.length_drop]
    omega
  · exact Nat.zero_le _
end Go.Proofs.YtegmlemejmahiaaDoor
