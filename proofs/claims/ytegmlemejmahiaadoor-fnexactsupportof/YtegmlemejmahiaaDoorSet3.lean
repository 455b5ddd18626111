/-
  What is a good set, in the program and in the specification (contracts for the walks).
  Conditions: as each theorem states them.
-/
import Derived.Test.YtegmlemejmahiaaDoorSet2
namespace Go.Proofs.YtegmlemejmahiaaDoor
open Go.RowKit
set_option linter.unusedVariables false
theorem keep2 {w W W' : World} {a0 a1 : Addr} {v0 v1 : Value} (hb : Below W.heap.size W W') (h : W.cell? a0 = some v0 ∧ W.cell? a1 = some v1 ∧ Below w.heap.size w W) :
    W'.cell? a0 = some v0 ∧ W'.cell? a1 = some v1 ∧ Below w.heap.size w W' := ⟨cell_later hb h.1, cell_later hb h.2.1, grew h.2.2 hb⟩
theorem fin2 {w W : World} {a0 a1 : Addr} {v0 v1 : Value} (h : W.cell? a0 = some v0 ∧ W.cell? a1 = some v1 ∧ Below w.heap.size w W) : Below w.heap.size w W := h.2.2
theorem goodSpec_e (x y : Int) (w : World) : Calls Tryd.prog 48 #[.agg #[.int .i64 x, .int .i64 y]] w fun e w' => e = .returned (.bool (goodB x y)) ∧ Below w.heap.size w w' := by
  refine (goodSpec_c x y w).mono ?_
  rintro e w' ⟨he, rfl⟩
  exact ⟨he, by go_grown⟩
theorem goodL_bad {l : List (Int × Int)} {k : Nat} (hk : k < l.length) (e : goodB (px l k) (py l k) = false) : goodL l = false := by
  simp [goodL, allGood_false hk e]
theorem goodL_fall {l : List (Int × Int)} {k : Nat} (hk : k + 1 < l.length) (e : lessB (px l k) (py l k) (px l (k + 1)) (py l (k + 1)) = false) : goodL l = false := by
  simp [goodL, rises_false hk e]
theorem goodL_len {l : List (Int × Int)} (h : GoodTo l l.length) (k : RisesTo l (l.length - 1)) : goodL l = decide (l.length ≤ 60) := by
  simp [goodL, (allGood_iff l).2 h, (rises_iff l).2 k]
end Go.Proofs.YtegmlemejmahiaaDoor
