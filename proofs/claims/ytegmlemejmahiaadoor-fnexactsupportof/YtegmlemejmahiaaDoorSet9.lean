/-
  What MoveSet answers in the program (a contract for the walks).
  Conditions: as each theorem states them.
-/
import Derived.Test.YtegmlemejmahiaaDoorSet8
namespace Go.Proofs.YtegmlemejmahiaaDoor
open Go.RowKit
set_option linter.unusedVariables false
theorem goodImpl_e (x y : Int) (w : World) (c0 : w.cell? ⟨0, 0, none⟩ = some (.int .i64 1000000)) : Calls Tryd.prog 39 #[.agg #[.int .i64 x, .int .i64 y]] w fun e w' => e = .returned (.bool (goodB x y)) ∧ Below w.heap.size w w' := by
  refine (goodImpl_c x y w c0).mono ?_
  rintro e w' ⟨he, rfl⟩
  exact ⟨he, by go_grown⟩
theorem Cop.step2 {l : List (Int × Int)} {k : Nat} {w wr u : World} {x y : Int} (h : Cop l k w wr) (hb : Below wr.heap.size wr u) (hk : k < l.length) (hx : px l k = x) (hy : py l k = y) :
    Cop l (k + 1) w ((u.setCell ⟨w.heap.size, k * 2, none⟩ (.int .i64 x)).setCell ⟨w.heap.size, k * 2 + 1, none⟩ (.int .i64 y)) := by
  subst hx hy
  exact h.step hb hk
end Go.Proofs.YtegmlemejmahiaaDoor
