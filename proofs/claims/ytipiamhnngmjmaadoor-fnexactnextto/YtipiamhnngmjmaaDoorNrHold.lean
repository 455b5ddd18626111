/-
  What a region that is drawn leaves of a law's own boxes (plain facts for the walks).
  Conditions: as each theorem states them.
-/
import Derived.Test.YtipiamhnngmjmaaDoorNr4
import Derived.Deep.RegionHeld3
namespace Go.Proofs.YtipiamhnngmjmaaDoor
open Go.RowKit Go.Shelf
set_option linter.unusedVariables false
theorem held_lt {w u : World} {v : Value} {P : Prop} (h : u.cell? ⟨w.heap.size, 0, none⟩ = some v ∧ P) : w.heap.size < u.heap.size := World.block_lt_of_cell? _ _ h.1
theorem far2 {u : World} {A B i : Nat} {v : Value} (h : u.cell? ⟨A, i, none⟩ = some v) (hne : A < B) (p q : Value) : ((u.setCell ⟨B, 0, none⟩ p).setCell ⟨B, 1, none⟩ q).cell? ⟨A, i, none⟩ = some v := by
  rw [World.cell?_setCell_far _ _ _ _ (by show B ≠ A; omega), World.cell?_setCell_far _ _ _ _ (by show B ≠ A; omega)]
  exact h
theorem keepSt {w u : World} {B : Nat} {x y : Value} (h : u.cell? ⟨w.heap.size, 0, none⟩ = some x ∧ u.cell? ⟨w.heap.size, 1, none⟩ = some y ∧ Below w.heap.size w u) (hlt : w.heap.size < B) (p q : Value) :
    ((u.setCell ⟨B, 0, none⟩ p).setCell ⟨B, 1, none⟩ q).cell? ⟨w.heap.size, 0, none⟩ = some x ∧ ((u.setCell ⟨B, 0, none⟩ p).setCell ⟨B, 1, none⟩ q).cell? ⟨w.heap.size, 1, none⟩ = some y ∧ Below w.heap.size w ((u.setCell ⟨B, 0, none⟩ p).setCell ⟨B, 1, none⟩ q) :=
  ⟨far2 h.1 hlt p q, far2 h.2.1 hlt p q, (h.2.2.setCell (p := ⟨B, 0, none⟩) (by show w.heap.size ≤ B; omega) p).setCell (p := ⟨B, 1, none⟩) (by show w.heap.size ≤ B; omega) q⟩
end Go.Proofs.YtipiamhnngmjmaaDoor
