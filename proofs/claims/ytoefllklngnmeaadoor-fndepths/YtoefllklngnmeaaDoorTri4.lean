/-
  Where a point is of a triangle: the program's function and the specification's (contracts for the walks).
  Conditions: as each theorem states them.
-/
import Derived.Test.YtoefllklngnmeaaDoorSeg4
namespace Go.Proofs.YtoefllklngnmeaaDoor
open Go.RowKit Go.Shelf
set_option linter.unusedVariables false
set_option maxRecDepth 8000
theorem keep8 {w W W' : World} {a0 a1 a2 a3 a4 a5 a6 a7 : Addr} {v0 v1 v2 v3 v4 v5 v6 v7 : Value} (hb : Below W.heap.size W W') (h : W.cell? a0 = some v0 ∧ W.cell? a1 = some v1 ∧ W.cell? a2 = some v2 ∧ W.cell? a3 = some v3 ∧ W.cell? a4 = some v4 ∧ W.cell? a5 = some v5 ∧ W.cell? a6 = some v6 ∧ W.cell? a7 = some v7 ∧ Below w.heap.size w W) :
    W'.cell? a0 = some v0 ∧ W'.cell? a1 = some v1 ∧ W'.cell? a2 = some v2 ∧ W'.cell? a3 = some v3 ∧ W'.cell? a4 = some v4 ∧ W'.cell? a5 = some v5 ∧ W'.cell? a6 = some v6 ∧ W'.cell? a7 = some v7 ∧ Below w.heap.size w W' :=
  ⟨cell_later hb h.1, cell_later hb h.2.1, cell_later hb h.2.2.1, cell_later hb h.2.2.2.1, cell_later hb h.2.2.2.2.1, cell_later hb h.2.2.2.2.2.1, cell_later hb h.2.2.2.2.2.2.1, cell_later hb h.2.2.2.2.2.2.2.1, h.2.2.2.2.2.2.2.2.trans (hb.mono h.2.2.2.2.2.2.2.2.size)⟩
theorem fin8 {w W : World} {a0 a1 a2 a3 a4 a5 a6 a7 : Addr} {v0 v1 v2 v3 v4 v5 v6 v7 : Value} (h : W.cell? a0 = some v0 ∧ W.cell? a1 = some v1 ∧ W.cell? a2 = some v2 ∧ W.cell? a3 = some v3 ∧ W.cell? a4 = some v4 ∧ W.cell? a5 = some v5 ∧ W.cell? a6 = some v6 ∧ W.cell? a7 = some v7 ∧ Below w.heap.size w W) : Below w.heap.size w W := h.2.2.2.2.2.2.2.2
theorem at3 {w : World} {g : Nat} {ax ay bx b_y cx cy : Int} (c0 : w.cell? ⟨g, 0, none⟩ = some (.int .i64 ax)) (c1 : w.cell? ⟨g, 1, none⟩ = some (.int .i64 ay)) (c2 : w.cell? ⟨g, 2, none⟩ = some (.int .i64 bx)) (c3 : w.cell? ⟨g, 3, none⟩ = some (.int .i64 b_y)) (c4 : w.cell? ⟨g, 4, none⟩ = some (.int .i64 cx)) (c5 : w.cell? ⟨g, 5, none⟩ = some (.int .i64 cy)) : At w.heap.size (some ⟨g, 0, none⟩) [(ax, ay), (bx, b_y), (cx, cy)] w := fun i hi => by
  have hg := World.block_lt_of_cell? w _ c0
  match i, hi with
  | 0, _ => exact ⟨g, 0, rfl, hg, c0, c1⟩
  | 1, _ => exact ⟨g, 0, rfl, hg, c2, c3⟩
  | 2, _ => exact ⟨g, 0, rfl, hg, c4, c5⟩
theorem at3new (w : World) (ax ay bx b_y cx cy : Int) (t : TypeId) : At (w.alloc (.cells #[.int .i64 ax, .int .i64 ay, .int .i64 bx, .int .i64 b_y, .int .i64 cx, .int .i64 cy] t)).heap.size (some ⟨w.heap.size, 0, none⟩) [(ax, ay), (bx, b_y), (cx, cy)] (w.alloc (.cells #[.int .i64 ax, .int .i64 ay, .int .i64 bx, .int .i64 b_y, .int .i64 cx, .int .i64 cy] t)) :=
  at3 (by simp [go_sem]) (by simp [go_sem]) (by simp [go_sem]) (by simp [go_sem]) (by simp [go_sem]) (by simp [go_sem])
def triOk (ax ay bx b_y cx cy qx qy : Int) : Bool := tlB (ax, ay) (bx, b_y) (cx, cy) && goodB qx qy
def triV (ax ay bx b_y cx cy qx qy : Int) : Int := if triOk ax ay bx b_y cx cy qx qy = true then whS [(ax, ay), (bx, b_y), (cx, cy)] (qx, qy) else 0
theorem tl_good {ax ay bx b_y cx cy : Int} (h : tlB (ax, ay) (bx, b_y) (cx, cy) = true) : allG [(ax, ay), (bx, b_y), (cx, cy)] := by
  have hk : sideOk ax ay bx b_y cx cy = true := by
    cases e : sideOk ax ay bx b_y cx cy
    · exfalso
      unfold tlB sideN at h
      simp [e] at h
    · rfl
  unfold sideOk at hk
  rw [Bool.and_eq_true, Bool.and_eq_true] at hk
  intro p hp
  simp only [List.mem_cons, List.not_mem_nil, or_false] at hp
  rcases hp with rfl | rfl | rfl
  · exact hk.1.1
  · exact hk.1.2
  · exact hk.2
theorem tl_bad {ax ay bx b_y cx cy : Int} (h : sideOk ax ay bx b_y cx cy = false) : tlB (ax, ay) (bx, b_y) (cx, cy) = false := by
  unfold tlB sideN
  simp [h]
end Go.Proofs.YtoefllklngnmeaaDoor
