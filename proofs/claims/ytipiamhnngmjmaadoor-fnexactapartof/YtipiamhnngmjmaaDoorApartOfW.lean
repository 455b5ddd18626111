/-
  The walk of a law (see the text that imports this one).
  Conditions: as the theorem states them.
-/
import Derived.Test.YtipiamhnngmjmaaDoorNr1
namespace Go.Proofs.YtipiamhnngmjmaaDoor.fnExactApartOf
open Go.RowKit
set_option linter.unusedVariables false
set_option maxRecDepth 8000
theorem keepN {w W W' : World} {a0 a1 a2 a3 : Addr} {v0 v1 v2 v3 : Value} {n : Nat} (hb : Below W.heap.size W W') (h : W.cell? a0 = some v0 ∧ W.cell? a1 = some v1 ∧ W.cell? a2 = some v2 ∧ W.cell? a3 = some v3 ∧ n ≤ W.heap.size ∧ Below w.heap.size w W) :
    W'.cell? a0 = some v0 ∧ W'.cell? a1 = some v1 ∧ W'.cell? a2 = some v2 ∧ W'.cell? a3 = some v3 ∧ n ≤ W'.heap.size ∧ Below w.heap.size w W' :=
  ⟨cell_later hb h.1, cell_later hb h.2.1, cell_later hb h.2.2.1, cell_later hb h.2.2.2.1, Nat.le_trans h.2.2.2.2.1 hb.size, h.2.2.2.2.2.trans (hb.mono h.2.2.2.2.2.size)⟩
theorem finN {w W : World} {a0 a1 a2 a3 : Addr} {v0 v1 v2 v3 : Value} {n : Nat} (h : W.cell? a0 = some v0 ∧ W.cell? a1 = some v1 ∧ W.cell? a2 = some v2 ∧ W.cell? a3 = some v3 ∧ n ≤ W.heap.size ∧ Below w.heap.size w W) : Below w.heap.size w W := h.2.2.2.2.2
set_option maxHeartbeats 4000000 in
theorem walk (x0 y0 x1 y1 : Int) (w : World) (c0 : w.cell? ⟨0, 0, none⟩ = some (.int .i64 1000000)) (c1 : w.cell? ⟨0, 1, none⟩ = some (.int .i64 1099511627776)) (c2 : w.cell? ⟨0, 2, none⟩ = some (.int .i64 4398046511104)) (c3 : w.cell? ⟨0, 3, none⟩ = some (.int .i64 40)) :
    Calls Tryd.prog 3 #[.agg #[.int .i64 x0, .int .i64 y0], .agg #[.int .i64 x1, .int .i64 y1]] w fun e w' => e = .returned (.bool true) ∧ Below w.heap.size w w' := by
  clear c1 c2 c3
  have C0 := hid c0
  clear c0
  go_enter Tryd.func3, Tryd.ntmps3
  go_wp2_with fail
  go_region_held3 (fun w' => w'.cell? ⟨w.heap.size, 0, none⟩ = some (.int .i64 x0) ∧ w'.cell? ⟨w.heap.size, 1, none⟩ = some (.int .i64 y0) ∧ w'.cell? ⟨w.heap.size + 1, 0, none⟩ = some (.int .i64 x1) ∧ w'.cell? ⟨w.heap.size + 1, 1, none⟩ = some (.int .i64 y1) ∧ w.heap.size + 2 ≤ w'.heap.size ∧ Below w.heap.size w w') ((first | exact keepN (by assumption) (by assumption) | exact ⟨by go_simp, by go_simp, by go_simp, by go_simp, by go_size, by go_grown⟩))
    (first | (go_at_call 13; refine (toPoint_c _ _ _).mono ?_; rintro e w' ⟨rfl, hb⟩) | (go_at_call 12; refine (apartOfSpec_c _ _ _ _ _).mono ?_; rintro e w' ⟨rfl, hb⟩))
  go_wp2_with fail
  go_region_held3 (fun w' => w'.cell? ⟨w.heap.size, 0, none⟩ = some (.int .i64 x0) ∧ w'.cell? ⟨w.heap.size, 1, none⟩ = some (.int .i64 y0) ∧ w'.cell? ⟨w.heap.size + 1, 0, none⟩ = some (.int .i64 x1) ∧ w'.cell? ⟨w.heap.size + 1, 1, none⟩ = some (.int .i64 y1) ∧ w.heap.size + 2 ≤ w'.heap.size ∧ Below w.heap.size w w') ((first | exact keepN (by assumption) (by assumption) | exact keepN (Below.refl _ _).drew (by assumption)))
    (first | (go_at_call 13; refine (toPoint_c _ _ _).mono ?_; rintro e w' ⟨rfl, hb⟩) | (go_at_call 14; refine (apartOfImpl_c _ _ _ _ _ ?_).mono ?_; exact cell_later (finN (by assumption)) C0.out; rintro e w' ⟨rfl, hb⟩))
  go_wp2
  go_ret
  exact ⟨rfl, finN (by assumption)⟩
end Go.Proofs.YtipiamhnngmjmaaDoor.fnExactApartOf
