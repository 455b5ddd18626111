/-
  Going round a set, in the program: which point is next (contracts for the walks).
  Conditions: as each theorem states them.
-/
import Derived.Test.YtipiamhnngmjmaaDoorHWrapP
namespace Go.Proofs.YtipiamhnngmjmaaDoor
open Go.RowKit Go.Shelf
set_option linter.unusedVariables false
set_option maxRecDepth 8000
/-- A box that holds a point. -/
def BoxP (W : World) (B : Nat) (p : Int × Int) : Prop := W.heap[B]? = some (.cells #[.int .i64 p.1, .int .i64 p.2] 26 (0, 0))
theorem BoxP.c0 {W : World} {B : Nat} {p : Int × Int} (h : BoxP W B p) : W.cell? ⟨B, 0, none⟩ = some (.int .i64 p.1) := by simp [World.cell?, show W.heap[B]? = _ from h]
theorem BoxP.c1 {W : World} {B : Nat} {p : Int × Int} (h : BoxP W B p) : W.cell? ⟨B, 1, none⟩ = some (.int .i64 p.2) := by simp [World.cell?, show W.heap[B]? = _ from h]
theorem BoxP.f {W : World} {B : Nat} {p : Int × Int} (h : BoxP W B p) (i : Nat) : W.frozen? ⟨B, i, none⟩ = false := by simp [World.frozen?, show W.heap[B]? = _ from h]
theorem BoxP.lt {W : World} {B : Nat} {p : Int × Int} (h : BoxP W B p) : B < W.heap.size := (Array.getElem?_eq_some_iff.1 h).1
theorem BoxP.later {W W' : World} {B : Nat} {p : Int × Int} (h : BoxP W B p) (hb : Below W.heap.size W W') : BoxP W' B p := (hb.block B h.lt).trans h
theorem BoxP.new (W : World) (x y : Int) : BoxP (W.alloc (.cells #[.int .i64 x, .int .i64 y] 26)) W.heap.size (x, y) := World.alloc_heap_new W _
theorem BoxP.other {W : World} {B B' i : Nat} {p : Int × Int} (h : BoxP W B p) (hne : B ≠ B') (v : Value) : BoxP (W.setCell ⟨B', i, none⟩ v) B p := (Below.heap_setCell W _ v B hne).trans h
theorem BoxP.set {W : World} {B : Nat} {p : Int × Int} (h : BoxP W B p) (x y : Int) : BoxP ((W.setCell ⟨B, 0, none⟩ (.int .i64 x)).setCell ⟨B, 1, none⟩ (.int .i64 y)) B (x, y) := by
  obtain ⟨hlt, hk⟩ := Array.getElem?_eq_some_iff.1 h
  have h1 : (W.setCell ⟨B, 0, none⟩ (.int .i64 x)).heap[B]? = some (.cells #[.int .i64 x, .int .i64 p.2] 26 (0, 0)) := by
    show (W.heap.modify B _)[B]? = _
    rw [Array.getElem?_eq_getElem (by rw [Array.size_modify]; exact hlt), Array.getElem_modify_self, hk]
    rfl
  obtain ⟨hlt2, hk2⟩ := Array.getElem?_eq_some_iff.1 h1
  show ((W.setCell ⟨B, 0, none⟩ (.int .i64 x)).heap.modify B _)[B]? = _
  rw [Array.getElem?_eq_getElem (by rw [Array.size_modify]; exact hlt2), Array.getElem_modify_self, hk2]
  rfl
end Go.Proofs.YtipiamhnngmjmaaDoor
