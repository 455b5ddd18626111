/-
  Going round a set, in the program: which point is next (contracts for the walks).
  Conditions: as each theorem states them.
-/
import Derived.Test.YtibmgoaildhclaaDoorHWrapP
namespace Go.Proofs.YtibmgoaildhclaaDoor
open Go.RowKit Go.Shelf
set_option linter.unusedVariables false
set_option maxRecDepth 8000
/-- A box that holds a point. -/
def BoxP (W : World) (B : Nat) (p : Int × Int) : Prop := W.heap[B]? = some (.cells #[.int .i64 p.1, .int .i64 p.2] 44 (0, 0))
theorem BoxP.c0 {W : World} {B : Nat} {p : Int × Int} (h : BoxP W B p) : W.cell? ⟨B, 0, none⟩ = some (.int .i64 p.1) := by simp [World.cell?, show W.heap[B]? = _ from h]
theorem BoxP.c1 {W : World} {B : Nat} {p : Int × Int} (h : BoxP W B p) : W.cell? ⟨B, 1, none⟩ = some (.int .i64 p.2) := by simp [World.cell?, show W.heap[B]? = _ from h]
theorem BoxP.f {W : World} {B : Nat} {p : Int × Int} (h : BoxP W B p) (i : Nat) : W.frozen? ⟨B, i, none⟩ = false := by simp [World.frozen?, show W.heap[B]? = _ from h]
theorem BoxP.lt {W : World} {B : Nat} {p : Int × Int} (h : BoxP W B p) : B < W.heap.size := (Array.getElem?_eq_some_iff.1 h).1
theorem BoxP.later {W W' : World} {B : Nat} {p : Int × Int} (h : BoxP W B p) (hb : Below W.heap.size W W') : BoxP W' B p := (hb.block B h.lt).trans h
theorem BoxP.new (W : World) (x y : Int) : BoxP (W.alloc (.cells #[.int .i64 x, .int .i64 y] 44)) W.heap.size (x, y) := World.alloc_heap_new W _
theorem BoxP.other {W : World} {B B' i : Nat} {p : Int × Int} (h : BoxP W B p) (hne : B ≠ B') (v : Value) : BoxP (W.setCell ⟨B', i, none⟩ v) B p := (Below.heap_setCell W _ v B hne).trans h
theorem BoxP.set {W : World} {B : Nat} {p : Int × Int} (h : BoxP W B p) (x y : Int) : BoxP ((W.setCell ⟨B, 0, none⟩ (.int .i64 x)).setCell ⟨B, 1, none⟩ (.int .i64 y)) B (x, y) := by
  obtain ⟨hlt, hk⟩ := Array.getElem?_eq_some_iff.1 h
  have h1 : (W.setCell ⟨B, 0, none⟩ (.int .i64 x)).heap[B]? = some (.cells #[.int .i64 x, .int .i64 p.2] 44 (0, 0)) := by
    show (W.heap.modify B _)[B]? = _
    rw [Array.getElem?_eq_getElem (by rw [Array.size_modify]; exact hlt), Array.getElem_modify_self, hk]
    rfl
  obtain ⟨hlt2, hk2⟩ := Array.getElem?_eq_some_iff.1 h1
  show ((W.setCell ⟨B, 0, none⟩ (.int .i64 x)).heap.modify B _)[B]? = _
  rw [Array.getElem?_eq_getElem (by rw [Array.size_modify]; exact hlt2), Array.getElem_modify_self, hk2]
  rfl
set_option maxHeartbeats 2000000 in
theorem isBeyond_c (ax ay bx b_y x y : Int) (w : World) (c0 : w.cell? ⟨0, 0, none⟩ = some (.int .i64 1000000)) : Calls Tryd.prog 57 #[.agg #[.int .i64 ax, .int .i64 ay], .agg #[.int .i64 bx, .int .i64 b_y], .agg #[.int .i64 x, .int .i64 y]] w fun e w' => e = .returned (.bool (byB (ax, ay) (bx, b_y) (x, y))) ∧ Below w.heap.size w w' := by
  have hz : 0 < w.heap.size := World.block_lt_of_cell? w _ c0
  have C0 := hid c0
  clear c0
  by_cases h0 : sideN ax ay bx b_y x y = 0
  · cases h1 : lessB ax ay bx b_y
    all_goals cases h2 : lessB bx b_y x y
    all_goals cases h3 : lessB x y bx b_y
    all_goals cases h4 : lessB bx b_y ax ay
    all_goals have HE := hid (show byB (ax, ay) (bx, b_y) (x, y) = _ from by unfold byB lt2; rw [h0, h1, h2, h3, h4])
    all_goals go_enter Tryd.func57, Tryd.ntmps57
    all_goals go_upto_region 1 with fail
    all_goals have K0 := BoxP.later (BoxP.later (BoxP.new w ax ay) ((Below.refl _ _).alloc (Nat.le_refl _) (.cells #[.int .i64 bx, .int .i64 b_y] 44))) ((Below.refl _ _).alloc (Nat.le_refl _) (.cells #[.int .i64 x, .int .i64 y] 44))
    all_goals have K1 := BoxP.later (BoxP.new (w.alloc (.cells #[.int .i64 ax, .int .i64 ay] 44)) bx b_y) ((Below.refl _ _).alloc (Nat.le_refl _) (.cells #[.int .i64 x, .int .i64 y] 44))
    all_goals have K2 := BoxP.new ((w.alloc (.cells #[.int .i64 ax, .int .i64 ay] 44)).alloc (.cells #[.int .i64 bx, .int .i64 b_y] 44)) x y
    all_goals simp only [World.size_alloc] at K1 K2
    all_goals have hbw : Below w.heap.size w (((w.alloc (.cells #[.int .i64 ax, .int .i64 ay] 44)).alloc (.cells #[.int .i64 bx, .int .i64 b_y] 44)).alloc (.cells #[.int .i64 x, .int .i64 y] 44)) := by go_grown
    all_goals generalize ((w.alloc (.cells #[.int .i64 ax, .int .i64 ay] 44)).alloc (.cells #[.int .i64 bx, .int .i64 b_y] 44)).alloc (.cells #[.int .i64 x, .int .i64 y] 44) = w0 at K0 K1 K2 hbw ⊢
    all_goals have k0 := K0.c0
    all_goals have k1 := K0.c1
    all_goals have k2 := K1.c0
    all_goals have k3 := K1.c1
    all_goals have k4 := K2.c0
    all_goals have k5 := K2.c1
    all_goals clear K0 K1 K2
    all_goals go_wp2_with (first
      | (go_at_call 61; refine (sideOfImpl_c _ _ _ _ _ _ _ (cell_later hbw C0.out)).mono ?_; rw [h0]; rintro e w1 ⟨rfl, hb⟩; replace hbw := grew hbw hb; replace k0 := cell_later hb k0; replace k1 := cell_later hb k1; replace k2 := cell_later hb k2; replace k3 := cell_later hb k3; replace k4 := cell_later hb k4; replace k5 := cell_later hb k5; clear hb)
      | (go_at_call 45; refine (lessImpl_c _ _ _ _ _).mono ?_; rintro e w1 ⟨rfl, hb⟩; replace hbw := grew hbw hb; replace k0 := cell_later hb k0; replace k1 := cell_later hb k1; replace k2 := cell_later hb k2; replace k3 := cell_later hb k3; replace k4 := cell_later hb k4; replace k5 := cell_later hb k5; clear hb))
    all_goals go_ret
    all_goals exact ⟨ret_bool (by rw [HE.out]; first | done | rfl | simp), hbw⟩
  · have hs : (sideN ax ay bx b_y x y == 0) = false := by simpa using h0
    have HE := hid (show byB (ax, ay) (bx, b_y) (x, y) = false from by unfold byB; rw [hs]; rfl)
    have hs2 : (sideN ax ay bx b_y x y != 0) = true := by simpa using h0
    go_enter Tryd.func57, Tryd.ntmps57
    go_wp2_with (go_at_call 61; refine (sideOfImpl_c _ _ _ _ _ _ _ ?_).mono ?_; exact cell_later (by go_grown : Below w.heap.size w _) C0.out; rintro e w1 ⟨rfl, hb⟩)
    go_ret
    exact ⟨ret_bool (by rw [HE.out]), (by go_grown : Below w.heap.size w _).trans (hb.mono (by go_size))⟩
end Go.Proofs.YtibmgoaildhclaaDoor
