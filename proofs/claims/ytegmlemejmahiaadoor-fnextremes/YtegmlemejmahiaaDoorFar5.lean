/-
  What is farthest in a direction, and to a side: the program's searches (contracts for the walks).
  Conditions: as each theorem states them.
-/
import Derived.Test.YtegmlemejmahiaaDoorFarMath
import Derived.Test.YtegmlemejmahiaaDoorHNext
import Derived.Laws.EntriesVeiled
namespace Go.Proofs.YtegmlemejmahiaaDoor
open Go.RowKit Go.Shelf
set_option linter.unusedVariables false
set_option maxRecDepth 8000
set_option maxHeartbeats 2000000 in
theorem dotSign_c (dx dy ax ay bx b_y : Int) (w : World) (c0 : w.cell? ⟨0, 0, none⟩ = some (.int .i64 1000000)) : Calls Tryd.prog 69 #[.agg #[.int .i64 dx, .int .i64 dy], .agg #[.int .i64 ax, .int .i64 ay], .agg #[.int .i64 bx, .int .i64 b_y]] w fun e w' => e = .returned (.tuple #[.int .i64 (dsN dx dy ax ay bx b_y), .bool (dsOk dx dy ax ay bx b_y)]) ∧ Below w.heap.size w w' := by
  have hz : 0 < w.heap.size := World.block_lt_of_cell? w _ c0
  cases hA : goodB dx dy
  · have e : dsN dx dy ax ay bx b_y = 0 := by simp [dsN, dsOk, hA]
    have e2 : dsOk dx dy ax ay bx b_y = false := by simp [dsOk, hA]
    go_enter Tryd.func69, Tryd.ntmps69
    go_wp2_with (first | (go_at_call 39; refine (goodImpl_c _ _ _ ?_).mono ?_; exact cell_later (by go_grown : Below w.heap.size w _) c0; rintro e w' ⟨rfl, rfl⟩) | (go_at_call 96; refine (signImpl_c _ _).mono ?_; rintro e w' ⟨rfl, rfl⟩))
    go_ret2
    exact ⟨by first | rfl | exact ret_ib e.symm e2.symm, by go_grown⟩
  · cases hB : goodB ax ay
    · have e : dsN dx dy ax ay bx b_y = 0 := by simp [dsN, dsOk, hA, hB]
      have e2 : dsOk dx dy ax ay bx b_y = false := by simp [dsOk, hA, hB]
      go_enter Tryd.func69, Tryd.ntmps69
      go_wp2_with (first | (go_at_call 39; refine (goodImpl_c _ _ _ ?_).mono ?_; exact cell_later (by go_grown : Below w.heap.size w _) c0; rintro e w' ⟨rfl, rfl⟩) | (go_at_call 96; refine (signImpl_c _ _).mono ?_; rintro e w' ⟨rfl, rfl⟩))
      go_ret2
      exact ⟨by first | rfl | exact ret_ib e.symm e2.symm, by go_grown⟩
    · cases hC : goodB bx b_y
      · have e : dsN dx dy ax ay bx b_y = 0 := by simp [dsN, dsOk, hA, hB, hC]
        have e2 : dsOk dx dy ax ay bx b_y = false := by simp [dsOk, hA, hB, hC]
        go_enter Tryd.func69, Tryd.ntmps69
        go_wp2_with (first | (go_at_call 39; refine (goodImpl_c _ _ _ ?_).mono ?_; exact cell_later (by go_grown : Below w.heap.size w _) c0; rintro e w' ⟨rfl, rfl⟩) | (go_at_call 96; refine (signImpl_c _ _).mono ?_; rintro e w' ⟨rfl, rfl⟩))
        go_ret2
        exact ⟨by first | rfl | exact ret_ib e.symm e2.symm, by go_grown⟩
      · have e : dsN dx dy ax ay bx b_y = sg (dotW dx dy ax ay bx b_y) := by simp [dsN, dsOk, hA, hB, hC]
        have e2 : dsOk dx dy ax ay bx b_y = true := by simp [dsOk, hA, hB, hC]
        go_enter Tryd.func69, Tryd.ntmps69
        go_wp2_with (first | (go_at_call 39; refine (goodImpl_c _ _ _ ?_).mono ?_; exact cell_later (by go_grown : Below w.heap.size w _) c0; rintro e w' ⟨rfl, rfl⟩) | (go_at_call 96; refine (signImpl_c _ _).mono ?_; rintro e w' ⟨rfl, rfl⟩))
        go_ret2
        exact ⟨by first | rfl | exact ret_ib e.symm e2.symm, by go_grown⟩
set_option maxHeartbeats 2000000 in
theorem along1_c (x y bx b_y : Int) (Bd : Nat) (w : World) (dx dy : Int) (hd : BoxP w Bd (dx, dy)) (c0 : w.cell? ⟨0, 0, none⟩ = some (.int .i64 1000000)) : Calls Tryd.prog 68 #[.agg #[.int .i64 x, .int .i64 y], .agg #[.int .i64 bx, .int .i64 b_y], .pointer (some ⟨Bd, 0, none⟩)] w fun e w' => e = .returned (.bool (alB (dx, dy) (x, y) (bx, b_y))) ∧ Below w.heap.size w w' := by
  have C0 := hid c0
  have C4 := hid hd.c0
  have C5 := hid hd.c1
  clear c0 hd
  have s1 : ∀ v : Int, dsN dx dy bx b_y x y = v → alB (dx, dy) (x, y) (bx, b_y) = ((v == 1) || ((v == 0) && lt2 (x, y) (bx, b_y))) := fun v hv => by unfold alB; rw [hv]
  cases hL : lessB x y bx b_y
  all_goals (have hv : dsN dx dy bx b_y x y = 1 ∨ dsN dx dy bx b_y x y = 0 ∨ dsN dx dy bx b_y x y = -1 := by unfold dsN sg; split <;> (try split) <;> (try split) <;> simp)
  all_goals rcases hv with hv | hv | hv
  all_goals have HE := hid (s1 _ hv)
  all_goals clear s1
  all_goals unfold lt2 at HE
  all_goals rw [hL] at HE
  all_goals go_enter Tryd.func68, Tryd.ntmps68
  all_goals go_upto_region 1 with fail
  all_goals
    have K0 := BoxP.later (BoxP.new w x y) ((Below.refl _ _).alloc (Nat.le_refl _) (.cells #[.int .i64 bx, .int .i64 b_y] 26))
    have K1 := BoxP.new (w.alloc (.cells #[.int .i64 x, .int .i64 y] 26)) bx b_y
    simp only [World.size_alloc] at K1
    have hbw : Below w.heap.size w ((w.alloc (.cells #[.int .i64 x, .int .i64 y] 26)).alloc (.cells #[.int .i64 bx, .int .i64 b_y] 26)) := by go_grown
    have k4 := cell_later hbw C4.out
    have k5 := cell_later hbw C5.out
    generalize (w.alloc (.cells #[.int .i64 x, .int .i64 y] 26)).alloc (.cells #[.int .i64 bx, .int .i64 b_y] 26) = w0 at K0 K1 hbw k4 k5 ⊢
    have k0 := K0.c0
    have k1 := K0.c1
    have k2 := K1.c0
    have k3 := K1.c1
    clear K0 K1
  all_goals go_wp2_with (first
      | (go_at_call 69; refine (dotSign_c _ _ _ _ _ _ _ (cell_later hbw C0.out)).mono ?_; rw [hv]; rintro e w1 ⟨rfl, hb⟩; replace hbw := grew hbw hb; replace k0 := cell_later hb k0; replace k1 := cell_later hb k1; replace k2 := cell_later hb k2; replace k3 := cell_later hb k3; replace k4 := cell_later hb k4; replace k5 := cell_later hb k5; clear hb)
      | (go_at_call 70; refine (lessImpl_c _ _ _ _ _).mono ?_; rw [hL]; rintro e w1 ⟨rfl, hb⟩; replace hbw := grew hbw hb; replace k0 := cell_later hb k0; replace k1 := cell_later hb k1; replace k2 := cell_later hb k2; replace k3 := cell_later hb k3; replace k4 := cell_later hb k4; replace k5 := cell_later hb k5; clear hb))
  all_goals go_ret
  all_goals exact ⟨ret_bool (by rw [HE.out]; first | done | rfl | simp), hbw⟩
set_option maxHeartbeats 2000000 in
theorem toSide1_c (x y bx b_y : Int) (Bd Bs : Nat) (w : World) (dx dy s : Int) (hs : s = 1 ∨ s = -1) (hd : BoxP w Bd (dx, dy)) (hc : w.cell? ⟨Bs, 0, none⟩ = some (.int .i64 s)) (c0 : w.cell? ⟨0, 0, none⟩ = some (.int .i64 1000000)) : Calls Tryd.prog 74 #[.agg #[.int .i64 x, .int .i64 y], .agg #[.int .i64 bx, .int .i64 b_y], .pointer (some ⟨Bd, 0, none⟩), .pointer (some ⟨Bs, 0, none⟩)] w fun e w' => e = .returned (.bool (tsB (dx, dy) s (x, y) (bx, b_y))) ∧ Below w.heap.size w w' := by
  have C0 := hid c0
  have C4 := hid hd.c0
  have C5 := hid hd.c1
  have C6 := hid hc
  clear c0 hd hc
  have s1 : ∀ v : Int, sideN dx dy bx b_y x y = v → tsB (dx, dy) s (x, y) (bx, b_y) = ((v == s) || byB (dx, dy) (x, y) (bx, b_y)) := fun v hv => by unfold tsB; rw [hv]
  cases hL : byB (dx, dy) (x, y) (bx, b_y)
  all_goals (have hv : sideN dx dy bx b_y x y = 1 ∨ sideN dx dy bx b_y x y = 0 ∨ sideN dx dy bx b_y x y = -1 := by unfold sideN sg; split <;> (try split) <;> (try split) <;> simp)
  all_goals rcases hs with rfl | rfl
  all_goals rcases hv with hv | hv | hv
  all_goals have HE := hid (s1 _ hv)
  all_goals clear s1
  all_goals rw [hL] at HE
  all_goals go_enter Tryd.func74, Tryd.ntmps74
  all_goals go_upto_region 1 with fail
  all_goals
    have K0 := BoxP.later (BoxP.new w x y) ((Below.refl _ _).alloc (Nat.le_refl _) (.cells #[.int .i64 bx, .int .i64 b_y] 26))
    have K1 := BoxP.new (w.alloc (.cells #[.int .i64 x, .int .i64 y] 26)) bx b_y
    simp only [World.size_alloc] at K1
    have hbw : Below w.heap.size w ((w.alloc (.cells #[.int .i64 x, .int .i64 y] 26)).alloc (.cells #[.int .i64 bx, .int .i64 b_y] 26)) := by go_grown
    have k4 := cell_later hbw C4.out
    have k5 := cell_later hbw C5.out
    generalize (w.alloc (.cells #[.int .i64 x, .int .i64 y] 26)).alloc (.cells #[.int .i64 bx, .int .i64 b_y] 26) = w0 at K0 K1 hbw k4 k5 ⊢
    have k0 := K0.c0
    have k1 := K0.c1
    have k2 := K1.c0
    have k3 := K1.c1
    clear K0 K1
    have k6 := cell_later hbw C6.out
  all_goals go_wp2_with (first
      | (go_at_call 75; refine (sideOfImpl_c _ _ _ _ _ _ _ (cell_later hbw C0.out)).mono ?_; rw [hv]; rintro e w1 ⟨rfl, hb⟩; replace k6 := cell_later hb k6; replace hbw := grew hbw hb; replace k0 := cell_later hb k0; replace k1 := cell_later hb k1; replace k2 := cell_later hb k2; replace k3 := cell_later hb k3; replace k4 := cell_later hb k4; replace k5 := cell_later hb k5; clear hb)
      | (go_at_call 76; refine (isBeyond_c _ _ _ _ _ _ _ (cell_later hbw C0.out)).mono ?_; rw [hL]; rintro e w1 ⟨rfl, hb⟩; replace k6 := cell_later hb k6; replace hbw := grew hbw hb; replace k0 := cell_later hb k0; replace k1 := cell_later hb k1; replace k2 := cell_later hb k2; replace k3 := cell_later hb k3; replace k4 := cell_later hb k4; replace k5 := cell_later hb k5; clear hb))
  all_goals go_ret
  all_goals exact ⟨ret_bool (by rw [HE.out]; first | done | rfl | simp), hbw⟩
end Go.Proofs.YtegmlemejmahiaaDoor
