/-
  StepsOn: the program's and the specification's (contracts for the walks).
  Conditions: as each theorem states them.
-/
import Derived.Test.YtohcllojjmhbcaaDoorAr8T
namespace Go.Proofs.YtohcllojjmhbcaaDoor
open Go.RowKit Go.Shelf
set_option linter.unusedVariables false
set_option maxRecDepth 8000
set_option maxHeartbeats 2000000 in
theorem stepsOnSpec_c (ax ay bx b_y : Int) (w : World) :
    Calls Tryd.prog 25 #[.agg #[.int .i64 ax, .int .i64 ay], .agg #[.int .i64 bx, .int .i64 b_y]] w fun e w' => e = .returned (.tuple #[.int .i64 (spV (ax, ay) (bx, b_y)), .bool (goodB ax ay && goodB bx b_y)]) ∧ Below w.heap.size w w' := by
  have hbw : Below w.heap.size w ((w.alloc (.cells #[.int .i64 ax, .int .i64 ay] 26)).alloc (.cells #[.int .i64 bx, .int .i64 b_y] 26)) := by go_grown
  have k0 : ((w.alloc (.cells #[.int .i64 ax, .int .i64 ay] 26)).alloc (.cells #[.int .i64 bx, .int .i64 b_y] 26)).cell? ⟨w.heap.size, 0, none⟩ = some (.int .i64 ax) := by simp [go_sem]
  have k1 : ((w.alloc (.cells #[.int .i64 ax, .int .i64 ay] 26)).alloc (.cells #[.int .i64 bx, .int .i64 b_y] 26)).cell? ⟨w.heap.size, 1, none⟩ = some (.int .i64 ay) := by simp [go_sem]
  have k2 : ((w.alloc (.cells #[.int .i64 ax, .int .i64 ay] 26)).alloc (.cells #[.int .i64 bx, .int .i64 b_y] 26)).cell? ⟨w.heap.size + 1, 0, none⟩ = some (.int .i64 bx) := by simp [go_sem]
  have k3 : ((w.alloc (.cells #[.int .i64 ax, .int .i64 ay] 26)).alloc (.cells #[.int .i64 bx, .int .i64 b_y] 26)).cell? ⟨w.heap.size + 1, 1, none⟩ = some (.int .i64 b_y) := by simp [go_sem]
  skip
  skip
  cases hA : goodB ax ay
  · have HE := hid (show spV (ax, ay) (bx, b_y) = 0 by unfold spV; rw [hA]; rfl)
    go_enter Tryd.func25, Tryd.ntmps25
    go_upto_region 1 with fail
    generalize ((w.alloc (.cells #[.int .i64 ax, .int .i64 ay] 26)).alloc (.cells #[.int .i64 bx, .int .i64 b_y] 26)) = wb at *
    go_wp2_with (go_at_call 60; refine (goodSpec_e _ _ _).mono ?_; rw [hA]; rintro e w1 ⟨rfl, hb⟩; replace hbw := grew hbw hb; replace k0 := cell_later hb k0; replace k1 := cell_later hb k1; replace k2 := cell_later hb k2; replace k3 := cell_later hb k3; clear hb)
    go_ret2
    exact ⟨ret_ib HE.out.symm rfl, hbw⟩
  · cases hB : goodB bx b_y
    · have HE := hid (show spV (ax, ay) (bx, b_y) = 0 by unfold spV; rw [hA, hB]; rfl)
      go_enter Tryd.func25, Tryd.ntmps25
      go_upto_region 1 with fail
      generalize ((w.alloc (.cells #[.int .i64 ax, .int .i64 ay] 26)).alloc (.cells #[.int .i64 bx, .int .i64 b_y] 26)) = wb at *
      go_wp2_with (go_at_call 60; refine (goodSpec_e _ _ _).mono ?_; (first | rw [hA] | rw [hB]); rintro e w1 ⟨rfl, hb⟩; replace hbw := grew hbw hb; replace k0 := cell_later hb k0; replace k1 := cell_later hb k1; replace k2 := cell_later hb k2; replace k3 := cell_later hb k3; clear hb)
      go_ret2
      exact ⟨ret_ib HE.out.symm rfl, hbw⟩
    · have HE := hid (show spV (ax, ay) (bx, b_y) = stp (ax, ay) (bx, b_y) by unfold spV; rw [hA, hB]; rfl)
      have r1 := goodB_r hA
      have r2 := goodB_r hB
      have HD1 : -2000000 ≤ bx - ax ∧ bx - ax ≤ 2000000 := by omega
      have HD2 : -2000000 ≤ b_y - ay ∧ b_y - ay ≤ 2000000 := by omega
      clear r1 r2
      go_enter Tryd.func25, Tryd.ntmps25
      go_upto_region 1 with fail
      generalize ((w.alloc (.cells #[.int .i64 ax, .int .i64 ay] 26)).alloc (.cells #[.int .i64 bx, .int .i64 b_y] 26)) = wb at *
      go_wp2_with (first
        | (go_at_call 60; refine (goodSpec_e _ _ _).mono ?_; (first | rw [hA] | rw [hB]); rintro e w1 ⟨rfl, hb⟩; replace hbw := grew hbw hb; replace k0 := cell_later hb k0; replace k1 := cell_later hb k1; replace k2 := cell_later hb k2; replace k3 := cell_later hb k3; clear hb)
        | (go_at_call 61; refine (l8Steps_c _ _ _ _ _ HD1 HD2).mono ?_; rintro e w3 ⟨rfl, hb⟩; replace hbw := grew hbw hb; clear hb))
      go_ret2
      exact ⟨ret_ib HE.out.symm rfl, hbw⟩
set_option maxHeartbeats 2000000 in
theorem stepsOnImpl_c (ax ay bx b_y : Int) (w : World) (c0 : w.cell? ⟨0, 0, none⟩ = some (.int .i64 1000000)) :
    Calls Tryd.prog 24 #[.agg #[.int .i64 ax, .int .i64 ay], .agg #[.int .i64 bx, .int .i64 b_y]] w fun e w' => e = .returned (.tuple #[.int .i64 (spV (ax, ay) (bx, b_y)), .bool (goodB ax ay && goodB bx b_y)]) ∧ Below w.heap.size w w' := by
  have hbw : Below w.heap.size w ((w.alloc (.cells #[.int .i64 ax, .int .i64 ay] 26)).alloc (.cells #[.int .i64 bx, .int .i64 b_y] 26)) := by go_grown
  have k0 : ((w.alloc (.cells #[.int .i64 ax, .int .i64 ay] 26)).alloc (.cells #[.int .i64 bx, .int .i64 b_y] 26)).cell? ⟨w.heap.size, 0, none⟩ = some (.int .i64 ax) := by simp [go_sem]
  have k1 : ((w.alloc (.cells #[.int .i64 ax, .int .i64 ay] 26)).alloc (.cells #[.int .i64 bx, .int .i64 b_y] 26)).cell? ⟨w.heap.size, 1, none⟩ = some (.int .i64 ay) := by simp [go_sem]
  have k2 : ((w.alloc (.cells #[.int .i64 ax, .int .i64 ay] 26)).alloc (.cells #[.int .i64 bx, .int .i64 b_y] 26)).cell? ⟨w.heap.size + 1, 0, none⟩ = some (.int .i64 bx) := by simp [go_sem]
  have k3 : ((w.alloc (.cells #[.int .i64 ax, .int .i64 ay] 26)).alloc (.cells #[.int .i64 bx, .int .i64 b_y] 26)).cell? ⟨w.heap.size + 1, 1, none⟩ = some (.int .i64 b_y) := by simp [go_sem]
  have C0 := hid c0
  clear c0
  cases hA : goodB ax ay
  · have HE := hid (show spV (ax, ay) (bx, b_y) = 0 by unfold spV; rw [hA]; rfl)
    go_enter Tryd.func24, Tryd.ntmps24
    go_upto_region 1 with fail
    generalize ((w.alloc (.cells #[.int .i64 ax, .int .i64 ay] 26)).alloc (.cells #[.int .i64 bx, .int .i64 b_y] 26)) = wb at *
    go_wp2_with (go_at_call 41; refine (goodImpl_e _ _ _ (cell_later hbw C0.out)).mono ?_; rw [hA]; rintro e w1 ⟨rfl, hb⟩; replace hbw := grew hbw hb; replace k0 := cell_later hb k0; replace k1 := cell_later hb k1; replace k2 := cell_later hb k2; replace k3 := cell_later hb k3; clear hb)
    go_ret2
    exact ⟨ret_ib HE.out.symm rfl, hbw⟩
  · cases hB : goodB bx b_y
    · have HE := hid (show spV (ax, ay) (bx, b_y) = 0 by unfold spV; rw [hA, hB]; rfl)
      go_enter Tryd.func24, Tryd.ntmps24
      go_upto_region 1 with fail
      generalize ((w.alloc (.cells #[.int .i64 ax, .int .i64 ay] 26)).alloc (.cells #[.int .i64 bx, .int .i64 b_y] 26)) = wb at *
      go_wp2_with (go_at_call 41; refine (goodImpl_e _ _ _ (cell_later hbw C0.out)).mono ?_; (first | rw [hA] | rw [hB]); rintro e w1 ⟨rfl, hb⟩; replace hbw := grew hbw hb; replace k0 := cell_later hb k0; replace k1 := cell_later hb k1; replace k2 := cell_later hb k2; replace k3 := cell_later hb k3; clear hb)
      go_ret2
      exact ⟨ret_ib HE.out.symm rfl, hbw⟩
    · have HE := hid (show spV (ax, ay) (bx, b_y) = stp (ax, ay) (bx, b_y) by unfold spV; rw [hA, hB]; rfl)
      have r1 := goodB_r hA
      have r2 := goodB_r hB
      have HD1 : -2000000 ≤ bx - ax ∧ bx - ax ≤ 2000000 := by omega
      have HD2 : -2000000 ≤ b_y - ay ∧ b_y - ay ≤ 2000000 := by omega
      clear r1 r2
      go_enter Tryd.func24, Tryd.ntmps24
      go_upto_region 1 with fail
      generalize ((w.alloc (.cells #[.int .i64 ax, .int .i64 ay] 26)).alloc (.cells #[.int .i64 bx, .int .i64 b_y] 26)) = wb at *
      go_wp2_with (first
        | (go_at_call 41; refine (goodImpl_e _ _ _ (cell_later hbw C0.out)).mono ?_; (first | rw [hA] | rw [hB]); rintro e w1 ⟨rfl, hb⟩; replace hbw := grew hbw hb; replace k0 := cell_later hb k0; replace k1 := cell_later hb k1; replace k2 := cell_later hb k2; replace k3 := cell_later hb k3; clear hb)
        | (go_at_call 59; refine (l8StepsI_c _ _ _ _ _ HD1 HD2).mono ?_; rintro e w3 ⟨rfl, hb⟩; replace hbw := grew hbw hb; clear hb))
      go_ret2
      exact ⟨ret_ib HE.out.symm rfl, hbw⟩
end Go.Proofs.YtohcllojjmhbcaaDoor
