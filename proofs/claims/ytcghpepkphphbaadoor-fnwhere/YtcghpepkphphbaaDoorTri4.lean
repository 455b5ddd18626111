/-
  Where a point is of a triangle: the program's function and the specification's (contracts for the walks).
  Conditions: as each theorem states them.
-/
import Derived.Test.YtcghpepkphphbaaDoorSeg4
namespace Go.Proofs.YtcghpepkphphbaaDoor
open Go.RowKit Go.Shelf
set_option linter.unusedVariables false
theorem keep8 {w W W' : World} {a0 a1 a2 a3 a4 a5 a6 a7 : Addr} {v0 v1 v2 v3 v4 v5 v6 v7 : Value} (hb : Below W.heap.size W W') (h : W.cell? a0 = some v0 ∧ W.cell? a1 = some v1 ∧ W.cell? a2 = some v2 ∧ W.cell? a3 = some v3 ∧ W.cell? a4 = some v4 ∧ W.cell? a5 = some v5 ∧ W.cell? a6 = some v6 ∧ W.cell? a7 = some v7 ∧ Below w.heap.size w W) :
    W'.cell? a0 = some v0 ∧ W'.cell? a1 = some v1 ∧ W'.cell? a2 = some v2 ∧ W'.cell? a3 = some v3 ∧ W'.cell? a4 = some v4 ∧ W'.cell? a5 = some v5 ∧ W'.cell? a6 = some v6 ∧ W'.cell? a7 = some v7 ∧ Below w.heap.size w W' :=
  ⟨cell_later hb h.1, cell_later hb h.2.1, cell_later hb h.2.2.1, cell_later hb h.2.2.2.1, cell_later hb h.2.2.2.2.1, cell_later hb h.2.2.2.2.2.1, cell_later hb h.2.2.2.2.2.2.1, cell_later hb h.2.2.2.2.2.2.2.1, h.2.2.2.2.2.2.2.2.trans (hb.mono h.2.2.2.2.2.2.2.2.size)⟩
theorem fin8 {w W : World} {a0 a1 a2 a3 a4 a5 a6 a7 : Addr} {v0 v1 v2 v3 v4 v5 v6 v7 : Value} (h : W.cell? a0 = some v0 ∧ W.cell? a1 = some v1 ∧ W.cell? a2 = some v2 ∧ W.cell? a3 = some v3 ∧ W.cell? a4 = some v4 ∧ W.cell? a5 = some v5 ∧ W.cell? a6 = some v6 ∧ W.cell? a7 = some v7 ∧ Below w.heap.size w W) : Below w.heap.size w W := h.2.2.2.2.2.2.2.2
theorem at3 {w : World} {g : Nat} {ax ay bx b_y cx cy : Int} (c0 : w.cell? ⟨g, 0, none⟩ = some (.int .i64 ax)) (c1 : w.cell? ⟨g, 1, none⟩ = some (.int .i64 ay)) (c2 : w.cell? ⟨g, 2, none⟩ = some (.int .i64 bx)) (c3 : w.cell? ⟨g, 3, none⟩ = some (.int .i64 b_y)) (c4 : w.cell? ⟨g, 4, none⟩ = some (.int .i64 cx)) (c5 : w.cell? ⟨g, 5, none⟩ = some (.int .i64 cy)) : At w.heap.size (some ⟨g, 0, none⟩) [(ax, ay), (bx, b_y), (cx, cy)] w := fun i hi => by
  have hg := World.block_lt_of_cell? w _ c0
  match i, hi with
  | 0, _ => exact ⟨g, 0, rfl, hg, c0, c1⟩
  | 1, _ => exact ⟨g, 0, rfl, hg, c2, c3⟩
  | 2, _ => exact ⟨g, 0, rfl, hg, c4, c5⟩
theorem at3new (w : World) (ax ay bx b_y cx cy : Int) (t : TypeId) : At (w.alloc (.cells #[.int .i64 ax, .int .i64 ay, .int .i64 bx, .int .i64 b_y, .int .i64 cx, .int .i64 cy] t)).heap.size (some ⟨w.heap.size, 0, none⟩) [(ax, ay), (bx, b_y), (cx, cy)] (w.alloc (.cells #[.int .i64 ax, .int .i64 ay, .int .i64 bx, .int .i64 b_y, .int .i64 cx, .int .i64 cy] t)) :=
  at3 (by simp [go_sem]) (by simp [go_sem]) (by simp [go_sem]) (by simp [go_sem]) (by simp [go_sem]) (by simp [go_sem])
def triOk (ax ay bx b_y cx cy qx qy : Int) : Bool := tlB (ax, ay) (bx, b_y) (cx, cy) && goodB qx qy
def triV (ax ay bx b_y cx cy qx qy : Int) : Int := if triOk ax ay bx b_y cx cy qx qy = true then whS [(ax, ay), (bx, b_y), (cx, cy)] (qx, qy) else 0
theorem tl_good {ax ay bx b_y cx cy : Int} (h : tlB (ax, ay) (bx, b_y) (cx, cy) = true) : allG [(ax, ay), (bx, b_y), (cx, cy)] := by
  have hk : sideOk ax ay bx b_y cx cy = true := by
    cases e : sideOk ax ay bx b_y cx cy
    · exfalso
      unfold tlB sideN at h
      simp [e] at h
    · rfl
  unfold sideOk at hk
  rw [Bool.and_eq_true, Bool.and_eq_true] at hk
  intro p hp
  simp only [List.mem_cons, List.not_mem_nil, or_false] at hp
  rcases hp with rfl | rfl | rfl
  · exact hk.1.1
  · exact hk.1.2
  · exact hk.2
theorem tl_bad {ax ay bx b_y cx cy : Int} (h : sideOk ax ay bx b_y cx cy = false) : tlB (ax, ay) (bx, b_y) (cx, cy) = false := by
  unfold tlB sideN
  simp [h]
set_option maxHeartbeats 4000000 in
set_option maxRecDepth 8000 in
theorem triSpec_c (ax ay bx b_y cx cy qx qy : Int) (w : World) :
    Calls Tryd.prog 14 #[.agg #[.int .i64 ax, .int .i64 ay], .agg #[.int .i64 bx, .int .i64 b_y], .agg #[.int .i64 cx, .int .i64 cy], .agg #[.int .i64 qx, .int .i64 qy]] w fun e w' => e = .returned (.tuple #[.int .i64 (triV ax ay bx b_y cx cy qx qy), .bool (triOk ax ay bx b_y cx cy qx qy)]) ∧ Below w.heap.size w w' := by
  cases h0 : goodB ax ay
  · have hk : triOk ax ay bx b_y cx cy qx qy = false := by unfold triOk; rw [tl_bad (by unfold sideOk; rw [h0]; rfl)]; rfl
    have HK := hid hk
    clear hk
    go_enter Tryd.func14, Tryd.ntmps14
    go_wp2_with (first | (go_at_call 38; refine (goodSpec_c _ _ _).mono ?_; rintro e w' ⟨rfl, rfl⟩))
    go_ret2
    exact ⟨ret_ib (by unfold triV; rw [HK.out]; rfl) HK.out.symm, by go_grown⟩
  · cases h1 : goodB bx b_y
    · have hk : triOk ax ay bx b_y cx cy qx qy = false := by unfold triOk; rw [tl_bad (by unfold sideOk; rw [h0, h1]; rfl)]; rfl
      have HK := hid hk
      clear hk
      go_enter Tryd.func14, Tryd.ntmps14
      go_wp2_with (first | (go_at_call 38; refine (goodSpec_c _ _ _).mono ?_; rintro e w' ⟨rfl, rfl⟩))
      go_ret2
      exact ⟨ret_ib (by unfold triV; rw [HK.out]; rfl) HK.out.symm, by go_grown⟩
    · cases h2 : goodB cx cy
      · have hk : triOk ax ay bx b_y cx cy qx qy = false := by unfold triOk; rw [tl_bad (by unfold sideOk; rw [h0, h1, h2]; rfl)]; rfl
        have HK := hid hk
        clear hk
        go_enter Tryd.func14, Tryd.ntmps14
        go_wp2_with (first | (go_at_call 38; refine (goodSpec_c _ _ _).mono ?_; rintro e w' ⟨rfl, rfl⟩))
        go_ret2
        exact ⟨ret_ib (by unfold triV; rw [HK.out]; rfl) HK.out.symm, by go_grown⟩
      · cases h3 : goodB qx qy
        · have hk : triOk ax ay bx b_y cx cy qx qy = false := by unfold triOk; rw [h3, Bool.and_false]
          have HK := hid hk
          clear hk
          go_enter Tryd.func14, Tryd.ntmps14
          go_wp2_with (first | (go_at_call 38; refine (goodSpec_c _ _ _).mono ?_; rintro e w' ⟨rfl, rfl⟩))
          go_ret2
          exact ⟨ret_ib (by unfold triV; rw [HK.out]; rfl) HK.out.symm, by go_grown⟩
        · have ht : slB (ax, ay) (bx, b_y) (cx, cy) = tlB (ax, ay) (bx, b_y) (cx, cy) := (tl_sl (a := (ax, ay)) (b := (bx, b_y)) (q := (cx, cy)) h0 h1 h2).symm
          by_cases hS : sg (crossW ax ay bx b_y cx cy) ≤ 0
          · have hk : triOk ax ay bx b_y cx cy qx qy = false := by unfold triOk; rw [← ht]; unfold slB; rw [decide_eq_true hS]; rfl
            have HK := hid hk
            clear hk ht
            go_enter Tryd.func14, Tryd.ntmps14
            go_wp2_with (first | (go_at_call 38; refine (goodSpec_c _ _ _).mono ?_; rintro e w' ⟨rfl, rfl⟩) | (go_at_call 42; refine (side_c _ _ _ _ _ _ _).mono ?_; rintro e w1 ⟨rfl, hb⟩; have k0 := cell_later hb (a := ⟨w.heap.size, 0, none⟩) (v := .int .i64 ax) (by simp [go_sem]); have k1 := cell_later hb (a := ⟨w.heap.size, 1, none⟩) (v := .int .i64 ay) (by simp [go_sem]); have k2 := cell_later hb (a := ⟨w.heap.size + 1, 0, none⟩) (v := .int .i64 bx) (by simp [go_sem]); have k3 := cell_later hb (a := ⟨w.heap.size + 1, 1, none⟩) (v := .int .i64 b_y) (by simp [go_sem]); have k4 := cell_later hb (a := ⟨w.heap.size + 1 + 1, 0, none⟩) (v := .int .i64 cx) (by simp [go_sem]); have k5 := cell_later hb (a := ⟨w.heap.size + 1 + 1, 1, none⟩) (v := .int .i64 cy) (by simp [go_sem]); have k6 := cell_later hb (a := ⟨w.heap.size + 1 + 1 + 1, 0, none⟩) (v := .int .i64 qx) (by simp [go_sem]); have k7 := cell_later hb (a := ⟨w.heap.size + 1 + 1 + 1, 1, none⟩) (v := .int .i64 qy) (by simp [go_sem]); have HB1 := hid ((by go_grown : Below w.heap.size w _).trans (hb.mono (by go_size))); have hs3 : w.heap.size + 1 + 1 + 1 < w1.heap.size := World.block_lt_of_cell? w1 _ k6; have hs2 : w.heap.size + 1 + 1 < w1.heap.size := (by omega); have hs1 : w.heap.size + 1 < w1.heap.size := (by omega); have hs0 : w.heap.size < w1.heap.size := (by omega); clear hb))
            go_ret2
            exact ⟨ret_ib (by unfold triV; rw [HK.out]; rfl) HK.out.symm, HB1.out⟩
          · have hk : triOk ax ay bx b_y cx cy qx qy = true := by unfold triOk; rw [← ht, h3]; unfold slB; rw [decide_eq_false hS]; rfl
            have HK := hid hk
            clear hk ht
            go_enter Tryd.func14, Tryd.ntmps14
            go_wp2_with (first | (go_at_call 38; refine (goodSpec_c _ _ _).mono ?_; rintro e w' ⟨rfl, rfl⟩) | (go_at_call 42; refine (side_c _ _ _ _ _ _ _).mono ?_; rintro e w1 ⟨rfl, hb⟩; have k0 := cell_later hb (a := ⟨w.heap.size, 0, none⟩) (v := .int .i64 ax) (by simp [go_sem]); have k1 := cell_later hb (a := ⟨w.heap.size, 1, none⟩) (v := .int .i64 ay) (by simp [go_sem]); have k2 := cell_later hb (a := ⟨w.heap.size + 1, 0, none⟩) (v := .int .i64 bx) (by simp [go_sem]); have k3 := cell_later hb (a := ⟨w.heap.size + 1, 1, none⟩) (v := .int .i64 b_y) (by simp [go_sem]); have k4 := cell_later hb (a := ⟨w.heap.size + 1 + 1, 0, none⟩) (v := .int .i64 cx) (by simp [go_sem]); have k5 := cell_later hb (a := ⟨w.heap.size + 1 + 1, 1, none⟩) (v := .int .i64 cy) (by simp [go_sem]); have k6 := cell_later hb (a := ⟨w.heap.size + 1 + 1 + 1, 0, none⟩) (v := .int .i64 qx) (by simp [go_sem]); have k7 := cell_later hb (a := ⟨w.heap.size + 1 + 1 + 1, 1, none⟩) (v := .int .i64 qy) (by simp [go_sem]); have HB1 := hid ((by go_grown : Below w.heap.size w _).trans (hb.mono (by go_size))); have hs3 : w.heap.size + 1 + 1 + 1 < w1.heap.size := World.block_lt_of_cell? w1 _ k6; have hs2 : w.heap.size + 1 + 1 < w1.heap.size := (by omega); have hs1 : w.heap.size + 1 < w1.heap.size := (by omega); have hs0 : w.heap.size < w1.heap.size := (by omega); clear hb) | (go_at_call 43; refine (l4Where_c [(ax, ay), (bx, b_y), (cx, cy)] qx qy _ 3 3 _ rfl (by omega) (at3new _ _ _ _ _ _ _ _)).mono ?_; rintro e w2 ⟨rfl, hb2⟩))
            go_ret2
            exact ⟨ret_ib (by unfold triV; rw [HK.out]; rfl) HK.out.symm, grew HB1.out (grew (by go_grown) hb2)⟩
set_option maxHeartbeats 4000000 in
set_option maxRecDepth 8000 in
theorem triImpl_c (ax ay bx b_y cx cy qx qy : Int) (w : World) (c0 : w.cell? ⟨0, 0, none⟩ = some (.int .i64 1000000)) :
    Calls Tryd.prog 15 #[.agg #[.int .i64 ax, .int .i64 ay], .agg #[.int .i64 bx, .int .i64 b_y], .agg #[.int .i64 cx, .int .i64 cy], .agg #[.int .i64 qx, .int .i64 qy]] w fun e w' => e = .returned (.tuple #[.int .i64 (triV ax ay bx b_y cx cy qx qy), .bool (triOk ax ay bx b_y cx cy qx qy)]) ∧ Below w.heap.size w w' := by
  have hz : 0 < w.heap.size := World.block_lt_of_cell? w _ c0
  have C0 := hid c0
  clear c0
  cases hT : tlB (ax, ay) (bx, b_y) (cx, cy)
  · have HK : Hid (triOk ax ay bx b_y cx cy qx qy = false) := by unfold triOk; rw [hT]; rfl
    go_enter Tryd.func15, Tryd.ntmps15
    go_wp2_with (first | (go_at_call 44; refine (turnsLeft_c _ _ _ _ _ _ _ ?_).mono ?_; exact cell_later (by go_grown : Below w.heap.size w _) C0.out; rw [hT]; rintro e w1 ⟨rfl, hb⟩; have k0 := cell_later hb (a := ⟨w.heap.size, 0, none⟩) (v := .int .i64 ax) (by simp [go_sem]); have k1 := cell_later hb (a := ⟨w.heap.size, 1, none⟩) (v := .int .i64 ay) (by simp [go_sem]); have k2 := cell_later hb (a := ⟨w.heap.size + 1, 0, none⟩) (v := .int .i64 bx) (by simp [go_sem]); have k3 := cell_later hb (a := ⟨w.heap.size + 1, 1, none⟩) (v := .int .i64 b_y) (by simp [go_sem]); have k4 := cell_later hb (a := ⟨w.heap.size + 1 + 1, 0, none⟩) (v := .int .i64 cx) (by simp [go_sem]); have k5 := cell_later hb (a := ⟨w.heap.size + 1 + 1, 1, none⟩) (v := .int .i64 cy) (by simp [go_sem]); have k6 := cell_later hb (a := ⟨w.heap.size + 1 + 1 + 1, 0, none⟩) (v := .int .i64 qx) (by simp [go_sem]); have k7 := cell_later hb (a := ⟨w.heap.size + 1 + 1 + 1, 1, none⟩) (v := .int .i64 qy) (by simp [go_sem]); have HB1 := hid ((by go_grown : Below w.heap.size w _).trans (hb.mono (by go_size))); have hs3 : w.heap.size + 1 + 1 + 1 < w1.heap.size := World.block_lt_of_cell? w1 _ k6; have hs2 : w.heap.size + 1 + 1 < w1.heap.size := (by omega); have hs1 : w.heap.size + 1 < w1.heap.size := (by omega); have hs0 : w.heap.size < w1.heap.size := (by omega); clear hb))
    go_ret2
    exact ⟨ret_ib (by unfold triV; rw [HK.out]; rfl) HK.out.symm, HB1.out⟩
  · cases hP : goodB qx qy
    · have HK := hid (show triOk ax ay bx b_y cx cy qx qy = false by unfold triOk; rw [hP, Bool.and_false])
      go_enter Tryd.func15, Tryd.ntmps15
      go_wp2_with (first | (go_at_call 44; refine (turnsLeft_c _ _ _ _ _ _ _ ?_).mono ?_; exact cell_later (by go_grown : Below w.heap.size w _) C0.out; rw [hT]; rintro e w1 ⟨rfl, hb⟩; have k0 := cell_later hb (a := ⟨w.heap.size, 0, none⟩) (v := .int .i64 ax) (by simp [go_sem]); have k1 := cell_later hb (a := ⟨w.heap.size, 1, none⟩) (v := .int .i64 ay) (by simp [go_sem]); have k2 := cell_later hb (a := ⟨w.heap.size + 1, 0, none⟩) (v := .int .i64 bx) (by simp [go_sem]); have k3 := cell_later hb (a := ⟨w.heap.size + 1, 1, none⟩) (v := .int .i64 b_y) (by simp [go_sem]); have k4 := cell_later hb (a := ⟨w.heap.size + 1 + 1, 0, none⟩) (v := .int .i64 cx) (by simp [go_sem]); have k5 := cell_later hb (a := ⟨w.heap.size + 1 + 1, 1, none⟩) (v := .int .i64 cy) (by simp [go_sem]); have k6 := cell_later hb (a := ⟨w.heap.size + 1 + 1 + 1, 0, none⟩) (v := .int .i64 qx) (by simp [go_sem]); have k7 := cell_later hb (a := ⟨w.heap.size + 1 + 1 + 1, 1, none⟩) (v := .int .i64 qy) (by simp [go_sem]); have HB1 := hid ((by go_grown : Below w.heap.size w _).trans (hb.mono (by go_size))); have hs3 : w.heap.size + 1 + 1 + 1 < w1.heap.size := World.block_lt_of_cell? w1 _ k6; have hs2 : w.heap.size + 1 + 1 < w1.heap.size := (by omega); have hs1 : w.heap.size + 1 < w1.heap.size := (by omega); have hs0 : w.heap.size < w1.heap.size := (by omega); clear hb) | (go_at_call 40; refine (goodImpl_c _ _ _ ?_).mono ?_; exact cell_later HB1.out C0.out; rintro e w' ⟨rfl, rfl⟩))
      go_ret2
      exact ⟨ret_ib (by unfold triV; rw [HK.out]; rfl) HK.out.symm, HB1.out.trans (by go_grown)⟩
    · have HK : Hid (triOk ax ay bx b_y cx cy qx qy = true) := by unfold triOk; rw [hT, hP]; rfl
      have HW := hid (wh_eq (q := (qx, qy)) (tl_good hT) hP)
      go_enter Tryd.func15, Tryd.ntmps15
      go_wp2_with (first | (go_at_call 44; refine (turnsLeft_c _ _ _ _ _ _ _ ?_).mono ?_; exact cell_later (by go_grown : Below w.heap.size w _) C0.out; rw [hT]; rintro e w1 ⟨rfl, hb⟩; have k0 := cell_later hb (a := ⟨w.heap.size, 0, none⟩) (v := .int .i64 ax) (by simp [go_sem]); have k1 := cell_later hb (a := ⟨w.heap.size, 1, none⟩) (v := .int .i64 ay) (by simp [go_sem]); have k2 := cell_later hb (a := ⟨w.heap.size + 1, 0, none⟩) (v := .int .i64 bx) (by simp [go_sem]); have k3 := cell_later hb (a := ⟨w.heap.size + 1, 1, none⟩) (v := .int .i64 b_y) (by simp [go_sem]); have k4 := cell_later hb (a := ⟨w.heap.size + 1 + 1, 0, none⟩) (v := .int .i64 cx) (by simp [go_sem]); have k5 := cell_later hb (a := ⟨w.heap.size + 1 + 1, 1, none⟩) (v := .int .i64 cy) (by simp [go_sem]); have k6 := cell_later hb (a := ⟨w.heap.size + 1 + 1 + 1, 0, none⟩) (v := .int .i64 qx) (by simp [go_sem]); have k7 := cell_later hb (a := ⟨w.heap.size + 1 + 1 + 1, 1, none⟩) (v := .int .i64 qy) (by simp [go_sem]); have HB1 := hid ((by go_grown : Below w.heap.size w _).trans (hb.mono (by go_size))); have hs3 : w.heap.size + 1 + 1 + 1 < w1.heap.size := World.block_lt_of_cell? w1 _ k6; have hs2 : w.heap.size + 1 + 1 < w1.heap.size := (by omega); have hs1 : w.heap.size + 1 < w1.heap.size := (by omega); have hs0 : w.heap.size < w1.heap.size := (by omega); clear hb) | (go_at_call 40; refine (goodImpl_c _ _ _ ?_).mono ?_; exact cell_later HB1.out C0.out; rintro e w' ⟨rfl, rfl⟩))
      refine wp_region_held_drew (S := (fun u => u.cell? ⟨w1.heap.size + 1 + 1, 0, none⟩ = some (.int .i64 ax) ∧ u.cell? ⟨w1.heap.size + 1 + 1, 1, none⟩ = some (.int .i64 ay) ∧ u.cell? ⟨w1.heap.size + 1 + 1, 2, none⟩ = some (.int .i64 bx) ∧ u.cell? ⟨w1.heap.size + 1 + 1, 3, none⟩ = some (.int .i64 b_y) ∧ u.cell? ⟨w1.heap.size + 1 + 1, 4, none⟩ = some (.int .i64 cx) ∧ u.cell? ⟨w1.heap.size + 1 + 1, 5, none⟩ = some (.int .i64 cy) ∧ u.cell? ⟨w.heap.size + 1 + 1 + 1, 0, none⟩ = some (.int .i64 qx) ∧ u.cell? ⟨w.heap.size + 1 + 1 + 1, 1, none⟩ = some (.int .i64 qy) ∧ Below w.heap.size w u)) (by kernel_rfl) ?_ (fun hHeld => ?_)
      · exact ⟨by go_simp, by go_simp, by go_simp, by go_simp, by go_simp, by go_simp, by go_simp, by go_simp, (HB1.out.trans (by go_grown)).drew⟩
      refine wpAnyH_take (i := 0) (oi := { dst := some 25, op := Op.slice 63 (Operand.tmp 10) none none none, type := 35, pos := "l4_inside.go:32", after := #[], guard := none }) (v := ?v1x0) rfl (by kernel_rfl) (by kernel_rfl) (by kernel_rfl) (fun _ _ _ h => h) (Or.inl ⟨by rfl, ?hy1x0⟩) (by with_reducible assumption) ?rest1x0
      case hy1x0 => (intro w hSw; (try dsimp only at hSw); go_simp; try with_reducible rfl)
      case' rest1x0 => (try simp only [Act.put, List.setIfInBounds_toArray, List.set_cons_zero, List.set_cons_succ])
      refine wpAnyH_take (i := 1) (oi := { dst := some 26, op := Op.load 26 (Operand.tmp 7), type := 26, pos := "l4_inside.go:32", after := #[], guard := none }) (v := ?v1x1) rfl (by kernel_rfl) (by kernel_rfl) (by kernel_rfl) (fun _ _ _ h => h) (Or.inl ⟨by rfl, ?hy1x1⟩) (by with_reducible assumption) ?rest1x1
      case hy1x1 => (intro w hSw; (try dsimp only at hSw); go_simp; try with_reducible rfl)
      case' rest1x1 => (try simp only [Act.put, List.setIfInBounds_toArray, List.set_cons_zero, List.set_cons_succ])
      refine wpAnyH_ready (rs := [2]) (by kernel_rfl) (by simp) ?_
      refine AllReadyH.cons (o := { dst := some 27, op := Op.call { callee := Callee.value (Operand.func 45), args := #[Operand.tmp 25, Operand.tmp 26], argTypes := #[35, 26] }, type := 3, pos := "l4_inside.go:32", after := #[{ on := 0, ground := Ground.data }, { on := 1, ground := Ground.data }], guard := none }) rfl (fun K hK => ?_) AllReadyH.nil
      go_simp
      refine (whereImpl_c [(ax, ay), (bx, b_y), (cx, cy)] qx qy _ 3 3 _ rfl (by omega) (at3 hHeld.1 hHeld.2.1 hHeld.2.2.1 hHeld.2.2.2.1 hHeld.2.2.2.2.1 hHeld.2.2.2.2.2.1) (cell_later (fin8 hHeld) C0.out)).mono ?_
      rintro e w3 ⟨rfl, hb3⟩
      go_wp2_with fail
      refine hK.out _ _ ?_ (fun hHeld => ?_)
      · exact keep8 hb3 hHeld
      clear hK K
      try simp only [Act.put, List.setIfInBounds_toArray, List.set_cons_zero, List.set_cons_succ]
      refine wpAnyH_take (i := 3) (oi := { dst := some 8, op := Op.assign (Operand.tmp 27), type := 3, pos := "l4_inside.go:32", after := #[{ on := 2, ground := Ground.data }, { on := 2, ground := Ground.chain }, { on := 0, ground := Ground.phase }, { on := 1, ground := Ground.phase }, { on := 2, ground := Ground.phase }], guard := none }) (v := ?v1x3) rfl (by kernel_rfl) (by kernel_rfl) (by kernel_rfl) (fun _ _ _ h => h) (Or.inl ⟨by rfl, ?hy1x3⟩) (by with_reducible assumption) ?rest1x3
      case hy1x3 => (intro w hSw; (try dsimp only at hSw); go_simp; try with_reducible rfl)
      case' rest1x3 => (try simp only [Act.put, List.setIfInBounds_toArray, List.set_cons_zero, List.set_cons_succ])
      refine wpAnyH_take (i := 4) (oi := { dst := some 9, op := Op.assign (Operand.const (Value.bool true)), type := 4, pos := "l4_inside.go:32", after := #[{ on := 3, ground := Ground.chain }, { on := 0, ground := Ground.phase }, { on := 1, ground := Ground.phase }, { on := 2, ground := Ground.phase }, { on := 3, ground := Ground.phase }], guard := none }) (v := ?v1x4) rfl (by kernel_rfl) (by kernel_rfl) (by kernel_rfl) (fun _ _ _ h => h) (Or.inl ⟨by rfl, ?hy1x4⟩) (by with_reducible assumption) ?rest1x4
      case hy1x4 => (intro w hSw; (try dsimp only at hSw); go_simp; try with_reducible rfl)
      case' rest1x4 => (try simp only [Act.put, List.setIfInBounds_toArray, List.set_cons_zero, List.set_cons_succ])
      refine wpAnyH_done (by kernel_rfl) ?_ _
      have HF := hid (fin8 hHeld)
      clear hHeld
      go_wp2
      go_ret2
      exact ⟨ret_ib (by unfold triV; rw [HK.out]; exact HW.out) HK.out.symm, HF.out⟩
end Go.Proofs.YtcghpepkphphbaaDoor
