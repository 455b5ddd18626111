/-
  What is between two points, as the program finds it (contracts for the walks).
  Conditions: as each theorem states them.
-/
import Derived.Test.YtegmlemejmahiaaDoorSrt3
import Derived.Test.YtegmlemejmahiaaDoorHSide
import Derived.Test.YtegmlemejmahiaaDoorEq6
import Derived.Deep.DeepCutAuto
namespace Go.Proofs.YtegmlemejmahiaaDoor
open Go.RowKit Go.Shelf
set_option linter.unusedVariables false
attribute [local go_sem] eq6
theorem tb0 (w : World) (ax ay bx b_y qx qy : Int) : (((w.alloc (.cells #[.int .i64 ax, .int .i64 ay] 26)).alloc (.cells #[.int .i64 bx, .int .i64 b_y] 26)).alloc (.cells #[.int .i64 qx, .int .i64 qy] 26)).cell? ⟨w.heap.size, 0, none⟩ = some (.int .i64 ax) := by simp [go_sem]
theorem tb1 (w : World) (ax ay bx b_y qx qy : Int) : (((w.alloc (.cells #[.int .i64 ax, .int .i64 ay] 26)).alloc (.cells #[.int .i64 bx, .int .i64 b_y] 26)).alloc (.cells #[.int .i64 qx, .int .i64 qy] 26)).cell? ⟨w.heap.size, 1, none⟩ = some (.int .i64 ay) := by simp [go_sem]
theorem tb2 (w : World) (ax ay bx b_y qx qy : Int) : (((w.alloc (.cells #[.int .i64 ax, .int .i64 ay] 26)).alloc (.cells #[.int .i64 bx, .int .i64 b_y] 26)).alloc (.cells #[.int .i64 qx, .int .i64 qy] 26)).cell? ⟨w.heap.size + 1, 0, none⟩ = some (.int .i64 bx) := by simp [go_sem]
theorem tb3 (w : World) (ax ay bx b_y qx qy : Int) : (((w.alloc (.cells #[.int .i64 ax, .int .i64 ay] 26)).alloc (.cells #[.int .i64 bx, .int .i64 b_y] 26)).alloc (.cells #[.int .i64 qx, .int .i64 qy] 26)).cell? ⟨w.heap.size + 1, 1, none⟩ = some (.int .i64 b_y) := by simp [go_sem]
theorem tb4 (w : World) (ax ay bx b_y qx qy : Int) : (((w.alloc (.cells #[.int .i64 ax, .int .i64 ay] 26)).alloc (.cells #[.int .i64 bx, .int .i64 b_y] 26)).alloc (.cells #[.int .i64 qx, .int .i64 qy] 26)).cell? ⟨w.heap.size + 1 + 1, 0, none⟩ = some (.int .i64 qx) := by simp [go_sem]
theorem tb5 (w : World) (ax ay bx b_y qx qy : Int) : (((w.alloc (.cells #[.int .i64 ax, .int .i64 ay] 26)).alloc (.cells #[.int .i64 bx, .int .i64 b_y] 26)).alloc (.cells #[.int .i64 qx, .int .i64 qy] 26)).cell? ⟨w.heap.size + 1 + 1, 1, none⟩ = some (.int .i64 qy) := by simp [go_sem]
/-- q is on the way from a to b, as the program finds it. -/
def btB (a b q : Int × Int) : Bool := decide (sideN a.1 a.2 b.1 b.2 q.1 q.2 = 0) && (decide ((a, q, b) = srt3 a q b) || decide ((b, q, a) = srt3 a q b))
theorem bt_spell (ax ay bx b_y qx qy : Int) : btB (ax, ay) (bx, b_y) (qx, qy) = (decide (sideN ax ay bx b_y qx qy = 0) && ((decide (ax = (srt3 (ax, ay) (qx, qy) (bx, b_y)).fst.fst) && decide (ay = (srt3 (ax, ay) (qx, qy) (bx, b_y)).fst.snd) && (decide (qx = (srt3 (ax, ay) (qx, qy) (bx, b_y)).snd.fst.fst) && decide (qy = (srt3 (ax, ay) (qx, qy) (bx, b_y)).snd.fst.snd) && (decide (bx = (srt3 (ax, ay) (qx, qy) (bx, b_y)).snd.snd.fst) && decide (b_y = (srt3 (ax, ay) (qx, qy) (bx, b_y)).snd.snd.snd)))) || (decide (bx = (srt3 (ax, ay) (qx, qy) (bx, b_y)).fst.fst) && decide (b_y = (srt3 (ax, ay) (qx, qy) (bx, b_y)).fst.snd) && (decide (qx = (srt3 (ax, ay) (qx, qy) (bx, b_y)).snd.fst.fst) && decide (qy = (srt3 (ax, ay) (qx, qy) (bx, b_y)).snd.fst.snd) && (decide (ax = (srt3 (ax, ay) (qx, qy) (bx, b_y)).snd.snd.fst) && decide (ay = (srt3 (ax, ay) (qx, qy) (bx, b_y)).snd.snd.snd)))))) := by
  unfold btB
  simp only [Prod.ext_iff, Bool.decide_and]
theorem bt_a {ax ay bx b_y qx qy : Int} (h0 : sideN ax ay bx b_y qx qy = 0) : ((decide (ax = (srt3 (ax, ay) (qx, qy) (bx, b_y)).fst.fst) && decide (ay = (srt3 (ax, ay) (qx, qy) (bx, b_y)).fst.snd) && (decide (qx = (srt3 (ax, ay) (qx, qy) (bx, b_y)).snd.fst.fst) && decide (qy = (srt3 (ax, ay) (qx, qy) (bx, b_y)).snd.fst.snd) && (decide (bx = (srt3 (ax, ay) (qx, qy) (bx, b_y)).snd.snd.fst) && decide (b_y = (srt3 (ax, ay) (qx, qy) (bx, b_y)).snd.snd.snd)))) || (decide (bx = (srt3 (ax, ay) (qx, qy) (bx, b_y)).fst.fst) && decide (b_y = (srt3 (ax, ay) (qx, qy) (bx, b_y)).fst.snd) && (decide (qx = (srt3 (ax, ay) (qx, qy) (bx, b_y)).snd.fst.fst) && decide (qy = (srt3 (ax, ay) (qx, qy) (bx, b_y)).snd.fst.snd) && (decide (ax = (srt3 (ax, ay) (qx, qy) (bx, b_y)).snd.snd.fst) && decide (ay = (srt3 (ax, ay) (qx, qy) (bx, b_y)).snd.snd.snd))))) = btB (ax, ay) (bx, b_y) (qx, qy) := by
  rw [bt_spell, decide_eq_true h0, Bool.true_and]
theorem bt_b {ax ay bx b_y qx qy : Int} (h0 : sideN ax ay bx b_y qx qy = 0) (h : ¬ ((¬ ax = (srt3 (ax, ay) (qx, qy) (bx, b_y)).fst.fst ∨ ¬ ay = (srt3 (ax, ay) (qx, qy) (bx, b_y)).fst.snd) ∨ (¬ qx = (srt3 (ax, ay) (qx, qy) (bx, b_y)).snd.fst.fst ∨ ¬ qy = (srt3 (ax, ay) (qx, qy) (bx, b_y)).snd.fst.snd) ∨ ¬ bx = (srt3 (ax, ay) (qx, qy) (bx, b_y)).snd.snd.fst ∨ ¬ b_y = (srt3 (ax, ay) (qx, qy) (bx, b_y)).snd.snd.snd)) : true = btB (ax, ay) (bx, b_y) (qx, qy) := by
  rw [bt_spell, decide_eq_true h0, Bool.true_and]
  simp only [not_or, Classical.not_not] at h
  obtain ⟨⟨e0, e1⟩, ⟨e2, e3⟩, e4, e5⟩ := h
  rw [decide_eq_true e0, decide_eq_true e1, decide_eq_true e2, decide_eq_true e3, decide_eq_true e4, decide_eq_true e5]
  rfl
set_option maxHeartbeats 4000000 in
set_option maxRecDepth 8000 in
theorem isBetween_c (ax ay bx b_y qx qy : Int) (w : World) (c0 : w.cell? ⟨0, 0, none⟩ = some (.int .i64 1000000)) :
    Calls Tryd.prog 110 #[.agg #[.int .i64 ax, .int .i64 ay], .agg #[.int .i64 bx, .int .i64 b_y], .agg #[.int .i64 qx, .int .i64 qy]] w fun e w' => e = .returned (.bool (btB (ax, ay) (bx, b_y) (qx, qy))) ∧ Below w.heap.size w w' := by
  have hz : 0 < w.heap.size := World.block_lt_of_cell? w _ c0
  have hbW : Below w.heap.size w (((w.alloc (.cells #[.int .i64 ax, .int .i64 ay] 26)).alloc (.cells #[.int .i64 bx, .int .i64 b_y] 26)).alloc (.cells #[.int .i64 qx, .int .i64 qy] 26)) := by go_grown
  have HB := hid hbW
  clear hbW
  have C0 := hid c0
  clear c0
  by_cases h0 : sideN ax ay bx b_y qx qy = 0
  · go_enter Tryd.func110, Tryd.ntmps110
    go_upto_region 4 with (go_at_call 75; refine (sideOfImpl_c _ _ _ _ _ _ _ (cell_later HB.out C0.out)).mono ?_; rintro e w1 ⟨rfl, hb⟩; have k0 := cell_later hb (tb0 w ax ay bx b_y qx qy); have k1 := cell_later hb (tb1 w ax ay bx b_y qx qy); have k2 := cell_later hb (tb2 w ax ay bx b_y qx qy); have k3 := cell_later hb (tb3 w ax ay bx b_y qx qy); have k4 := cell_later hb (tb4 w ax ay bx b_y qx qy); have k5 := cell_later hb (tb5 w ax ay bx b_y qx qy); have HB1 := hid (grew HB.out hb); have hs1 := hb.size; clear hb)
    refine wp_region_held_drew (S := (fun u => Below w1.heap.size w1 u)) (by kernel_rfl) ?_ (fun hHeld => ?_)
    · exact (Below.refl _ _).drew
    refine wpAnyH_take (i := 0) (oi := { dst := some 21, op := Op.load 26 (Operand.tmp 3), type := 26, pos := "l4_inside.go:101", after := #[], guard := none }) (v := ?v1rx0) rfl (by kernel_rfl) (by kernel_rfl) (by kernel_rfl) (fun _ _ _ h => h) (Or.inl ⟨by rfl, ?hy1rx0⟩) (by with_reducible assumption) ?rest1rx0
    case hy1rx0 => (intro w hSw; (try dsimp only at hSw); have z0 := cell_later hSw k0; have z1 := cell_later hSw k1; have z2 := cell_later hSw k2; have z3 := cell_later hSw k3; have z4 := cell_later hSw k4; have z5 := cell_later hSw k5; clear hSw; go_simp; try with_reducible rfl)
    case' rest1rx0 => (try simp only [Act.put, List.setIfInBounds_toArray, List.set_cons_zero, List.set_cons_succ])
    refine wpAnyH_take (i := 1) (oi := { dst := some 22, op := Op.load 26 (Operand.tmp 5), type := 26, pos := "l4_inside.go:101", after := #[], guard := none }) (v := ?v1rx1) rfl (by kernel_rfl) (by kernel_rfl) (by kernel_rfl) (fun _ _ _ h => h) (Or.inl ⟨by rfl, ?hy1rx1⟩) (by with_reducible assumption) ?rest1rx1
    case hy1rx1 => (intro w hSw; (try dsimp only at hSw); have z0 := cell_later hSw k0; have z1 := cell_later hSw k1; have z2 := cell_later hSw k2; have z3 := cell_later hSw k3; have z4 := cell_later hSw k4; have z5 := cell_later hSw k5; clear hSw; go_simp; try with_reducible rfl)
    case' rest1rx1 => (try simp only [Act.put, List.setIfInBounds_toArray, List.set_cons_zero, List.set_cons_succ])
    refine wpAnyH_take (i := 2) (oi := { dst := some 23, op := Op.load 26 (Operand.tmp 4), type := 26, pos := "l4_inside.go:101", after := #[], guard := none }) (v := ?v1rx2) rfl (by kernel_rfl) (by kernel_rfl) (by kernel_rfl) (fun _ _ _ h => h) (Or.inl ⟨by rfl, ?hy1rx2⟩) (by with_reducible assumption) ?rest1rx2
    case hy1rx2 => (intro w hSw; (try dsimp only at hSw); have z0 := cell_later hSw k0; have z1 := cell_later hSw k1; have z2 := cell_later hSw k2; have z3 := cell_later hSw k3; have z4 := cell_later hSw k4; have z5 := cell_later hSw k5; clear hSw; go_simp; try with_reducible rfl)
    case' rest1rx2 => (try simp only [Act.put, List.setIfInBounds_toArray, List.set_cons_zero, List.set_cons_succ])
    refine wpAnyH_take (i := 3) (oi := { dst := some 24, op := Op.build 101 #[(0, Operand.tmp 21), (1, Operand.tmp 22), (2, Operand.tmp 23)], type := 101, pos := "l4_inside.go:101", after := #[{ on := 0, ground := Ground.data }, { on := 1, ground := Ground.data }, { on := 2, ground := Ground.data }], guard := none }) (v := ?v1rx3) rfl (by kernel_rfl) (by kernel_rfl) (by kernel_rfl) (fun _ _ _ h => h) (Or.inl ⟨by rfl, ?hy1rx3⟩) (by with_reducible assumption) ?rest1rx3
    case hy1rx3 => (intro w hSw; (try dsimp only at hSw); have z0 := cell_later hSw k0; have z1 := cell_later hSw k1; have z2 := cell_later hSw k2; have z3 := cell_later hSw k3; have z4 := cell_later hSw k4; have z5 := cell_later hSw k5; clear hSw; go_simp; try with_reducible rfl)
    case' rest1rx3 => (try simp only [Act.put, List.setIfInBounds_toArray, List.set_cons_zero, List.set_cons_succ])
    refine wpAnyH_take (i := 4) (oi := { dst := some 25, op := Op.load 26 (Operand.tmp 4), type := 26, pos := "l4_inside.go:101", after := #[{ on := 10, ground := Ground.gcOnly Departure.lateStores }], guard := none }) (v := ?v1rx4) rfl (by kernel_rfl) (by kernel_rfl) (by kernel_rfl) (fun _ _ _ h => h) (Or.inl ⟨by rfl, ?hy1rx4⟩) (by with_reducible assumption) ?rest1rx4
    case hy1rx4 => (intro w hSw; (try dsimp only at hSw); have z0 := cell_later hSw k0; have z1 := cell_later hSw k1; have z2 := cell_later hSw k2; have z3 := cell_later hSw k3; have z4 := cell_later hSw k4; have z5 := cell_later hSw k5; clear hSw; go_simp; try with_reducible rfl)
    case' rest1rx4 => (try simp only [Act.put, List.setIfInBounds_toArray, List.set_cons_zero, List.set_cons_succ])
    refine wpAnyH_take (i := 5) (oi := { dst := some 26, op := Op.load 26 (Operand.tmp 5), type := 26, pos := "l4_inside.go:101", after := #[{ on := 10, ground := Ground.gcOnly Departure.lateStores }], guard := none }) (v := ?v1rx5) rfl (by kernel_rfl) (by kernel_rfl) (by kernel_rfl) (fun _ _ _ h => h) (Or.inl ⟨by rfl, ?hy1rx5⟩) (by with_reducible assumption) ?rest1rx5
    case hy1rx5 => (intro w hSw; (try dsimp only at hSw); have z0 := cell_later hSw k0; have z1 := cell_later hSw k1; have z2 := cell_later hSw k2; have z3 := cell_later hSw k3; have z4 := cell_later hSw k4; have z5 := cell_later hSw k5; clear hSw; go_simp; try with_reducible rfl)
    case' rest1rx5 => (try simp only [Act.put, List.setIfInBounds_toArray, List.set_cons_zero, List.set_cons_succ])
    refine wpAnyH_take (i := 6) (oi := { dst := some 27, op := Op.load 26 (Operand.tmp 3), type := 26, pos := "l4_inside.go:101", after := #[{ on := 10, ground := Ground.gcOnly Departure.lateStores }], guard := none }) (v := ?v1rx6) rfl (by kernel_rfl) (by kernel_rfl) (by kernel_rfl) (fun _ _ _ h => h) (Or.inl ⟨by rfl, ?hy1rx6⟩) (by with_reducible assumption) ?rest1rx6
    case hy1rx6 => (intro w hSw; (try dsimp only at hSw); have z0 := cell_later hSw k0; have z1 := cell_later hSw k1; have z2 := cell_later hSw k2; have z3 := cell_later hSw k3; have z4 := cell_later hSw k4; have z5 := cell_later hSw k5; clear hSw; go_simp; try with_reducible rfl)
    case' rest1rx6 => (try simp only [Act.put, List.setIfInBounds_toArray, List.set_cons_zero, List.set_cons_succ])
    refine wpAnyH_take (i := 7) (oi := { dst := some 28, op := Op.build 101 #[(0, Operand.tmp 25), (1, Operand.tmp 26), (2, Operand.tmp 27)], type := 101, pos := "l4_inside.go:101", after := #[{ on := 4, ground := Ground.data }, { on := 5, ground := Ground.data }, { on := 6, ground := Ground.data }, { on := 10, ground := Ground.gcOnly Departure.lateStores }], guard := none }) (v := ?v1rx7) rfl (by kernel_rfl) (by kernel_rfl) (by kernel_rfl) (fun _ _ _ h => h) (Or.inl ⟨by rfl, ?hy1rx7⟩) (by with_reducible assumption) ?rest1rx7
    case hy1rx7 => (intro w hSw; (try dsimp only at hSw); have z0 := cell_later hSw k0; have z1 := cell_later hSw k1; have z2 := cell_later hSw k2; have z3 := cell_later hSw k3; have z4 := cell_later hSw k4; have z5 := cell_later hSw k5; clear hSw; go_simp; try with_reducible rfl)
    case' rest1rx7 => (try simp only [Act.put, List.setIfInBounds_toArray, List.set_cons_zero, List.set_cons_succ])
    refine wpAnyH_ready (rs := [8, 9]) (by kernel_rfl) (by simp) ?_
    refine AllReadyH.cons (o := { dst := some 9, op := Op.alloc 101, type := 0, pos := "l4_inside.go:101", after := #[], guard := none }) rfl (fun K hK => ?_) (AllReadyH.cons (o := { dst := some 10, op := Op.alloc 101, type := 0, pos := "l4_inside.go:101", after := #[], guard := none }) rfl (fun K hK => ?_) AllReadyH.nil)
    · go_simp
      refine hK.out _ _ ?_ (fun hHeld => ?_)
      · exact (by go_grown)
      clear hK K
      try simp only [Act.put, List.setIfInBounds_toArray, List.set_cons_zero, List.set_cons_succ]
      refine wpAnyH_ready (rs := [9]) (by kernel_rfl) (by simp) ?_
      refine AllReadyH.cons (o := { dst := some 10, op := Op.alloc 101, type := 0, pos := "l4_inside.go:101", after := #[], guard := none }) rfl (fun K hK => ?_) AllReadyH.nil
      go_simp
      refine hK.out _ _ ?_ (fun hHeld => ?_)
      · exact (by go_grown)
      clear hK K
      try simp only [Act.put, List.setIfInBounds_toArray, List.set_cons_zero, List.set_cons_succ]
      refine wpAnyH_ready (rs := [10]) (by kernel_rfl) (by simp) ?_
      refine AllReadyH.cons (o := { dst := none, op := Op.store 101 (Operand.tmp 9) (Operand.tmp 24), type := 0, pos := "l4_inside.go:101", after := #[{ on := 8, ground := Ground.data }, { on := 3, ground := Ground.data }, { on := 0, ground := Ground.phase }, { on := 1, ground := Ground.phase }, { on := 2, ground := Ground.phase }, { on := 3, ground := Ground.phase }, { on := 4, ground := Ground.textOnly Departure.lateStores }, { on := 5, ground := Ground.textOnly Departure.lateStores }, { on := 6, ground := Ground.textOnly Departure.lateStores }, { on := 7, ground := Ground.textOnly Departure.lateStores }, { on := 8, ground := Ground.phase }, { on := 9, ground := Ground.phase }], guard := none }) rfl (fun K hK => ?_) AllReadyH.nil
      go_simp
      refine hK.out _ _ ?_ (fun hHeld => ?_)
      · exact (by go_grown)
      clear hK K
      try simp only [Act.put, List.setIfInBounds_toArray, List.set_cons_zero, List.set_cons_succ]
      refine wpAnyH_ready (rs := [11]) (by kernel_rfl) (by simp) ?_
      refine AllReadyH.cons (o := { dst := none, op := Op.store 101 (Operand.tmp 10) (Operand.tmp 28), type := 0, pos := "l4_inside.go:101", after := #[{ on := 9, ground := Ground.data }, { on := 7, ground := Ground.data }, { on := 10, ground := Ground.chain }, { on := 0, ground := Ground.phase }, { on := 1, ground := Ground.phase }, { on := 2, ground := Ground.phase }, { on := 3, ground := Ground.phase }, { on := 4, ground := Ground.phase }, { on := 5, ground := Ground.phase }, { on := 6, ground := Ground.phase }, { on := 7, ground := Ground.phase }, { on := 8, ground := Ground.phase }, { on := 9, ground := Ground.phase }, { on := 10, ground := Ground.phase }], guard := none }) rfl (fun K hK => ?_) AllReadyH.nil
      go_simp
      refine hK.out _ _ ?_ (fun hHeld => ?_)
      · exact (by go_grown)
      clear hK K
      try simp only [Act.put, List.setIfInBounds_toArray, List.set_cons_zero, List.set_cons_succ]
      refine wpAnyH_done (by kernel_rfl) ?_ _
      go_wp2_with (go_at_call 112; refine (inOrder_c _ _ _ _ _ _ _).mono ?_; rintro e w2 ⟨rfl, hb2⟩; have t0 := cell_later hb2 (a := ⟨w1.heap.size, 0, none⟩) (v := .int .i64 ax) (by simp [go_sem]); have t1 := cell_later hb2 (a := ⟨w1.heap.size, 1, none⟩) (v := .int .i64 ay) (by simp [go_sem]); have t2 := cell_later hb2 (a := ⟨w1.heap.size, 2, none⟩) (v := .int .i64 qx) (by simp [go_sem]); have t3 := cell_later hb2 (a := ⟨w1.heap.size, 3, none⟩) (v := .int .i64 qy) (by simp [go_sem]); have t4 := cell_later hb2 (a := ⟨w1.heap.size, 4, none⟩) (v := .int .i64 bx) (by simp [go_sem]); have t5 := cell_later hb2 (a := ⟨w1.heap.size, 5, none⟩) (v := .int .i64 b_y) (by simp [go_sem]); have s0 := cell_later hb2 (a := ⟨w1.heap.size + 1, 0, none⟩) (v := .int .i64 bx) (by simp [go_sem]); have s1 := cell_later hb2 (a := ⟨w1.heap.size + 1, 1, none⟩) (v := .int .i64 b_y) (by simp [go_sem]); have s2 := cell_later hb2 (a := ⟨w1.heap.size + 1, 2, none⟩) (v := .int .i64 qx) (by simp [go_sem]); have s3 := cell_later hb2 (a := ⟨w1.heap.size + 1, 3, none⟩) (v := .int .i64 qy) (by simp [go_sem]); have s4 := cell_later hb2 (a := ⟨w1.heap.size + 1, 4, none⟩) (v := .int .i64 ax) (by simp [go_sem]); have s5 := cell_later hb2 (a := ⟨w1.heap.size + 1, 5, none⟩) (v := .int .i64 ay) (by simp [go_sem]); have HB2 := hid (grew (grew HB1.out hHeld) hb2); have hs2 : w1.heap.size + 1 < w2.heap.size := (by have := hb2.size; simp at this; omega); have hs3 : w1.heap.size < w2.heap.size := (by omega); clear hb2)
      all_goals go_ret
      all_goals refine ⟨ret_bool ?_, grew HB2.out (by go_grown)⟩
      all_goals first | exact bt_a h0 | exact bt_b h0 (by assumption)
    · go_simp
      refine hK.out _ _ ?_ (fun hHeld => ?_)
      · exact (by go_grown)
      clear hK K
      try simp only [Act.put, List.setIfInBounds_toArray, List.set_cons_zero, List.set_cons_succ]
      refine wpAnyH_ready (rs := [8]) (by kernel_rfl) (by simp) ?_
      refine AllReadyH.cons (o := { dst := some 9, op := Op.alloc 101, type := 0, pos := "l4_inside.go:101", after := #[], guard := none }) rfl (fun K hK => ?_) AllReadyH.nil
      go_simp
      refine hK.out _ _ ?_ (fun hHeld => ?_)
      · exact (by go_grown)
      clear hK K
      try simp only [Act.put, List.setIfInBounds_toArray, List.set_cons_zero, List.set_cons_succ]
      refine wpAnyH_ready (rs := [10]) (by kernel_rfl) (by simp) ?_
      refine AllReadyH.cons (o := { dst := none, op := Op.store 101 (Operand.tmp 9) (Operand.tmp 24), type := 0, pos := "l4_inside.go:101", after := #[{ on := 8, ground := Ground.data }, { on := 3, ground := Ground.data }, { on := 0, ground := Ground.phase }, { on := 1, ground := Ground.phase }, { on := 2, ground := Ground.phase }, { on := 3, ground := Ground.phase }, { on := 4, ground := Ground.textOnly Departure.lateStores }, { on := 5, ground := Ground.textOnly Departure.lateStores }, { on := 6, ground := Ground.textOnly Departure.lateStores }, { on := 7, ground := Ground.textOnly Departure.lateStores }, { on := 8, ground := Ground.phase }, { on := 9, ground := Ground.phase }], guard := none }) rfl (fun K hK => ?_) AllReadyH.nil
      go_simp
      refine hK.out _ _ ?_ (fun hHeld => ?_)
      · exact (by go_grown)
      clear hK K
      try simp only [Act.put, List.setIfInBounds_toArray, List.set_cons_zero, List.set_cons_succ]
      refine wpAnyH_ready (rs := [11]) (by kernel_rfl) (by simp) ?_
      refine AllReadyH.cons (o := { dst := none, op := Op.store 101 (Operand.tmp 10) (Operand.tmp 28), type := 0, pos := "l4_inside.go:101", after := #[{ on := 9, ground := Ground.data }, { on := 7, ground := Ground.data }, { on := 10, ground := Ground.chain }, { on := 0, ground := Ground.phase }, { on := 1, ground := Ground.phase }, { on := 2, ground := Ground.phase }, { on := 3, ground := Ground.phase }, { on := 4, ground := Ground.phase }, { on := 5, ground := Ground.phase }, { on := 6, ground := Ground.phase }, { on := 7, ground := Ground.phase }, { on := 8, ground := Ground.phase }, { on := 9, ground := Ground.phase }, { on := 10, ground := Ground.phase }], guard := none }) rfl (fun K hK => ?_) AllReadyH.nil
      go_simp
      refine hK.out _ _ ?_ (fun hHeld => ?_)
      · exact (by go_grown)
      clear hK K
      try simp only [Act.put, List.setIfInBounds_toArray, List.set_cons_zero, List.set_cons_succ]
      refine wpAnyH_done (by kernel_rfl) ?_ _
      go_wp2_with (go_at_call 112; refine (inOrder_c _ _ _ _ _ _ _).mono ?_; rintro e w2 ⟨rfl, hb2⟩; have t0 := cell_later hb2 (a := ⟨w1.heap.size + 1, 0, none⟩) (v := .int .i64 ax) (by simp [go_sem]); have t1 := cell_later hb2 (a := ⟨w1.heap.size + 1, 1, none⟩) (v := .int .i64 ay) (by simp [go_sem]); have t2 := cell_later hb2 (a := ⟨w1.heap.size + 1, 2, none⟩) (v := .int .i64 qx) (by simp [go_sem]); have t3 := cell_later hb2 (a := ⟨w1.heap.size + 1, 3, none⟩) (v := .int .i64 qy) (by simp [go_sem]); have t4 := cell_later hb2 (a := ⟨w1.heap.size + 1, 4, none⟩) (v := .int .i64 bx) (by simp [go_sem]); have t5 := cell_later hb2 (a := ⟨w1.heap.size + 1, 5, none⟩) (v := .int .i64 b_y) (by simp [go_sem]); have s0 := cell_later hb2 (a := ⟨w1.heap.size, 0, none⟩) (v := .int .i64 bx) (by simp [go_sem]); have s1 := cell_later hb2 (a := ⟨w1.heap.size, 1, none⟩) (v := .int .i64 b_y) (by simp [go_sem]); have s2 := cell_later hb2 (a := ⟨w1.heap.size, 2, none⟩) (v := .int .i64 qx) (by simp [go_sem]); have s3 := cell_later hb2 (a := ⟨w1.heap.size, 3, none⟩) (v := .int .i64 qy) (by simp [go_sem]); have s4 := cell_later hb2 (a := ⟨w1.heap.size, 4, none⟩) (v := .int .i64 ax) (by simp [go_sem]); have s5 := cell_later hb2 (a := ⟨w1.heap.size, 5, none⟩) (v := .int .i64 ay) (by simp [go_sem]); have HB2 := hid (grew (grew HB1.out hHeld) hb2); have hs2 : w1.heap.size + 1 < w2.heap.size := (by have := hb2.size; simp at this; omega); have hs3 : w1.heap.size < w2.heap.size := (by omega); clear hb2)
      all_goals go_ret
      all_goals refine ⟨ret_bool ?_, grew HB2.out (by go_grown)⟩
      all_goals first | exact bt_a h0 | exact bt_b h0 (by assumption)
  · go_enter Tryd.func110, Tryd.ntmps110
    go_wp2_with (go_at_call 75; refine (sideOfImpl_c _ _ _ _ _ _ _ (cell_later HB.out C0.out)).mono ?_; rintro e w1 ⟨rfl, hb⟩; have HB1 := hid (grew HB.out hb); clear hb)
    go_ret
    exact ⟨ret_bool (by unfold btB; rw [decide_eq_false h0]; rfl), HB1.out⟩
end Go.Proofs.YtegmlemejmahiaaDoor
