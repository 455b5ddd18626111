/-
  Points, sets and hulls: contracts for the walks (TwA, HMath, HSide, HOwn, HList, HHalf, HBack, HLift, HIter, HChain0, HChain, HLow in one text).
  Conditions: as each theorem states them.
-/
import Derived.Test.YtipiamhnngmjmaaDoorB1
import Derived.Deep.RegionHeld3
import Derived.Deep.DeepCutAuto
import Derived.RangeFuncNested
import Derived.RangeFuncBound
import Derived.RangeFuncCalls
import Derived.RangeFuncLeaves
import Derived.RangeFuncBox
import Derived.Maps.AppendAt
import Derived.Shelf.Abstract
import Derived.Shelf.RegionOpen
import Derived.WalkKit
import Derived.OwnWalkIn
import Derived.TacticsInMore
import Derived.LoopNIn
import Derived.LoopIn
namespace Go.Proofs.YtipiamhnngmjmaaDoor
open Go.RowKit
set_option linter.unusedVariables false
set_option maxRecDepth 8000
theorem ta0 (w : World) (x0 y0 x1 y1 x2 y2 : Int) : (w.alloc (.cells #[.int .i64 x0, .int .i64 y0, .int .i64 x1, .int .i64 y1, .int .i64 x2, .int .i64 y2] 108)).cell? ⟨w.heap.size, 0, none⟩ = some (.int .i64 x0) := by simp [go_sem]
theorem ta1 (w : World) (x0 y0 x1 y1 x2 y2 : Int) : (w.alloc (.cells #[.int .i64 x0, .int .i64 y0, .int .i64 x1, .int .i64 y1, .int .i64 x2, .int .i64 y2] 108)).cell? ⟨w.heap.size, 1, none⟩ = some (.int .i64 y0) := by simp [go_sem]
theorem ta2 (w : World) (x0 y0 x1 y1 x2 y2 : Int) : (w.alloc (.cells #[.int .i64 x0, .int .i64 y0, .int .i64 x1, .int .i64 y1, .int .i64 x2, .int .i64 y2] 108)).cell? ⟨w.heap.size, 2, none⟩ = some (.int .i64 x1) := by simp [go_sem]
theorem ta3 (w : World) (x0 y0 x1 y1 x2 y2 : Int) : (w.alloc (.cells #[.int .i64 x0, .int .i64 y0, .int .i64 x1, .int .i64 y1, .int .i64 x2, .int .i64 y2] 108)).cell? ⟨w.heap.size, 3, none⟩ = some (.int .i64 y1) := by simp [go_sem]
theorem ta4 (w : World) (x0 y0 x1 y1 x2 y2 : Int) : (w.alloc (.cells #[.int .i64 x0, .int .i64 y0, .int .i64 x1, .int .i64 y1, .int .i64 x2, .int .i64 y2] 108)).cell? ⟨w.heap.size, 4, none⟩ = some (.int .i64 x2) := by simp [go_sem]
theorem ta5 (w : World) (x0 y0 x1 y1 x2 y2 : Int) : (w.alloc (.cells #[.int .i64 x0, .int .i64 y0, .int .i64 x1, .int .i64 y1, .int .i64 x2, .int .i64 y2] 108)).cell? ⟨w.heap.size, 5, none⟩ = some (.int .i64 y2) := by simp [go_sem]
set_option maxHeartbeats 4000000 in
theorem twA_c (x0 y0 x1 y1 x2 y2 : Int) (w : World) : Calls Tryd.prog 107 #[.agg #[.int .i64 x0, .int .i64 y0, .int .i64 x1, .int .i64 y1, .int .i64 x2, .int .i64 y2]] w fun e w' => e = .returned (.int .i64 (wrap64 (wrap64 (wrap64 (x1 - x0) * wrap64 (y2 - y0)) - wrap64 (wrap64 (y1 - y0) * wrap64 (x2 - x0))))) ∧ Below w.heap.size w w' := by
  go_enter Tryd.func107, Tryd.ntmps107
  go_upto_region 1 with fail
  refine wp_region_held_drew (S := (fun u => Below (w.alloc (.cells #[.int .i64 x0, .int .i64 y0, .int .i64 x1, .int .i64 y1, .int .i64 x2, .int .i64 y2] 108)).heap.size (w.alloc (.cells #[.int .i64 x0, .int .i64 y0, .int .i64 x1, .int .i64 y1, .int .i64 x2, .int .i64 y2] 108)) u)) (by kernel_rfl) ?_ (fun hHeld => ?_)
  · exact (Below.refl _ _).drew
  refine wpAnyH_take (i := 0) (oi := { dst := some 6, op := Op.indexAddr 108 (Operand.tmp 1) (Operand.const (Value.int IntKind.i64 0)), type := 0, pos := "l4_inside.go:117", after := #[], guard := none }) (v := ?v1rx0) rfl (by kernel_rfl) (by kernel_rfl) (by kernel_rfl) (fun _ _ _ h => h) (Or.inl ⟨by rfl, ?hy1rx0⟩) (by with_reducible assumption) ?rest1rx0
  case hy1rx0 => (intro wS hSw; (try dsimp only at hSw); have z0 := cell_later hSw (ta0 w x0 y0 x1 y1 x2 y2); have z1 := cell_later hSw (ta1 w x0 y0 x1 y1 x2 y2); have z2 := cell_later hSw (ta2 w x0 y0 x1 y1 x2 y2); have z3 := cell_later hSw (ta3 w x0 y0 x1 y1 x2 y2); have z4 := cell_later hSw (ta4 w x0 y0 x1 y1 x2 y2); have z5 := cell_later hSw (ta5 w x0 y0 x1 y1 x2 y2); clear hSw; go_simp; try with_reducible rfl)
  case' rest1rx0 => (try simp only [Act.put, List.setIfInBounds_toArray, List.set_cons_zero, List.set_cons_succ])
  refine wpAnyH_take (i := 1) (oi := { dst := some 7, op := Op.load 26 (Operand.tmp 6), type := 26, pos := "l4_inside.go:117", after := #[{ on := 0, ground := Ground.data }], guard := none }) (v := ?v1rx1) rfl (by kernel_rfl) (by kernel_rfl) (by kernel_rfl) (fun _ _ _ h => h) (Or.inl ⟨by rfl, ?hy1rx1⟩) (by with_reducible assumption) ?rest1rx1
  case hy1rx1 => (intro wS hSw; (try dsimp only at hSw); have z0 := cell_later hSw (ta0 w x0 y0 x1 y1 x2 y2); have z1 := cell_later hSw (ta1 w x0 y0 x1 y1 x2 y2); have z2 := cell_later hSw (ta2 w x0 y0 x1 y1 x2 y2); have z3 := cell_later hSw (ta3 w x0 y0 x1 y1 x2 y2); have z4 := cell_later hSw (ta4 w x0 y0 x1 y1 x2 y2); have z5 := cell_later hSw (ta5 w x0 y0 x1 y1 x2 y2); clear hSw; go_simp; try with_reducible rfl)
  case' rest1rx1 => (try simp only [Act.put, List.setIfInBounds_toArray, List.set_cons_zero, List.set_cons_succ])
  refine wpAnyH_take (i := 2) (oi := { dst := some 8, op := Op.indexAddr 108 (Operand.tmp 1) (Operand.const (Value.int IntKind.i64 1)), type := 0, pos := "l4_inside.go:117", after := #[{ on := 9, ground := Ground.gcOnly Departure.lateStores }], guard := none }) (v := ?v1rx2) rfl (by kernel_rfl) (by kernel_rfl) (by kernel_rfl) (fun _ _ _ h => h) (Or.inl ⟨by rfl, ?hy1rx2⟩) (by with_reducible assumption) ?rest1rx2
  case hy1rx2 => (intro wS hSw; (try dsimp only at hSw); have z0 := cell_later hSw (ta0 w x0 y0 x1 y1 x2 y2); have z1 := cell_later hSw (ta1 w x0 y0 x1 y1 x2 y2); have z2 := cell_later hSw (ta2 w x0 y0 x1 y1 x2 y2); have z3 := cell_later hSw (ta3 w x0 y0 x1 y1 x2 y2); have z4 := cell_later hSw (ta4 w x0 y0 x1 y1 x2 y2); have z5 := cell_later hSw (ta5 w x0 y0 x1 y1 x2 y2); clear hSw; go_simp; try with_reducible rfl)
  case' rest1rx2 => (try simp only [Act.put, List.setIfInBounds_toArray, List.set_cons_zero, List.set_cons_succ])
  refine wpAnyH_take (i := 3) (oi := { dst := some 9, op := Op.load 26 (Operand.tmp 8), type := 26, pos := "l4_inside.go:117", after := #[{ on := 2, ground := Ground.data }, { on := 9, ground := Ground.gcOnly Departure.lateStores }], guard := none }) (v := ?v1rx3) rfl (by kernel_rfl) (by kernel_rfl) (by kernel_rfl) (fun _ _ _ h => h) (Or.inl ⟨by rfl, ?hy1rx3⟩) (by with_reducible assumption) ?rest1rx3
  case hy1rx3 => (intro wS hSw; (try dsimp only at hSw); have z0 := cell_later hSw (ta0 w x0 y0 x1 y1 x2 y2); have z1 := cell_later hSw (ta1 w x0 y0 x1 y1 x2 y2); have z2 := cell_later hSw (ta2 w x0 y0 x1 y1 x2 y2); have z3 := cell_later hSw (ta3 w x0 y0 x1 y1 x2 y2); have z4 := cell_later hSw (ta4 w x0 y0 x1 y1 x2 y2); have z5 := cell_later hSw (ta5 w x0 y0 x1 y1 x2 y2); clear hSw; go_simp; try with_reducible rfl)
  case' rest1rx3 => (try simp only [Act.put, List.setIfInBounds_toArray, List.set_cons_zero, List.set_cons_succ])
  refine wpAnyH_take (i := 4) (oi := { dst := some 10, op := Op.indexAddr 108 (Operand.tmp 1) (Operand.const (Value.int IntKind.i64 2)), type := 0, pos := "l4_inside.go:117", after := #[{ on := 10, ground := Ground.gcOnly Departure.lateStores }], guard := none }) (v := ?v1rx4) rfl (by kernel_rfl) (by kernel_rfl) (by kernel_rfl) (fun _ _ _ h => h) (Or.inl ⟨by rfl, ?hy1rx4⟩) (by with_reducible assumption) ?rest1rx4
  case hy1rx4 => (intro wS hSw; (try dsimp only at hSw); have z0 := cell_later hSw (ta0 w x0 y0 x1 y1 x2 y2); have z1 := cell_later hSw (ta1 w x0 y0 x1 y1 x2 y2); have z2 := cell_later hSw (ta2 w x0 y0 x1 y1 x2 y2); have z3 := cell_later hSw (ta3 w x0 y0 x1 y1 x2 y2); have z4 := cell_later hSw (ta4 w x0 y0 x1 y1 x2 y2); have z5 := cell_later hSw (ta5 w x0 y0 x1 y1 x2 y2); clear hSw; go_simp; try with_reducible rfl)
  case' rest1rx4 => (try simp only [Act.put, List.setIfInBounds_toArray, List.set_cons_zero, List.set_cons_succ])
  refine wpAnyH_take (i := 5) (oi := { dst := some 11, op := Op.load 26 (Operand.tmp 10), type := 26, pos := "l4_inside.go:117", after := #[{ on := 4, ground := Ground.data }, { on := 10, ground := Ground.gcOnly Departure.lateStores }], guard := none }) (v := ?v1rx5) rfl (by kernel_rfl) (by kernel_rfl) (by kernel_rfl) (fun _ _ _ h => h) (Or.inl ⟨by rfl, ?hy1rx5⟩) (by with_reducible assumption) ?rest1rx5
  case hy1rx5 => (intro wS hSw; (try dsimp only at hSw); have z0 := cell_later hSw (ta0 w x0 y0 x1 y1 x2 y2); have z1 := cell_later hSw (ta1 w x0 y0 x1 y1 x2 y2); have z2 := cell_later hSw (ta2 w x0 y0 x1 y1 x2 y2); have z3 := cell_later hSw (ta3 w x0 y0 x1 y1 x2 y2); have z4 := cell_later hSw (ta4 w x0 y0 x1 y1 x2 y2); have z5 := cell_later hSw (ta5 w x0 y0 x1 y1 x2 y2); clear hSw; go_simp; try with_reducible rfl)
  case' rest1rx5 => (try simp only [Act.put, List.setIfInBounds_toArray, List.set_cons_zero, List.set_cons_succ])
  refine wpAnyH_ready (rs := [6, 7, 8]) (by kernel_rfl) (by simp) ?_
  refine (AllReadyH.cons (o := { dst := some 3, op := Op.alloc 26, type := 0, pos := "l4_inside.go:117", after := #[], guard := none }) rfl (fun K hK => ?_) (AllReadyH.cons (o := { dst := some 4, op := Op.alloc 26, type := 0, pos := "l4_inside.go:117", after := #[], guard := none }) rfl (fun K hK => ?_) (AllReadyH.cons (o := { dst := some 5, op := Op.alloc 26, type := 0, pos := "l4_inside.go:117", after := #[], guard := none }) rfl (fun K hK => ?_) AllReadyH.nil)))
  · go_simp
    refine hK.out _ _ ?_ (fun hHeld => ?_)
    · exact (by go_grown)
    clear hK K
    try simp only [Act.put, List.setIfInBounds_toArray, List.set_cons_zero, List.set_cons_succ]
    refine wpAnyH_ready (rs := [7, 8]) (by kernel_rfl) (by simp) ?_
    refine (AllReadyH.cons (o := { dst := some 4, op := Op.alloc 26, type := 0, pos := "l4_inside.go:117", after := #[], guard := none }) rfl (fun K hK => ?_) (AllReadyH.cons (o := { dst := some 5, op := Op.alloc 26, type := 0, pos := "l4_inside.go:117", after := #[], guard := none }) rfl (fun K hK => ?_) AllReadyH.nil))
    · go_simp
      refine hK.out _ _ ?_ (fun hHeld => ?_)
      · exact (by go_grown)
      clear hK K
      try simp only [Act.put, List.setIfInBounds_toArray, List.set_cons_zero, List.set_cons_succ]
      refine wpAnyH_ready (rs := [8]) (by kernel_rfl) (by simp) ?_
      refine AllReadyH.cons (o := { dst := some 5, op := Op.alloc 26, type := 0, pos := "l4_inside.go:117", after := #[], guard := none }) rfl (fun K hK => ?_) AllReadyH.nil
      go_simp
      refine hK.out _ _ ?_ (fun hHeld => ?_)
      · exact (by go_grown)
      clear hK K
      try simp only [Act.put, List.setIfInBounds_toArray, List.set_cons_zero, List.set_cons_succ]
      refine wpAnyH_ready (rs := [9]) (by kernel_rfl) (by simp) ?_
      refine AllReadyH.cons (o := { dst := none, op := Op.store 26 (Operand.tmp 3) (Operand.tmp 7), type := 0, pos := "l4_inside.go:117", after := #[{ on := 6, ground := Ground.data }, { on := 1, ground := Ground.data }, { on := 0, ground := Ground.phase }, { on := 1, ground := Ground.phase }, { on := 2, ground := Ground.textOnly Departure.lateStores }, { on := 3, ground := Ground.textOnly Departure.lateStores }, { on := 4, ground := Ground.textOnly Departure.lateStores }, { on := 5, ground := Ground.textOnly Departure.lateStores }, { on := 6, ground := Ground.phase }, { on := 7, ground := Ground.phase }, { on := 8, ground := Ground.phase }], guard := none }) rfl (fun K hK => ?_) AllReadyH.nil
      go_simp
      refine hK.out _ _ ?_ (fun hHeld => ?_)
      · exact (by go_grown)
      clear hK K
      try simp only [Act.put, List.setIfInBounds_toArray, List.set_cons_zero, List.set_cons_succ]
      refine wpAnyH_ready (rs := [10]) (by kernel_rfl) (by simp) ?_
      refine AllReadyH.cons (o := { dst := none, op := Op.store 26 (Operand.tmp 4) (Operand.tmp 9), type := 0, pos := "l4_inside.go:117", after := #[{ on := 7, ground := Ground.data }, { on := 3, ground := Ground.data }, { on := 9, ground := Ground.chain }, { on := 0, ground := Ground.phase }, { on := 1, ground := Ground.phase }, { on := 2, ground := Ground.phase }, { on := 3, ground := Ground.phase }, { on := 4, ground := Ground.textOnly Departure.lateStores }, { on := 5, ground := Ground.textOnly Departure.lateStores }, { on := 6, ground := Ground.phase }, { on := 7, ground := Ground.phase }, { on := 8, ground := Ground.phase }, { on := 9, ground := Ground.phase }], guard := none }) rfl (fun K hK => ?_) AllReadyH.nil
      go_simp
      refine hK.out _ _ ?_ (fun hHeld => ?_)
      · exact (by go_grown)
      clear hK K
      try simp only [Act.put, List.setIfInBounds_toArray, List.set_cons_zero, List.set_cons_succ]
      refine wpAnyH_ready (rs := [11]) (by kernel_rfl) (by simp) ?_
      refine AllReadyH.cons (o := { dst := none, op := Op.store 26 (Operand.tmp 5) (Operand.tmp 11), type := 0, pos := "l4_inside.go:117", after := #[{ on := 8, ground := Ground.data }, { on := 5, ground := Ground.data }, { on := 10, ground := Ground.chain }, { on := 0, ground := Ground.phase }, { on := 1, ground := Ground.phase }, { on := 2, ground := Ground.phase }, { on := 3, ground := Ground.phase }, { on := 4, ground := Ground.phase }, { on := 5, ground := Ground.phase }, { on := 6, ground := Ground.phase }, { on := 7, ground := Ground.phase }, { on := 8, ground := Ground.phase }, { on := 9, ground := Ground.phase }, { on := 10, ground := Ground.phase }], guard := none }) rfl (fun K hK => ?_) AllReadyH.nil
      go_simp
      refine hK.out _ _ ?_ (fun hHeld => ?_)
      · exact (by go_grown)
      clear hK K
      try simp only [Act.put, List.setIfInBounds_toArray, List.set_cons_zero, List.set_cons_succ]
      refine wpAnyH_done (by kernel_rfl) ?_ _
      go_wp2
      go_ret
      exact ⟨rfl, by go_grown⟩
    · go_simp
      refine hK.out _ _ ?_ (fun hHeld => ?_)
      · exact (by go_grown)
      clear hK K
      try simp only [Act.put, List.setIfInBounds_toArray, List.set_cons_zero, List.set_cons_succ]
      refine wpAnyH_ready (rs := [7]) (by kernel_rfl) (by simp) ?_
      refine AllReadyH.cons (o := { dst := some 4, op := Op.alloc 26, type := 0, pos := "l4_inside.go:117", after := #[], guard := none }) rfl (fun K hK => ?_) AllReadyH.nil
      go_simp
      refine hK.out _ _ ?_ (fun hHeld => ?_)
      · exact (by go_grown)
      clear hK K
      try simp only [Act.put, List.setIfInBounds_toArray, List.set_cons_zero, List.set_cons_succ]
      refine wpAnyH_ready (rs := [9]) (by kernel_rfl) (by simp) ?_
      refine AllReadyH.cons (o := { dst := none, op := Op.store 26 (Operand.tmp 3) (Operand.tmp 7), type := 0, pos := "l4_inside.go:117", after := #[{ on := 6, ground := Ground.data }, { on := 1, ground := Ground.data }, { on := 0, ground := Ground.phase }, { on := 1, ground := Ground.phase }, { on := 2, ground := Ground.textOnly Departure.lateStores }, { on := 3, ground := Ground.textOnly Departure.lateStores }, { on := 4, ground := Ground.textOnly Departure.lateStores }, { on := 5, ground := Ground.textOnly Departure.lateStores }, { on := 6, ground := Ground.phase }, { on := 7, ground := Ground.phase }, { on := 8, ground := Ground.phase }], guard := none }) rfl (fun K hK => ?_) AllReadyH.nil
      go_simp
      refine hK.out _ _ ?_ (fun hHeld => ?_)
      · exact (by go_grown)
      clear hK K
      try simp only [Act.put, List.setIfInBounds_toArray, List.set_cons_zero, List.set_cons_succ]
      refine wpAnyH_ready (rs := [10]) (by kernel_rfl) (by simp) ?_
      refine AllReadyH.cons (o := { dst := none, op := Op.store 26 (Operand.tmp 4) (Operand.tmp 9), type := 0, pos := "l4_inside.go:117", after := #[{ on := 7, ground := Ground.data }, { on := 3, ground := Ground.data }, { on := 9, ground := Ground.chain }, { on := 0, ground := Ground.phase }, { on := 1, ground := Ground.phase }, { on := 2, ground := Ground.phase }, { on := 3, ground := Ground.phase }, { on := 4, ground := Ground.textOnly Departure.lateStores }, { on := 5, ground := Ground.textOnly Departure.lateStores }, { on := 6, ground := Ground.phase }, { on := 7, ground := Ground.phase }, { on := 8, ground := Ground.phase }, { on := 9, ground := Ground.phase }], guard := none }) rfl (fun K hK => ?_) AllReadyH.nil
      go_simp
      refine hK.out _ _ ?_ (fun hHeld => ?_)
      · exact (by go_grown)
      clear hK K
      try simp only [Act.put, List.setIfInBounds_toArray, List.set_cons_zero, List.set_cons_succ]
      refine wpAnyH_ready (rs := [11]) (by kernel_rfl) (by simp) ?_
      refine AllReadyH.cons (o := { dst := none, op := Op.store 26 (Operand.tmp 5) (Operand.tmp 11), type := 0, pos := "l4_inside.go:117", after := #[{ on := 8, ground := Ground.data }, { on := 5, ground := Ground.data }, { on := 10, ground := Ground.chain }, { on := 0, ground := Ground.phase }, { on := 1, ground := Ground.phase }, { on := 2, ground := Ground.phase }, { on := 3, ground := Ground.phase }, { on := 4, ground := Ground.phase }, { on := 5, ground := Ground.phase }, { on := 6, ground := Ground.phase }, { on := 7, ground := Ground.phase }, { on := 8, ground := Ground.phase }, { on := 9, ground := Ground.phase }, { on := 10, ground := Ground.phase }], guard := none }) rfl (fun K hK => ?_) AllReadyH.nil
      go_simp
      refine hK.out _ _ ?_ (fun hHeld => ?_)
      · exact (by go_grown)
      clear hK K
      try simp only [Act.put, List.setIfInBounds_toArray, List.set_cons_zero, List.set_cons_succ]
      refine wpAnyH_done (by kernel_rfl) ?_ _
      go_wp2
      go_ret
      exact ⟨rfl, by go_grown⟩
  · go_simp
    refine hK.out _ _ ?_ (fun hHeld => ?_)
    · exact (by go_grown)
    clear hK K
    try simp only [Act.put, List.setIfInBounds_toArray, List.set_cons_zero, List.set_cons_succ]
    refine wpAnyH_ready (rs := [6, 8]) (by kernel_rfl) (by simp) ?_
    refine (AllReadyH.cons (o := { dst := some 3, op := Op.alloc 26, type := 0, pos := "l4_inside.go:117", after := #[], guard := none }) rfl (fun K hK => ?_) (AllReadyH.cons (o := { dst := some 5, op := Op.alloc 26, type := 0, pos := "l4_inside.go:117", after := #[], guard := none }) rfl (fun K hK => ?_) AllReadyH.nil))
    · go_simp
      refine hK.out _ _ ?_ (fun hHeld => ?_)
      · exact (by go_grown)
      clear hK K
      try simp only [Act.put, List.setIfInBounds_toArray, List.set_cons_zero, List.set_cons_succ]
      refine wpAnyH_ready (rs := [8]) (by kernel_rfl) (by simp) ?_
      refine AllReadyH.cons (o := { dst := some 5, op := Op.alloc 26, type := 0, pos := "l4_inside.go:117", after := #[], guard := none }) rfl (fun K hK => ?_) AllReadyH.nil
      go_simp
      refine hK.out _ _ ?_ (fun hHeld => ?_)
      · exact (by go_grown)
      clear hK K
      try simp only [Act.put, List.setIfInBounds_toArray, List.set_cons_zero, List.set_cons_succ]
      refine wpAnyH_ready (rs := [9]) (by kernel_rfl) (by simp) ?_
      refine AllReadyH.cons (o := { dst := none, op := Op.store 26 (Operand.tmp 3) (Operand.tmp 7), type := 0, pos := "l4_inside.go:117", after := #[{ on := 6, ground := Ground.data }, { on := 1, ground := Ground.data }, { on := 0, ground := Ground.phase }, { on := 1, ground := Ground.phase }, { on := 2, ground := Ground.textOnly Departure.lateStores }, { on := 3, ground := Ground.textOnly Departure.lateStores }, { on := 4, ground := Ground.textOnly Departure.lateStores }, { on := 5, ground := Ground.textOnly Departure.lateStores }, { on := 6, ground := Ground.phase }, { on := 7, ground := Ground.phase }, { on := 8, ground := Ground.phase }], guard := none }) rfl (fun K hK => ?_) AllReadyH.nil
      go_simp
      refine hK.out _ _ ?_ (fun hHeld => ?_)
      · exact (by go_grown)
      clear hK K
      try simp only [Act.put, List.setIfInBounds_toArray, List.set_cons_zero, List.set_cons_succ]
      refine wpAnyH_ready (rs := [10]) (by kernel_rfl) (by simp) ?_
      refine AllReadyH.cons (o := { dst := none, op := Op.store 26 (Operand.tmp 4) (Operand.tmp 9), type := 0, pos := "l4_inside.go:117", after := #[{ on := 7, ground := Ground.data }, { on := 3, ground := Ground.data }, { on := 9, ground := Ground.chain }, { on := 0, ground := Ground.phase }, { on := 1, ground := Ground.phase }, { on := 2, ground := Ground.phase }, { on := 3, ground := Ground.phase }, { on := 4, ground := Ground.textOnly Departure.lateStores }, { on := 5, ground := Ground.textOnly Departure.lateStores }, { on := 6, ground := Ground.phase }, { on := 7, ground := Ground.phase }, { on := 8, ground := Ground.phase }, { on := 9, ground := Ground.phase }], guard := none }) rfl (fun K hK => ?_) AllReadyH.nil
      go_simp
      refine hK.out _ _ ?_ (fun hHeld => ?_)
      · exact (by go_grown)
      clear hK K
      try simp only [Act.put, List.setIfInBounds_toArray, List.set_cons_zero, List.set_cons_succ]
      refine wpAnyH_ready (rs := [11]) (by kernel_rfl) (by simp) ?_
      refine AllReadyH.cons (o := { dst := none, op := Op.store 26 (Operand.tmp 5) (Operand.tmp 11), type := 0, pos := "l4_inside.go:117", after := #[{ on := 8, ground := Ground.data }, { on := 5, ground := Ground.data }, { on := 10, ground := Ground.chain }, { on := 0, ground := Ground.phase }, { on := 1, ground := Ground.phase }, { on := 2, ground := Ground.phase }, { on := 3, ground := Ground.phase }, { on := 4, ground := Ground.phase }, { on := 5, ground := Ground.phase }, { on := 6, ground := Ground.phase }, { on := 7, ground := Ground.phase }, { on := 8, ground := Ground.phase }, { on := 9, ground := Ground.phase }, { on := 10, ground := Ground.phase }], guard := none }) rfl (fun K hK => ?_) AllReadyH.nil
      go_simp
      refine hK.out _ _ ?_ (fun hHeld => ?_)
      · exact (by go_grown)
      clear hK K
      try simp only [Act.put, List.setIfInBounds_toArray, List.set_cons_zero, List.set_cons_succ]
      refine wpAnyH_done (by kernel_rfl) ?_ _
      go_wp2
      go_ret
      exact ⟨rfl, by go_grown⟩
    · go_simp
      refine hK.out _ _ ?_ (fun hHeld => ?_)
      · exact (by go_grown)
      clear hK K
      try simp only [Act.put, List.setIfInBounds_toArray, List.set_cons_zero, List.set_cons_succ]
      refine wpAnyH_ready (rs := [6]) (by kernel_rfl) (by simp) ?_
      refine AllReadyH.cons (o := { dst := some 3, op := Op.alloc 26, type := 0, pos := "l4_inside.go:117", after := #[], guard := none }) rfl (fun K hK => ?_) AllReadyH.nil
      go_simp
      refine hK.out _ _ ?_ (fun hHeld => ?_)
      · exact (by go_grown)
      clear hK K
      try simp only [Act.put, List.setIfInBounds_toArray, List.set_cons_zero, List.set_cons_succ]
      refine wpAnyH_ready (rs := [9]) (by kernel_rfl) (by simp) ?_
      refine AllReadyH.cons (o := { dst := none, op := Op.store 26 (Operand.tmp 3) (Operand.tmp 7), type := 0, pos := "l4_inside.go:117", after := #[{ on := 6, ground := Ground.data }, { on := 1, ground := Ground.data }, { on := 0, ground := Ground.phase }, { on := 1, ground := Ground.phase }, { on := 2, ground := Ground.textOnly Departure.lateStores }, { on := 3, ground := Ground.textOnly Departure.lateStores }, { on := 4, ground := Ground.textOnly Departure.lateStores }, { on := 5, ground := Ground.textOnly Departure.lateStores }, { on := 6, ground := Ground.phase }, { on := 7, ground := Ground.phase }, { on := 8, ground := Ground.phase }], guard := none }) rfl (fun K hK => ?_) AllReadyH.nil
      go_simp
      refine hK.out _ _ ?_ (fun hHeld => ?_)
      · exact (by go_grown)
      clear hK K
      try simp only [Act.put, List.setIfInBounds_toArray, List.set_cons_zero, List.set_cons_succ]
      refine wpAnyH_ready (rs := [10]) (by kernel_rfl) (by simp) ?_
      refine AllReadyH.cons (o := { dst := none, op := Op.store 26 (Operand.tmp 4) (Operand.tmp 9), type := 0, pos := "l4_inside.go:117", after := #[{ on := 7, ground := Ground.data }, { on := 3, ground := Ground.data }, { on := 9, ground := Ground.chain }, { on := 0, ground := Ground.phase }, { on := 1, ground := Ground.phase }, { on := 2, ground := Ground.phase }, { on := 3, ground := Ground.phase }, { on := 4, ground := Ground.textOnly Departure.lateStores }, { on := 5, ground := Ground.textOnly Departure.lateStores }, { on := 6, ground := Ground.phase }, { on := 7, ground := Ground.phase }, { on := 8, ground := Ground.phase }, { on := 9, ground := Ground.phase }], guard := none }) rfl (fun K hK => ?_) AllReadyH.nil
      go_simp
      refine hK.out _ _ ?_ (fun hHeld => ?_)
      · exact (by go_grown)
      clear hK K
      try simp only [Act.put, List.setIfInBounds_toArray, List.set_cons_zero, List.set_cons_succ]
      refine wpAnyH_ready (rs := [11]) (by kernel_rfl) (by simp) ?_
      refine AllReadyH.cons (o := { dst := none, op := Op.store 26 (Operand.tmp 5) (Operand.tmp 11), type := 0, pos := "l4_inside.go:117", after := #[{ on := 8, ground := Ground.data }, { on := 5, ground := Ground.data }, { on := 10, ground := Ground.chain }, { on := 0, ground := Ground.phase }, { on := 1, ground := Ground.phase }, { on := 2, ground := Ground.phase }, { on := 3, ground := Ground.phase }, { on := 4, ground := Ground.phase }, { on := 5, ground := Ground.phase }, { on := 6, ground := Ground.phase }, { on := 7, ground := Ground.phase }, { on := 8, ground := Ground.phase }, { on := 9, ground := Ground.phase }, { on := 10, ground := Ground.phase }], guard := none }) rfl (fun K hK => ?_) AllReadyH.nil
      go_simp
      refine hK.out _ _ ?_ (fun hHeld => ?_)
      · exact (by go_grown)
      clear hK K
      try simp only [Act.put, List.setIfInBounds_toArray, List.set_cons_zero, List.set_cons_succ]
      refine wpAnyH_done (by kernel_rfl) ?_ _
      go_wp2
      go_ret
      exact ⟨rfl, by go_grown⟩
  · go_simp
    refine hK.out _ _ ?_ (fun hHeld => ?_)
    · exact (by go_grown)
    clear hK K
    try simp only [Act.put, List.setIfInBounds_toArray, List.set_cons_zero, List.set_cons_succ]
    refine wpAnyH_ready (rs := [6, 7]) (by kernel_rfl) (by simp) ?_
    refine (AllReadyH.cons (o := { dst := some 3, op := Op.alloc 26, type := 0, pos := "l4_inside.go:117", after := #[], guard := none }) rfl (fun K hK => ?_) (AllReadyH.cons (o := { dst := some 4, op := Op.alloc 26, type := 0, pos := "l4_inside.go:117", after := #[], guard := none }) rfl (fun K hK => ?_) AllReadyH.nil))
    · go_simp
      refine hK.out _ _ ?_ (fun hHeld => ?_)
      · exact (by go_grown)
      clear hK K
      try simp only [Act.put, List.setIfInBounds_toArray, List.set_cons_zero, List.set_cons_succ]
      refine wpAnyH_ready (rs := [7]) (by kernel_rfl) (by simp) ?_
      refine AllReadyH.cons (o := { dst := some 4, op := Op.alloc 26, type := 0, pos := "l4_inside.go:117", after := #[], guard := none }) rfl (fun K hK => ?_) AllReadyH.nil
      go_simp
      refine hK.out _ _ ?_ (fun hHeld => ?_)
      · exact (by go_grown)
      clear hK K
      try simp only [Act.put, List.setIfInBounds_toArray, List.set_cons_zero, List.set_cons_succ]
      refine wpAnyH_ready (rs := [9]) (by kernel_rfl) (by simp) ?_
      refine AllReadyH.cons (o := { dst := none, op := Op.store 26 (Operand.tmp 3) (Operand.tmp 7), type := 0, pos := "l4_inside.go:117", after := #[{ on := 6, ground := Ground.data }, { on := 1, ground := Ground.data }, { on := 0, ground := Ground.phase }, { on := 1, ground := Ground.phase }, { on := 2, ground := Ground.textOnly Departure.lateStores }, { on := 3, ground := Ground.textOnly Departure.lateStores }, { on := 4, ground := Ground.textOnly Departure.lateStores }, { on := 5, ground := Ground.textOnly Departure.lateStores }, { on := 6, ground := Ground.phase }, { on := 7, ground := Ground.phase }, { on := 8, ground := Ground.phase }], guard := none }) rfl (fun K hK => ?_) AllReadyH.nil
      go_simp
      refine hK.out _ _ ?_ (fun hHeld => ?_)
      · exact (by go_grown)
      clear hK K
      try simp only [Act.put, List.setIfInBounds_toArray, List.set_cons_zero, List.set_cons_succ]
      refine wpAnyH_ready (rs := [10]) (by kernel_rfl) (by simp) ?_
      refine AllReadyH.cons (o := { dst := none, op := Op.store 26 (Operand.tmp 4) (Operand.tmp 9), type := 0, pos := "l4_inside.go:117", after := #[{ on := 7, ground := Ground.data }, { on := 3, ground := Ground.data }, { on := 9, ground := Ground.chain }, { on := 0, ground := Ground.phase }, { on := 1, ground := Ground.phase }, { on := 2, ground := Ground.phase }, { on := 3, ground := Ground.phase }, { on := 4, ground := Ground.textOnly Departure.lateStores }, { on := 5, ground := Ground.textOnly Departure.lateStores }, { on := 6, ground := Ground.phase }, { on := 7, ground := Ground.phase }, { on := 8, ground := Ground.phase }, { on := 9, ground := Ground.phase }], guard := none }) rfl (fun K hK => ?_) AllReadyH.nil
      go_simp
      refine hK.out _ _ ?_ (fun hHeld => ?_)
      · exact (by go_grown)
      clear hK K
      try simp only [Act.put, List.setIfInBounds_toArray, List.set_cons_zero, List.set_cons_succ]
      refine wpAnyH_ready (rs := [11]) (by kernel_rfl) (by simp) ?_
      refine AllReadyH.cons (o := { dst := none, op := Op.store 26 (Operand.tmp 5) (Operand.tmp 11), type := 0, pos := "l4_inside.go:117", after := #[{ on := 8, ground := Ground.data }, { on := 5, ground := Ground.data }, { on := 10, ground := Ground.chain }, { on := 0, ground := Ground.phase }, { on := 1, ground := Ground.phase }, { on := 2, ground := Ground.phase }, { on := 3, ground := Ground.phase }, { on := 4, ground := Ground.phase }, { on := 5, ground := Ground.phase }, { on := 6, ground := Ground.phase }, { on := 7, ground := Ground.phase }, { on := 8, ground := Ground.phase }, { on := 9, ground := Ground.phase }, { on := 10, ground := Ground.phase }], guard := none }) rfl (fun K hK => ?_) AllReadyH.nil
      go_simp
      refine hK.out _ _ ?_ (fun hHeld => ?_)
      · exact (by go_grown)
      clear hK K
      try simp only [Act.put, List.setIfInBounds_toArray, List.set_cons_zero, List.set_cons_succ]
      refine wpAnyH_done (by kernel_rfl) ?_ _
      go_wp2
      go_ret
      exact ⟨rfl, by go_grown⟩
    · go_simp
      refine hK.out _ _ ?_ (fun hHeld => ?_)
      · exact (by go_grown)
      clear hK K
      try simp only [Act.put, List.setIfInBounds_toArray, List.set_cons_zero, List.set_cons_succ]
      refine wpAnyH_ready (rs := [6]) (by kernel_rfl) (by simp) ?_
      refine AllReadyH.cons (o := { dst := some 3, op := Op.alloc 26, type := 0, pos := "l4_inside.go:117", after := #[], guard := none }) rfl (fun K hK => ?_) AllReadyH.nil
      go_simp
      refine hK.out _ _ ?_ (fun hHeld => ?_)
      · exact (by go_grown)
      clear hK K
      try simp only [Act.put, List.setIfInBounds_toArray, List.set_cons_zero, List.set_cons_succ]
      refine wpAnyH_ready (rs := [9]) (by kernel_rfl) (by simp) ?_
      refine AllReadyH.cons (o := { dst := none, op := Op.store 26 (Operand.tmp 3) (Operand.tmp 7), type := 0, pos := "l4_inside.go:117", after := #[{ on := 6, ground := Ground.data }, { on := 1, ground := Ground.data }, { on := 0, ground := Ground.phase }, { on := 1, ground := Ground.phase }, { on := 2, ground := Ground.textOnly Departure.lateStores }, { on := 3, ground := Ground.textOnly Departure.lateStores }, { on := 4, ground := Ground.textOnly Departure.lateStores }, { on := 5, ground := Ground.textOnly Departure.lateStores }, { on := 6, ground := Ground.phase }, { on := 7, ground := Ground.phase }, { on := 8, ground := Ground.phase }], guard := none }) rfl (fun K hK => ?_) AllReadyH.nil
      go_simp
      refine hK.out _ _ ?_ (fun hHeld => ?_)
      · exact (by go_grown)
      clear hK K
      try simp only [Act.put, List.setIfInBounds_toArray, List.set_cons_zero, List.set_cons_succ]
      refine wpAnyH_ready (rs := [10]) (by kernel_rfl) (by simp) ?_
      refine AllReadyH.cons (o := { dst := none, op := Op.store 26 (Operand.tmp 4) (Operand.tmp 9), type := 0, pos := "l4_inside.go:117", after := #[{ on := 7, ground := Ground.data }, { on := 3, ground := Ground.data }, { on := 9, ground := Ground.chain }, { on := 0, ground := Ground.phase }, { on := 1, ground := Ground.phase }, { on := 2, ground := Ground.phase }, { on := 3, ground := Ground.phase }, { on := 4, ground := Ground.textOnly Departure.lateStores }, { on := 5, ground := Ground.textOnly Departure.lateStores }, { on := 6, ground := Ground.phase }, { on := 7, ground := Ground.phase }, { on := 8, ground := Ground.phase }, { on := 9, ground := Ground.phase }], guard := none }) rfl (fun K hK => ?_) AllReadyH.nil
      go_simp
      refine hK.out _ _ ?_ (fun hHeld => ?_)
      · exact (by go_grown)
      clear hK K
      try simp only [Act.put, List.setIfInBounds_toArray, List.set_cons_zero, List.set_cons_succ]
      refine wpAnyH_ready (rs := [11]) (by kernel_rfl) (by simp) ?_
      refine AllReadyH.cons (o := { dst := none, op := Op.store 26 (Operand.tmp 5) (Operand.tmp 11), type := 0, pos := "l4_inside.go:117", after := #[{ on := 8, ground := Ground.data }, { on := 5, ground := Ground.data }, { on := 10, ground := Ground.chain }, { on := 0, ground := Ground.phase }, { on := 1, ground := Ground.phase }, { on := 2, ground := Ground.phase }, { on := 3, ground := Ground.phase }, { on := 4, ground := Ground.phase }, { on := 5, ground := Ground.phase }, { on := 6, ground := Ground.phase }, { on := 7, ground := Ground.phase }, { on := 8, ground := Ground.phase }, { on := 9, ground := Ground.phase }, { on := 10, ground := Ground.phase }], guard := none }) rfl (fun K hK => ?_) AllReadyH.nil
      go_simp
      refine hK.out _ _ ?_ (fun hHeld => ?_)
      · exact (by go_grown)
      clear hK K
      try simp only [Act.put, List.setIfInBounds_toArray, List.set_cons_zero, List.set_cons_succ]
      refine wpAnyH_done (by kernel_rfl) ?_ _
      go_wp2
      go_ret
      exact ⟨rfl, by go_grown⟩
end Go.Proofs.YtipiamhnngmjmaaDoor
namespace Go.Proofs.YtipiamhnngmjmaaDoor
set_option linter.unusedVariables false
set_option maxRecDepth 8000
/-- The cross product. -/
def cx (u v : Int × Int) : Int := u.1 * v.2 - u.2 * v.1
def dt (u v : Int × Int) : Int := u.1 * v.1 + u.2 * v.2
def vec (a b : Int × Int) : Int × Int := (b.1 - a.1, b.2 - a.2)
/-- Twice the area that three points turn round. -/
def sd (a b c : Int × Int) : Int := (b.1 - a.1) * (c.2 - a.2) - (b.2 - a.2) * (c.1 - a.1)
theorem sd_cx (a b c : Int × Int) : sd a b c = cx (vec a b) (vec a c) := rfl
/-- v lies ahead, in the half plane that d bounds. -/
def Pos (d v : Int × Int) : Prop := 0 < cx d v ∨ (cx d v = 0 ∧ dt d v < 0)
theorem plucker (d u v w : Int × Int) : cx u w * cx d v = cx u v * cx d w + cx v w * cx d u := by unfold cx; grind
theorem sd_swap (a b c : Int × Int) : sd b a c = - sd a b c := by unfold sd; grind
theorem sd_turn (a b c : Int × Int) : sd b c a = sd a b c := by unfold sd; grind
theorem sd_end (a b : Int × Int) : sd a b b = 0 := by unfold sd; grind
theorem sd_start (a b : Int × Int) : sd a b a = 0 := by unfold sd; grind
theorem sd_step (a b c : Int × Int) : sd a b c = cx (vec a b) (vec b c) := by unfold sd cx vec; grind
theorem cx_anti (u v : Int × Int) : cx v u = - cx u v := by unfold cx; grind
theorem cx_self (u : Int × Int) : cx u u = 0 := by unfold cx; grind
/-- On the line of d. -/
theorem ray (d u v : Int × Int) (h : cx d v = 0) : cx u v * dt d d = dt d v * cx u d := by unfold cx dt at *; grind
theorem rayd (d u v : Int × Int) (h : cx d v = 0) : dt u v * dt d d = dt d v * dt u d := by unfold cx dt at *; grind
theorem lagr (u v : Int × Int) : dt u u * dt v v = dt u v * dt u v + cx u v * cx u v := by unfold cx dt; grind
theorem sq_nn (x : Int) : 0 ≤ x * x := by
  rcases Int.le_total 0 x with h | h
  · exact Int.mul_nonneg h h
  · have := Int.mul_nonneg (Int.neg_nonneg_of_nonpos h) (Int.neg_nonneg_of_nonpos h)
    rwa [Int.neg_mul_neg] at this
theorem sq_pos {x : Int} (h : x ≠ 0) : 0 < x * x := by
  have h1 := sq_nn x
  have h2 : x * x ≠ 0 := fun e => by rcases Int.mul_eq_zero.1 e with e | e <;> exact h e
  omega
theorem dd_nn (d : Int × Int) : 0 ≤ dt d d := by
  have h1 := sq_nn d.1
  have h2 := sq_nn d.2
  unfold dt
  omega
theorem dd_pos {d : Int × Int} (h : d ≠ (0, 0)) : 0 < dt d d := by
  have h1 := sq_nn d.1
  have h2 := sq_nn d.2
  unfold dt
  by_cases h3 : d.1 = 0
  · have h4 : d.2 ≠ 0 := fun e => h (Prod.ext h3 e)
    have := sq_pos h4
    omega
  · have := sq_pos h3
    omega
theorem dd_zero {d : Int × Int} (h : dt d d = 0) : d = (0, 0) := Classical.byContradiction fun hn => by have := dd_pos hn; omega
theorem nn_of_mul {a b : Int} (h : 0 ≤ a * b) (hb : 0 < b) : 0 ≤ a := by
  apply Classical.byContradiction
  intro hn
  have := Int.mul_neg_of_neg_of_pos (by omega : a < 0) hb
  omega
theorem pos_of_mul {a b : Int} (h : 0 < a * b) (hb : 0 < b) : 0 < a := by
  apply Classical.byContradiction
  intro hn
  rcases Int.lt_or_eq_of_le (show a ≤ 0 by omega) with ha | ha
  · have := Int.mul_neg_of_neg_of_pos ha hb
    omega
  · subst ha
    simp at h
theorem pos_of_mul_neg {a b : Int} (h : a * b < 0) (hb : b < 0) : 0 < a := by
  have : 0 < a * (-b) := by rw [Int.mul_neg]; omega
  exact pos_of_mul this (by omega)
theorem Pos.nn {d v : Int × Int} (h : Pos d v) : 0 ≤ cx d v := by rcases h with h | h <;> omega
theorem Pos.ne {d v : Int × Int} (h : Pos d v) : v ≠ (0, 0) := by
  rintro rfl
  simp [Pos, cx, dt] at h
theorem Pos.base {d v : Int × Int} (h : Pos d v) : d ≠ (0, 0) := by
  rintro rfl
  simp [Pos, cx, dt] at h
/-- To the left of one another, within a half plane. -/
theorem tri {d u v w : Int × Int} (hu : Pos d u) (hv : Pos d v) (hw : Pos d w) (h1 : 0 ≤ cx u v) (h2 : 0 ≤ cx v w) : 0 ≤ cx u w := by
  have hd := dd_pos hu.base
  have hun := hu.nn
  have hwn := hw.nn
  rcases hv with hv | ⟨hv, hv2⟩
  · have hp := plucker d u v w
    have p1 := Int.mul_nonneg h1 hwn
    have p2 := Int.mul_nonneg h2 hun
    exact nn_of_mul (by omega) hv
  · have r1 := ray d w v hv
    rw [cx_anti v w, cx_anti d w, Int.neg_mul, Int.mul_neg] at r1
    have q1 := Int.mul_nonneg h2 (Int.le_of_lt hd)
    have hw0 : cx d w = 0 := by
      apply Classical.byContradiction
      intro hn
      have := Int.mul_neg_of_neg_of_pos hv2 (by omega : 0 < cx d w)
      omega
    have hw2 : dt d w < 0 := by
      rcases hw with hw | ⟨_, hw⟩
      · omega
      · exact hw
    have r2 := ray d u w hw0
    rw [cx_anti d u, Int.mul_neg] at r2
    have q2 : 0 ≤ -dt d w * cx d u := Int.mul_nonneg (by omega) hun
    rw [Int.neg_mul] at q2
    exact nn_of_mul (by omega) hd
theorem tri_l {d u v w : Int × Int} (hu : Pos d u) (hv : Pos d v) (hw : Pos d w) (h1 : 0 < cx u v) (h2 : 0 ≤ cx v w) : 0 < cx u w := by
  apply Classical.byContradiction
  intro hn
  have h3 : 0 ≤ cx w u := by rw [cx_anti u w]; omega
  have h4 := tri hv hw hu h2 h3
  rw [cx_anti u v] at h4
  omega
theorem tri_r {d u v w : Int × Int} (hu : Pos d u) (hv : Pos d v) (hw : Pos d w) (h1 : 0 ≤ cx u v) (h2 : 0 < cx v w) : 0 < cx u w := by
  apply Classical.byContradiction
  intro hn
  have h3 : 0 ≤ cx w u := by rw [cx_anti u w]; omega
  have h4 := tri hw hu hv h3 h1
  rw [cx_anti v w] at h4
  omega
/-- In one line, within a half plane: in one direction. -/
theorem same_ray {d u v : Int × Int} (hu : Pos d u) (hv : Pos d v) (h : cx u v = 0) : 0 < dt u v := by
  have huu := dd_pos hu.ne
  have hvv := dd_pos hv.ne
  have r1 := ray u d v h
  have r2 := rayd u d v h
  have hl := lagr u v
  rw [h] at hl
  have hne : dt u v ≠ 0 := by
    intro e
    rw [e] at hl
    have := Int.mul_pos huu hvv
    simp only [Int.mul_zero, Int.add_zero] at hl
    omega
  rcases hu with hu | ⟨hu, hu2⟩
  · have h0 := Int.mul_nonneg hv.nn (Int.le_of_lt huu)
    have := nn_of_mul (a := dt u v) (b := cx d u) (by omega) hu
    omega
  · rw [hu, Int.mul_zero] at r1
    have hv0 : cx d v = 0 := by rcases Int.mul_eq_zero.1 r1 with e | e <;> omega
    have hv2 : dt d v < 0 := by
      rcases hv with hv | ⟨_, hv⟩
      · omega
      · exact hv
    have := Int.mul_neg_of_neg_of_pos hv2 huu
    exact pos_of_mul_neg (b := dt d u) (by omega) hu2
end Go.Proofs.YtipiamhnngmjmaaDoor
namespace Go.Proofs.YtipiamhnngmjmaaDoor
open Go.RowKit
set_option linter.unusedVariables false
set_option maxRecDepth 8000
def sg (n : Int) : Int := if n < 0 then -1 else if 0 < n then 1 else 0
def crossW (ax ay bx b_y cx cy : Int) : Int := wrap64 (wrap64 (wrap64 (bx - ax) * wrap64 (cy - ay)) - wrap64 (wrap64 (b_y - ay) * wrap64 (cx - ax)))
theorem signImpl_c (n : Int) (w : World) : Calls Tryd.prog 77 #[.int .i64 n] w fun e w' => e = .returned (.int .i64 (sg n)) ∧ w = w' := by
  by_cases h1 : n < 0
  · have e : sg n = -1 := by unfold sg; rw [if_pos h1]
    go_enter Tryd.func77, Tryd.ntmps77
    go_wp2
    go_ret
    exact ⟨by first | rfl | (rw [e]; rfl), rfl⟩
  · by_cases h2 : 0 < n
    · have e : sg n = 1 := by unfold sg; rw [if_neg h1, if_pos h2]
      go_enter Tryd.func77, Tryd.ntmps77
      go_wp2
      go_ret
      exact ⟨by first | rfl | (rw [e]; rfl), rfl⟩
    · have e : sg n = 0 := by unfold sg; rw [if_neg h1, if_neg h2]
      go_enter Tryd.func77, Tryd.ntmps77
      go_wp2
      go_ret
      exact ⟨by first | rfl | (rw [e]; rfl), rfl⟩
theorem signSpec_c (n : Int) (w : World) : Calls Tryd.prog 117 #[.int .i64 n] w fun e w' => e = .returned (.int .i64 (sg n)) ∧ w = w' := by
  by_cases h1 : n < 0
  · have e : sg n = -1 := by unfold sg; rw [if_pos h1]
    go_enter Tryd.func117, Tryd.ntmps117
    go_wp2
    go_ret
    exact ⟨by first | rfl | (rw [e]; rfl), rfl⟩
  · by_cases h2 : 0 < n
    · have e : sg n = 1 := by unfold sg; rw [if_neg h1, if_pos h2]
      go_enter Tryd.func117, Tryd.ntmps117
      go_wp2
      go_ret
      exact ⟨by first | rfl | (rw [e]; rfl), rfl⟩
    · have e : sg n = 0 := by unfold sg; rw [if_neg h1, if_neg h2]
      go_enter Tryd.func117, Tryd.ntmps117
      go_wp2
      go_ret
      exact ⟨by first | rfl | (rw [e]; rfl), rfl⟩
theorem cross_c (ax ay bx b_y cx cy : Int) (w : World) : Calls Tryd.prog 119 #[.agg #[.int .i64 ax, .int .i64 ay], .agg #[.int .i64 bx, .int .i64 b_y], .agg #[.int .i64 cx, .int .i64 cy]] w fun e w' => e = .returned (.int .i64 (crossW ax ay bx b_y cx cy)) ∧ Below w.heap.size w w' := by
  go_enter Tryd.func119, Tryd.ntmps119
  go_wp2
  go_ret
  exact ⟨rfl, by go_grown⟩
theorem side_c (ax ay bx b_y cx cy : Int) (w : World) : Calls Tryd.prog 115 #[.agg #[.int .i64 ax, .int .i64 ay], .agg #[.int .i64 bx, .int .i64 b_y], .agg #[.int .i64 cx, .int .i64 cy]] w fun e w' => e = .returned (.int .i64 (sg (crossW ax ay bx b_y cx cy))) ∧ Below w.heap.size w w' := by
  go_enter Tryd.func115, Tryd.ntmps115
  go_wp2_with (first | (go_at_call 119; refine (cross_c _ _ _ _ _ _ _).mono ?_; rintro e w' ⟨rfl, hb⟩) | (go_at_call 117; refine (signSpec_c _ _).mono ?_; rintro e w' ⟨rfl, rfl⟩))
  go_ret
  exact ⟨rfl, (by go_grown : Below w.heap.size w _).trans (hb.mono (by go_size))⟩
theorem ret_ib {a b : Int} {c d : Bool} (h : a = b) (k : c = d) : Ending.returned (.tuple #[.int .i64 a, .bool c]) = .returned (.tuple #[.int .i64 b, .bool d]) := by rw [h, k]
def sideOk (ax ay bx b_y cx cy : Int) : Bool := goodB ax ay && goodB bx b_y && goodB cx cy
def sideN (ax ay bx b_y cx cy : Int) : Int := if sideOk ax ay bx b_y cx cy then sg (crossW ax ay bx b_y cx cy) else 0
set_option maxHeartbeats 2000000 in
theorem sideOfImpl_c (ax ay bx b_y cx cy : Int) (w : World) (c0 : w.cell? ⟨0, 0, none⟩ = some (.int .i64 1000000)) : Calls Tryd.prog 118 #[.agg #[.int .i64 ax, .int .i64 ay], .agg #[.int .i64 bx, .int .i64 b_y], .agg #[.int .i64 cx, .int .i64 cy]] w fun e w' => e = .returned (.tuple #[.int .i64 (sideN ax ay bx b_y cx cy), .bool (sideOk ax ay bx b_y cx cy)]) ∧ Below w.heap.size w w' := by
  have hz : 0 < w.heap.size := World.block_lt_of_cell? w _ c0
  cases hA : goodB ax ay
  · have e : sideN ax ay bx b_y cx cy = 0 := by simp [sideN, sideOk, hA]
    have e2 : sideOk ax ay bx b_y cx cy = false := by simp [sideOk, hA]
    go_enter Tryd.func118, Tryd.ntmps118
    go_wp2_with (first | (go_at_call 48; refine (goodImpl_c _ _ _ ?_).mono ?_; exact cell_later (by go_grown : Below w.heap.size w _) c0; rintro e w' ⟨rfl, rfl⟩) | (go_at_call 77; refine (signImpl_c _ _).mono ?_; rintro e w' ⟨rfl, rfl⟩))
    go_ret2
    exact ⟨by first | rfl | exact ret_ib e.symm e2.symm, by go_grown⟩
  · cases hB : goodB bx b_y
    · have e : sideN ax ay bx b_y cx cy = 0 := by simp [sideN, sideOk, hA, hB]
      have e2 : sideOk ax ay bx b_y cx cy = false := by simp [sideOk, hA, hB]
      go_enter Tryd.func118, Tryd.ntmps118
      go_wp2_with (first | (go_at_call 48; refine (goodImpl_c _ _ _ ?_).mono ?_; exact cell_later (by go_grown : Below w.heap.size w _) c0; rintro e w' ⟨rfl, rfl⟩) | (go_at_call 77; refine (signImpl_c _ _).mono ?_; rintro e w' ⟨rfl, rfl⟩))
      go_ret2
      exact ⟨by first | rfl | exact ret_ib e.symm e2.symm, by go_grown⟩
    · cases hC : goodB cx cy
      · have e : sideN ax ay bx b_y cx cy = 0 := by simp [sideN, sideOk, hA, hB, hC]
        have e2 : sideOk ax ay bx b_y cx cy = false := by simp [sideOk, hA, hB, hC]
        go_enter Tryd.func118, Tryd.ntmps118
        go_wp2_with (first | (go_at_call 48; refine (goodImpl_c _ _ _ ?_).mono ?_; exact cell_later (by go_grown : Below w.heap.size w _) c0; rintro e w' ⟨rfl, rfl⟩) | (go_at_call 77; refine (signImpl_c _ _).mono ?_; rintro e w' ⟨rfl, rfl⟩))
        go_ret2
        exact ⟨by first | rfl | exact ret_ib e.symm e2.symm, by go_grown⟩
      · have e : sideN ax ay bx b_y cx cy = sg (crossW ax ay bx b_y cx cy) := by simp [sideN, sideOk, hA, hB, hC]
        have e2 : sideOk ax ay bx b_y cx cy = true := by simp [sideOk, hA, hB, hC]
        go_enter Tryd.func118, Tryd.ntmps118
        go_wp2_with (first | (go_at_call 48; refine (goodImpl_c _ _ _ ?_).mono ?_; exact cell_later (by go_grown : Below w.heap.size w _) c0; rintro e w' ⟨rfl, rfl⟩) | (go_at_call 107; refine (twA_c _ _ _ _ _ _ _).mono ?_; rintro e w1 ⟨rfl, hb1⟩) | (go_at_call 77; refine (signImpl_c _ _).mono ?_; rintro e w' ⟨rfl, rfl⟩))
        go_ret2
        exact ⟨by first | rfl | exact ret_ib e.symm e2.symm, (by go_grown : Below w.heap.size w _).trans (hb1.mono (by go_size))⟩
/-- Whether three points turn left, as the program asks it. -/
def tlB (a b c : Int × Int) : Bool := sideN a.1 a.2 b.1 b.2 c.1 c.2 == 1
set_option maxHeartbeats 2000000 in
theorem turnsLeft_c (ax ay bx b_y cx cy : Int) (w : World) (c0 : w.cell? ⟨0, 0, none⟩ = some (.int .i64 1000000)) : Calls Tryd.prog 108 #[.agg #[.int .i64 ax, .int .i64 ay], .agg #[.int .i64 bx, .int .i64 b_y], .agg #[.int .i64 cx, .int .i64 cy]] w fun e w' => e = .returned (.bool (tlB (ax, ay) (bx, b_y) (cx, cy))) ∧ Below w.heap.size w w' := by
  have hz : 0 < w.heap.size := World.block_lt_of_cell? w _ c0
  go_enter Tryd.func108, Tryd.ntmps108
  go_wp2_with (go_at_call 118; refine (sideOfImpl_c _ _ _ _ _ _ _ ?_).mono ?_; exact cell_later (by go_grown : Below w.heap.size w _) c0; rintro e w' ⟨rfl, hb⟩)
  go_ret
  exact ⟨ret_bool (by unfold tlB; simp), (by go_grown : Below w.heap.size w _).trans (hb.mono (by go_size))⟩
def dotW (ax ay bx b_y cx cy : Int) : Int := wrap64 (wrap64 (ax * wrap64 (cx - bx)) + wrap64 (ay * wrap64 (cy - b_y)))
theorem goodB_r {x y : Int} (h : goodB x y = true) : (-1000000 ≤ x ∧ x ≤ 1000000) ∧ (-1000000 ≤ y ∧ y ≤ 1000000) := by
  have := of_decide_eq_true h
  omega
theorem small_mul {x y : Int} (hx : -4000000 ≤ x ∧ x ≤ 4000000) (hy : -4000000 ≤ y ∧ y ≤ 4000000) : -16000000000000 ≤ x * y ∧ x * y ≤ 16000000000000 := by
  have h := Nat.mul_le_mul (show x.natAbs ≤ 4000000 by omega) (show y.natAbs ≤ 4000000 by omega)
  rw [← Int.natAbs_mul] at h
  omega
theorem wrap_in {x : Int} (h : -9000000000000000000 ≤ x) (k : x ≤ 9000000000000000000) : wrap64 x = x := by unfold wrap64; omega
/-- Good points. -/
def gp (p : Int × Int) : Prop := goodB p.1 p.2 = true
theorem crossW_eq {a b c : Int × Int} (ha : gp a) (hb : gp b) (hc : gp c) : crossW a.1 a.2 b.1 b.2 c.1 c.2 = sd a b c := by
  obtain ⟨a1, a2⟩ := goodB_r ha
  obtain ⟨b1, b2⟩ := goodB_r hb
  obtain ⟨c1, c2⟩ := goodB_r hc
  have p := small_mul (x := b.1 - a.1) (y := c.2 - a.2) (by omega) (by omega)
  have q := small_mul (x := b.2 - a.2) (y := c.1 - a.1) (by omega) (by omega)
  unfold crossW sd
  rw [wrap_in (x := b.1 - a.1) (by omega) (by omega), wrap_in (x := c.2 - a.2) (by omega) (by omega), wrap_in (x := b.2 - a.2) (by omega) (by omega), wrap_in (x := c.1 - a.1) (by omega) (by omega)]
  rw [wrap_in (x := (b.1 - a.1) * (c.2 - a.2)) (by omega) (by omega), wrap_in (x := (b.2 - a.2) * (c.1 - a.1)) (by omega) (by omega)]
  exact wrap_in (by omega) (by omega)
theorem sg_pos (n : Int) : (sg n = 1 ↔ 0 < n) ∧ (sg n ≤ 0 ↔ n ≤ 0) ∧ (sg n < 0 ↔ n < 0) ∧ (sg n = 0 ↔ n = 0) := by
  unfold sg
  split
  · omega
  · split <;> omega
theorem sideN_eq {a b c : Int × Int} (ha : gp a) (hb : gp b) (hc : gp c) : sideN a.1 a.2 b.1 b.2 c.1 c.2 = sg (sd a b c) := by
  have ha' := ha; have hb' := hb; have hc' := hc
  unfold gp at ha' hb' hc'
  simp [sideN, sideOk, ha', hb', hc', crossW_eq ha hb hc]
theorem tlB_eq {a b c : Int × Int} (ha : gp a) (hb : gp b) (hc : gp c) : tlB a b c = decide (0 < sd a b c) := by
  unfold tlB
  rw [sideN_eq ha hb hc]
  by_cases h : 0 < sd a b c
  · rw [(sg_pos _).1.2 h]; simp [h]
  · have := mt (sg_pos (sd a b c)).1.1 h
    simp [h, this]
/-- Whether three points turn left, as the specification asks it. -/
def slB (a b c : Int × Int) : Bool := !decide (sg (crossW a.1 a.2 b.1 b.2 c.1 c.2) ≤ 0)
theorem slB_eq {a b c : Int × Int} (ha : gp a) (hb : gp b) (hc : gp c) : slB a b c = decide (0 < sd a b c) := by
  unfold slB
  rw [crossW_eq ha hb hc]
  by_cases h : 0 < sd a b c
  · have := mt (sg_pos (sd a b c)).2.1.1 (by omega)
    simp [h, this]
  · have := (sg_pos (sd a b c)).2.1.2 (by omega)
    simp [h, this]
end Go.Proofs.YtipiamhnngmjmaaDoor
namespace Go.Proofs.YtipiamhnngmjmaaDoor
open Go.RowKit
set_option linter.unusedVariables false
set_option maxRecDepth 8000
/-- The slice v, made at block N or later, holds the points of l at its head; its room may be cut. -/
def OwnC (N : Nat) (v : Value) (l : List (Int × Int)) (w : World) : Prop :=
  (l = [] ∧ v = .slice none 0 0) ∨ ∃ (g cap M : Nat) (f : Nat → Value), v = .slice (some ⟨g, 0, none⟩) l.length cap ∧ N ≤ g ∧ l.length ≤ cap ∧ cap ≤ maxLen ∧ cap * 2 ≤ M ∧ w.rowIs g 26 M f ∧ ∀ i, i < l.length * 2 → f i = cel l i
theorem Own.cut {N : Nat} {v : Value} {l : List (Int × Int)} {w : World} (h : Own N v l w) : OwnC N v l w := by
  rcases h with h | ⟨g, c, f, e, h1, h2, h3, h4, h5⟩
  · exact .inl h
  · exact .inr ⟨g, c, c * 2, f, e, h1, h2, h3, Nat.le_refl _, h4, h5⟩
theorem OwnC.at {N n cap : Nat} {a : Option Addr} {l : List (Int × Int)} {w : World} (h : OwnC N (.slice a n cap) l w) : At w.heap.size a l w := by
  rcases h with ⟨rfl, e⟩ | ⟨g, c, M, f, e, h1, h2, h3, hM, h4, h5⟩
  · exact fun i hi => absurd hi (Nat.not_lt_zero _)
  · simp at e
    obtain ⟨rfl, rfl, rfl⟩ := e
    intro i hi
    have q0 := h4.cell (i := i * 2) (by omega)
    have q1 := h4.cell (i := i * 2 + 1) (by omega)
    rw [h5 _ (by omega), cel0] at q0
    rw [h5 _ (by omega), cel1] at q1
    exact ⟨g, 0, rfl, h4.lt, by rw [Nat.zero_add]; exact q0, by rw [Nat.zero_add]; exact q1⟩
theorem OwnC.len {N n cap : Nat} {a : Option Addr} {l : List (Int × Int)} {w : World} (h : OwnC N (.slice a n cap) l w) : l.length = n := by
  rcases h with ⟨rfl, e⟩ | ⟨g, c, M, f, e, _⟩
  · simp at e; simp [e.2.1]
  · simp at e; exact e.2.1.symm
theorem OwnC.shape {N : Nat} {v : Value} {l : List (Int × Int)} {w : World} (h : OwnC N v l w) : ∃ a cap, v = .slice a l.length cap := by
  rcases h with ⟨rfl, e⟩ | ⟨g, c, M, f, e, _⟩
  · exact ⟨none, 0, e⟩
  · exact ⟨_, _, e⟩
theorem OwnC.fit {N n cap : Nat} {a : Option Addr} {l : List (Int × Int)} {w : World} (h : OwnC N (.slice a n cap) l w) : Fit a n cap := by
  rcases h with ⟨rfl, e⟩ | ⟨g, c, M, f, e, h1, h2, h3, _⟩
  · simp at e; exact .inl ⟨e.1, e.2.2, e.2.1⟩
  · simp at e
    obtain ⟨rfl, rfl, rfl⟩ := e
    exact .inr ⟨⟨_, _, rfl⟩, h2, h3⟩
theorem OwnC.ge {N n cap : Nat} {a : Option Addr} {l : List (Int × Int)} {w : World} (h : OwnC N (.slice a n cap) l w) : ∀ b off, a = some ⟨b, off, none⟩ → N ≤ b := by
  rcases h with ⟨rfl, e⟩ | ⟨g, c, M, f, e, h1, _⟩
  · simp at e; intro b off hb; rw [e.1] at hb; cases hb
  · simp at e; intro b off hb; rw [e.1] at hb; cases hb; exact h1
theorem OwnC.later {N : Nat} {v : Value} {l : List (Int × Int)} {w w' : World} (h : OwnC N v l w) (hb : Below w.heap.size w w') : OwnC N v l w' := by
  rcases h with h | ⟨g, c, M, f, e, h1, h2, h3, hM, h4, h5⟩
  · exact .inl h
  · exact .inr ⟨g, c, M, f, e, h1, h2, h3, hM, rowIs_later h4 hb h4.lt, h5⟩
theorem OwnC.mono {N K : Nat} {v : Value} {l : List (Int × Int)} {w : World} (h : OwnC N v l w) (hM : K ≤ N) : OwnC K v l w := by
  rcases h with h | ⟨g, c, M, f, e, h1, h2⟩
  · exact .inl h
  · exact .inr ⟨g, c, M, f, e, by omega, h2⟩
theorem OwnC.spared {N : Nat} {v : Value} {a : Option Addr} {l : List (Int × Int)} {w w' : World} (h : OwnC N v l w) (hs : Spared a w w') (hb : ∀ b off, a = some ⟨b, off, none⟩ → b < N) : OwnC N v l w' := by
  rcases h with h | ⟨g, c, M, f, e, h1, h2, h3, hM, ⟨cc, k1, k2, k3⟩, h5⟩
  · exact .inl h
  · have hlt : g < w.heap.size := by
      by_cases hg : g < w.heap.size
      · exact hg
      · rw [Array.getElem?_eq_none (by omega)] at k1; cases k1
    exact .inr ⟨g, c, M, f, e, h1, h2, h3, hM, ⟨cc, (hs.block g hlt (fun b off e' => by have := hb b off e'; omega)).trans k1, k2, k3⟩, h5⟩
theorem OwnC.nil (N : Nat) (w : World) : OwnC N (.slice none 0 0) [] w := .inl ⟨rfl, rfl⟩
/-- Cut behind its n-th point. -/
theorem OwnC.take {N n cap c : Nat} {a : Option Addr} {l : List (Int × Int)} {w : World} (h : OwnC N (.slice a n cap) l w) {k : Nat} (hk : k ≤ n) (hkc : k ≤ c) (hc : c ≤ cap) : OwnC N (.slice a k c) (l.take k) w := by
  have hl := h.len
  rcases h with ⟨rfl, e⟩ | ⟨g, cc, M, f, e, h1, h2, h3, hM, h4, h5⟩
  · simp at e
    obtain ⟨rfl, rfl, rfl⟩ := e
    obtain rfl : k = 0 := by omega
    obtain rfl : c = 0 := by omega
    exact .inl ⟨rfl, rfl⟩
  · simp at e
    obtain ⟨rfl, rfl, rfl⟩ := e
    have ht : (l.take k).length = k := by rw [List.length_take]; omega
    refine .inr ⟨g, c, M, f, by rw [ht], h1, by omega, by omega, by omega, h4, fun i hi => ?_⟩
    rw [ht] at hi
    rw [h5 i (by omega)]
    have hi2 : i / 2 < k := by omega
    unfold cel px py
    simp only [List.getD_eq_getElem?_getD, List.getElem?_take, if_pos hi2]
/-- The same, whole: for the laws on rows. -/
theorem OwnC.rows {N : Nat} {v : Value} {l : List (Int × Int)} {w : World} (h : OwnC N v l w) : (l = [] ∧ v = .slice none 0 0) ∨ ∃ (g cap : Nat) (cur : Array Value), v = .slice (some ⟨g, 0, none⟩) l.length cap ∧ N ≤ g ∧ w.heap[g]? = some (.cells cur 26 (0, 0)) ∧ l.length ≤ cap ∧ cap ≤ maxLen ∧ cap * 2 ≤ cur.size ∧ cur.toList.take (l.length * 2) = cells l := by
  rcases h with h | ⟨g, c, M, f, e, h1, h2, h3, hM, ⟨cc, k1, k2, k3⟩, h5⟩
  · exact .inl h
  · refine .inr ⟨g, c, cc, e, h1, k1, h2, h3, by omega, ?_⟩
    refine List.ext_getElem? fun i => ?_
    by_cases hi : i < l.length * 2
    · rw [List.getElem?_take, if_pos hi, Array.getElem?_toList, k3 i (by omega), h5 i hi, cells_get l i hi]
    · rw [List.getElem?_eq_none (by simp; omega), List.getElem?_eq_none (by rw [cells_len]; omega)]
theorem ownC_of {N : Nat} {l : List (Int × Int)} {w : World} {g cap : Nat} {cur : Array Value} (h1 : N ≤ g) (h2 : w.heap[g]? = some (.cells cur 26 (0, 0))) (h3 : l.length ≤ cap) (h4 : cap ≤ maxLen) (h5 : cap * 2 ≤ cur.size) (h6 : cur.toList.take (l.length * 2) = cells l) : OwnC N (.slice (some ⟨g, 0, none⟩) l.length cap) l w := by
  refine .inr ⟨g, cap, cur.size, fun i => (cur[i]?).getD undef, rfl, h1, h3, h4, h5, ⟨cur, h2, rfl, fun i hi => ?_⟩, fun i hi => ?_⟩
  · show cur[i]? = some ((cur[i]?).getD undef)
    rw [Array.getElem?_eq_getElem (by omega)]; rfl
  · have h := cells_get l i hi
    rw [← h6, List.getElem?_take, if_pos hi, Array.getElem?_toList] at h
    show (cur[i]?).getD undef = cel l i
    rw [h]; rfl
/-- How far a row is marked. -/
structure MarkC (g M : Nat) (k : Int) (j : Nat) (w wr : World) : Prop where
  spared : Spared (some ⟨g, 0, none⟩) w wr
  row : ∃ f, wr.rowIs g 26 M f ∧ ∀ i, i < j * 2 → f i = .int .i64 (k + i)
theorem MarkC.cell {g M : Nat} {k : Int} {j : Nat} {w wr : World} (h : MarkC g M k j w wr) {i : Nat} (hi : i < M) : ∃ v, wr.cell? ⟨g, i, none⟩ = some v := by
  obtain ⟨f, hf, _⟩ := h.row
  exact ⟨_, hf.cell hi⟩
theorem MarkC.frozen {g M : Nat} {k : Int} {j : Nat} {w wr : World} (h : MarkC g M k j w wr) (i : Nat) : wr.frozen? ⟨g, i, none⟩ = false := by
  obtain ⟨f, hf, _⟩ := h.row
  exact hf.frozen i
theorem MarkC.step {g M : Nat} {k x y : Int} {j : Nat} {w wr : World} (h : MarkC g M k j w wr) (hx : x = k + 2 * (j : Int)) (hy : y = k + 2 * (j : Int) + 1) :
    MarkC g M k (j + 1) w ((wr.setCell ⟨g, j * 2, none⟩ (.int .i64 x)).setCell ⟨g, j * 2 + 1, none⟩ (.int .i64 y)) := by
  obtain ⟨f, hf, he⟩ := h.row
  refine ⟨(h.spared.setCell _ _).setCell _ _, _, (hf.set (j * 2) _).set (j * 2 + 1) _, fun i hi => ?_⟩
  by_cases e1 : i = j * 2 + 1
  · subst e1; rw [if_pos rfl, hy]; congr 1; omega
  · by_cases e0 : i = j * 2
    · subst e0; rw [if_neg e1, if_pos rfl, hx]; congr 1; omega
    · rw [if_neg e1, if_neg e0]; exact he i (by omega)
theorem markC_own {N : Nat} {g cap M : Nat} {k : Int} {n : Nat} {w wr : World} (h : MarkC g M k n w wr) (hN : N ≤ g) (hn : n ≤ cap) (hm : cap ≤ maxLen) (hM : cap * 2 ≤ M) : OwnC N (.slice (some ⟨g, 0, none⟩) n cap) (marks n k) wr := by
  obtain ⟨f, hf, he⟩ := h.row
  refine .inr ⟨g, cap, M, f, by rw [marks_len], hN, by rw [marks_len]; exact hn, hm, hM, hf, fun i hi => ?_⟩
  rw [marks_len] at hi
  rw [he i hi, cel_marks k hi]
set_option maxHeartbeats 4000000 in
theorem markC_c (l : List (Int × Int)) (N : Nat) (a : Option Addr) (n cap : Nat) (k : Int) (w : World) (h0 : 0 ≤ k) (h1 : k ≤ 1073741824) (h2 : n ≤ 1048576) (hO : OwnC N (.slice a n cap) l w) :
    Calls Tryd.prog 28 #[.slice a n cap, .int .i64 k] w fun e w' => e = .returned (.int .i64 (k + 2 * (n : Int))) ∧ OwnC N (.slice a n cap) (marks n k) w' ∧ Spared a w w' := by
  rcases hO with ⟨rfl, e⟩ | ⟨g, c, M, f, e, g1, g2, g3, gM, g4, g5⟩
  · simp at e
    obtain ⟨rfl, rfl, rfl⟩ := e
    go_enter Tryd.func28, Tryd.ntmps28
    go_wp2
    refine wp_loop_rounds 1 ?_
    rw [rounds_succ]
    go_wp2
    go_ret
    exact ⟨by first | rfl | simp, .inl ⟨rfl, rfl⟩, Spared.refl _ _⟩
  · simp at e
    obtain ⟨rfl, rfl, rfl⟩ := e
    have hM : MarkC g M k 0 w w := ⟨Spared.refl _ _, f, g4, fun i hi => absurd hi (by omega)⟩
    have hlc := g2
    have hlM := gM
    have HG := hid (⟨g1, g2, g3, gM⟩ : N ≤ g ∧ l.length ≤ cap ∧ cap ≤ maxLen ∧ cap * 2 ≤ M)
    obtain ⟨n, hn⟩ : ∃ n, l.length = n := ⟨_, rfl⟩
    rw [hn] at h2 hlc HG ⊢
    clear g1 g2 g3 g4 g5 gM hn
    go_enter Tryd.func28, Tryd.ntmps28
    go_wp2
    go_loopw [1, 5] (fun q i wr => ∃ j : Nat, j ≤ n ∧ i = .int .i64 j ∧ q = .int .i64 (k + 2 * (j : Int)) ∧ MarkC g M k j w wr) (fun q i _ => n - (intOf i).toNat)
    case atStart => exact ⟨0, Nat.zero_le _, rfl, by simp, hM⟩
    case round =>
      obtain ⟨j, hj, rfl, rfl, hC⟩ := hrel
      have HC := hid hC
      clear hC
      by_cases hjn : j < n
      · obtain ⟨v0, q0⟩ := HC.out.cell (i := j * 2) (by omega)
        obtain ⟨v1, q1⟩ := HC.out.cell (i := j * 2 + 1) (by omega)
        have f0 := HC.out.frozen (j * 2)
        have f1 := HC.out.frozen (j * 2 + 1)
        go_wp2
        go_roundw
        case rel => exact ⟨j + 1, by omega, by go_num, by first | go_num | (congr 1; omega), HC.out.step rfl (by omega)⟩
        case measure => simp [intOf]; omega
      · obtain rfl : j = n := by omega
        go_wp2
        go_ret
        exact ⟨rfl, markC_own HC.out HG.out.1 HG.out.2.1 HG.out.2.2.1 HG.out.2.2.2, HC.out.spared⟩
/-- Points laid behind a list that is owned, and maybe cut: in place, or in new memory. -/
theorem run_append_cut {P : Program} {w : World} {N : Nat} {t ty : TypeId} {i : TypeInfo} {z : Value} (ht : P.underlying t = some (.slice 26)) (hi : P.info? 26 = some i) (hz : i.zero = some z) (hz1 : i.size = 2) (hz2 : i.bytes = 16) (hz3 : z.cells.size = 2)
    {v : Value} {l m : List (Int × Int)} (hown : OwnC N v l w) (ad : Addr) (c : Nat) (hnews : ∀ j u, (cells m)[j]? = some u → w.cell? (ad.add j) = some u)
    (hm : 0 < m.length) (hlen : l.length + m.length ≤ 1048576) (hbase : N ≤ w.heap.size) :
    ∃ g cap w', (Builtin.append_ #[t, t] ty #[v, .slice (some ad) m.length c]).run P w = .ok (.slice (some ⟨g, 0, none⟩) (l.length + m.length) cap) w' ∧
      OwnC N (.slice (some ⟨g, 0, none⟩) (l.length + m.length) cap) (l ++ m) w' ∧ w.grownBy w' v.ownBlock ∧ (v.ownBlock = some g ∨ g = w.heap.size) := by
  have hle : (l ++ m).length = l.length + m.length := List.length_append
  have hcl : (cells m).length = m.length * 2 := cells_len m
  have grown : ∀ (old : Nat), old < l.length + m.length → ∀ (row : Option Nat),
      OwnC N (.slice (some ⟨w.heap.size, 0, none⟩) (l.length + m.length) (grownCap w (l.length + m.length) old 26)) (l ++ m) (w.drew.alloc (.cells ((cells l).toArray ++ (cells m).toArray ++ Builtin.zeroCells z.cells (grownCap w (l.length + m.length) old 26 - (l.length + m.length))) 26)) ∧
      w.grownBy (w.drew.alloc (.cells ((cells l).toArray ++ (cells m).toArray ++ Builtin.zeroCells z.cells (grownCap w (l.length + m.length) old 26 - (l.length + m.length))) 26)) row := by
    intro old ho row
    have hge := grownCap_ge w (l.length + m.length) old 26
    have hcm : grownCap w (l.length + m.length) old 26 ≤ maxLen := grownCap_le_maxLen w (l.length + m.length) old 26 (by unfold maxLen; omega)
    refine ⟨?_, ⟨rfl, rfl, rfl, by simp, fun k hk _ => _root_.Go.heap_alloc_old w.drew _ hk⟩⟩
    rw [← hle]
    refine ownC_of hbase (heap_alloc_new w.drew _) (by rw [hle]; exact hge) (by rw [hle]; exact hcm) ?_ ?_
    · simp only [Array.size_append, List.size_toArray, size_zeroCells, hz3, cells_len, hle]
      omega
    · simp only [Array.toList_append, List.append_assoc]
      rw [← List.append_assoc, ← cells_append, ← cells_len (l ++ m)]
      exact List.take_left
  rcases hown.rows with ⟨rfl, rfl⟩ | ⟨g, cap, cur, rfl, hbg, hg, hnc, hcm, hcs, htake⟩
  · have hr := run_append_nil (P := P) w t ty 26 i z ht hi hz ad m.length c (cells m) (by rw [hcl, hz1]) hnews (by omega) (by simp at hlen; omega) (by rw [hz2]; simp at hlen; omega)
    have hgr := grown 0 (by simp; omega) (Value.ownBlock (.slice none 0 0))
    simp only [List.length_nil, Nat.zero_add, List.nil_append, show cells [] = [] from rfl, Array.empty_append] at hgr ⊢
    exact ⟨_, _, _, hr, hgr.1, hgr.2, .inr rfl⟩
  · by_cases hroom : l.length + m.length ≤ cap
    · have hr := run_append_room (P := P) w t ty 26 i ht hi g l.length cap cur hg ad m.length c (cells m) (by rw [hcl, hz1]) hnews (cells_ones m) hroom (by rw [hz1, hcl]; omega)
      rw [hz1] at hr
      refine ⟨g, cap, _, hr, ?_, ⟨rfl, rfl, rfl, by simp, fun k _ hk => setRow_other w g k _ (fun e => hk (by simp [Value.ownBlock, e]))⟩, .inl rfl⟩
      rw [← hle]
      refine ownC_of hbg (setRow_heap w g cur _ _ _ hg) (by rw [hle]; exact hroom) hcm ?_ ?_
      · simp only [List.size_toArray, List.length_append, List.length_take, List.length_drop, Array.length_toList, hcl]
        omega
      · rw [htake, ← cells_append, ← cells_len (l ++ m)]
        exact List.take_left
    · have holds : ∀ j u, (cells l)[j]? = some u → w.cell? ((⟨g, 0, none⟩ : Addr).add j) = some u := by
        intro j u hu
        rw [Go.WideShapes.add_plain, Nat.zero_add, cell_of_row w g j cur 26 (0, 0) hg]
        rw [← htake, List.getElem?_take] at hu
        split at hu
        · simpa using hu
        · cases hu
      have hr := run_append_grow (P := P) w t ty 26 i z ht hi hz ⟨g, 0, none⟩ l.length cap (cells l) (by rw [cells_len, hz1]) holds ad m.length c (cells m) (by rw [hcl, hz1]) hnews (by omega) (by omega) (growslice_fits (by omega) (by rw [hz2]; omega))
      have hgr := grown cap (by omega) (Value.ownBlock (.slice (some ⟨g, 0, none⟩) l.length cap))
      exact ⟨_, _, _, hr, hgr.1, hgr.2, .inr rfl⟩
/-- At the operation. -/
theorem wp_append_cut {P : Program} {w : World} {o : Oper} {a : Act} {K : Act → World → Prop} {Q : Exit → Act → World → Prop} (s x : Operand) (t : TypeId) (ho : o.op = .call { callee := .builtin .append, args := #[s, x], argTypes := #[t, t] })
    (N : Nat) {i : TypeInfo} {z : Value} (ht : P.underlying t = some (.slice 26)) (hi : P.info? 26 = some i) (hz : i.zero = some z) (hz1 : i.size = 2) (hz2 : i.bytes = 16) (hz3 : z.cells.size = 2)
    (v : Value) (l m : List (Int × Int)) (hs : a.eval s = v) (hown : OwnC N v l w) (ad : Addr) (n c : Nat) (hx : a.eval x = .slice (some ad) n c) (hn : m.length = n) (hnews : ∀ j u, (cells m)[j]? = some u → w.cell? (ad.add j) = some u)
    (hm : 0 < m.length) (hlen : l.length + m.length ≤ 1048576) (hbase : N ≤ w.heap.size)
    (h : ∀ g cap w', OwnC N (.slice (some ⟨g, 0, none⟩) (l.length + m.length) cap) (l ++ m) w' → w.grownBy w' v.ownBlock → (v.ownBlock = some g ∨ g = w.heap.size) → K (a.put o.dst (.slice (some ⟨g, 0, none⟩) (l.length + m.length) cap)) w') : o.wp P a w K Q := by
  subst hn
  obtain ⟨g, cap, w', hr, h2, h3, h4⟩ := run_append_cut (P := P) (t := t) (ty := o.type) ht hi hz hz1 hz2 hz3 hown ad c hnews hm hlen hbase
  unfold Oper.wp execOp
  simp only [ho, resolve, invoke, builtin, Sem.run_bind, Sem.run_pure, Result.andThen_ok, List.map_toArray, List.map_cons, List.map_nil, hs, hx, hr]
  exact h g cap w' h2 h3 h4
theorem wpList_append_cut {P : Program} {w : World} {ops : Array Oper} {rest : List Oper} {o : Oper} {a : Act} {Q : Exit → Act → World → Prop} (hgd : o.guard = none) (s x : Operand) (t : TypeId) (ho : o.op = .call { callee := .builtin .append, args := #[s, x], argTypes := #[t, t] })
    (N : Nat) {i : TypeInfo} {z : Value} (ht : P.underlying t = some (.slice 26)) (hi : P.info? 26 = some i) (hz : i.zero = some z) (hz1 : i.size = 2) (hz2 : i.bytes = 16) (hz3 : z.cells.size = 2)
    (v : Value) (l m : List (Int × Int)) (hs : a.eval s = v) (hown : OwnC N v l w) (ad : Addr) (n c : Nat) (hx : a.eval x = .slice (some ad) n c) (hn : m.length = n) (hnews : ∀ j u, (cells m)[j]? = some u → w.cell? (ad.add j) = some u)
    (hm : 0 < m.length) (hlen : l.length + m.length ≤ 1048576) (hbase : N ≤ w.heap.size)
    (h : ∀ g cap w', OwnC N (.slice (some ⟨g, 0, none⟩) (l.length + m.length) cap) (l ++ m) w' → w.grownBy w' v.ownBlock → (v.ownBlock = some g ∨ g = w.heap.size) → wpList P ops Q rest (a.put o.dst (.slice (some ⟨g, 0, none⟩) (l.length + m.length) cap)) w') : wpList P ops Q (o :: rest) a w :=
  wpList_plain hgd fun _ hK => wp_append_cut s x t ho N ht hi hz hz1 hz2 hz3 v l m hs hown ad n c hx hn hnews hm hlen hbase fun g cap w' h2 h3 h4 => hK _ _ (h g cap w' h2 h3 h4)
/-- What an append leaves. -/
theorem OwnC.grownBelow {N : Nat} {v : Value} {l : List (Int × Int)} {w w' : World} (ho : OwnC N v l w) (hg : w.grownBy w' v.ownBlock) (hN : N ≤ w.heap.size) : Below N w w' :=
  (Below.refl _ _).grown hg hN (fun k hk => by
    rcases ho with ⟨rfl, rfl⟩ | ⟨g, c, M, f, rfl, h1, _⟩
    · simp [Value.ownBlock] at hk
    · simp [Value.ownBlock] at hk; omega)
end Go.Proofs.YtipiamhnngmjmaaDoor
namespace Go.Proofs.YtipiamhnngmjmaaDoor
set_option linter.unusedVariables false
set_option maxRecDepth 8000
/-- The point at a place. -/
def pt (l : List (Int × Int)) (i : Nat) : Int × Int := (px l i, py l i)
theorem pt_get {l : List (Int × Int)} {i : Nat} (h : i < l.length) : pt l i = l[i] := by simp [pt, px, py, h]
theorem pt_mem {l : List (Int × Int)} {i : Nat} (h : i < l.length) : pt l i ∈ l := by rw [pt_get h]; exact List.getElem_mem h
/-- How many of the first n points stay when p comes. -/
def keepB (t : Int × Int → Int × Int → Int × Int → Bool) (l : List (Int × Int)) (p : Int × Int) : Nat → Nat
  | 0 => 0
  | 1 => 1
  | n + 2 => if t (pt l n) (pt l (n + 1)) p then n + 2 else keepB t l p (n + 1)
def stepB (t : Int × Int → Int × Int → Int × Int → Bool) (l : List (Int × Int)) (p : Int × Int) : List (Int × Int) := l.take (keepB t l p l.length) ++ [p]
def chainB (t : Int × Int → Int × Int → Int × Int → Bool) (l : List (Int × Int)) : List (Int × Int) := l.foldl (stepB t) []
def hullB (t : Int × Int → Int × Int → Int × Int → Bool) (s : List (Int × Int)) : List (Int × Int) := if s.length < 2 then s else (chainB t s).dropLast ++ (chainB t s.reverse).dropLast
section
variable {t t' : Int × Int → Int × Int → Int × Int → Bool} {l : List (Int × Int)} {p : Int × Int}
theorem keepB_le : ∀ n, keepB t l p n ≤ n
  | 0 => Nat.le_refl _
  | 1 => Nat.le_refl _
  | n + 2 => by
    unfold keepB
    split
    · exact Nat.le_refl _
    · have := keepB_le (n + 1)
      omega
theorem keepB_pos : ∀ n, 0 < n → 0 < keepB t l p n
  | 0, h => h
  | 1, h => h
  | n + 2, h => by
    unfold keepB
    split
    · exact h
    · exact keepB_pos (n + 1) (by omega)
theorem keepB_stop {n : Nat} (h : t (pt l n) (pt l (n + 1)) p = true) : keepB t l p (n + 2) = n + 2 := by
  rw [keepB, if_pos h]
theorem keepB_go {n : Nat} (h : t (pt l n) (pt l (n + 1)) p = false) : keepB t l p (n + 2) = keepB t l p (n + 1) := by
  rw [keepB, if_neg (by simp [h])]
theorem keepB_one : ∀ n, n ≤ 1 → keepB t l p n = n
  | 0, _ => rfl
  | 1, _ => rfl
theorem stepB_len (l : List (Int × Int)) (p : Int × Int) : (stepB t l p).length = keepB t l p l.length + 1 := by
  have := keepB_le (t := t) (l := l) (p := p) l.length
  unfold stepB
  rw [List.length_append, List.length_take]
  simp
  omega
theorem chainB_snoc (l : List (Int × Int)) (p : Int × Int) : chainB t (l ++ [p]) = stepB t (chainB t l) p := by simp [chainB]
theorem foldB_len (l : List (Int × Int)) : ∀ acc : List (Int × Int), (l.foldl (stepB t) acc).length ≤ acc.length + l.length := by
  induction l with
  | nil => intro acc; simp
  | cons x l ih =>
    intro acc
    have h := ih (stepB t acc x)
    have h2 := keepB_le (t := t) (l := acc) (p := x) acc.length
    rw [stepB_len] at h
    simp only [List.foldl_cons, List.length_cons]
    omega
theorem chainB_len (l : List (Int × Int)) : (chainB t l).length ≤ l.length := by
  have := foldB_len (t := t) l []
  simpa [chainB] using this
theorem stepB_mem {q : Int × Int} (h : q ∈ stepB t l p) : q ∈ l ∨ q = p := by
  unfold stepB at h
  rcases List.mem_append.1 h with h | h
  · exact .inl (List.mem_of_mem_take h)
  · exact .inr (by simpa using h)
theorem foldB_mem (l : List (Int × Int)) : ∀ (acc : List (Int × Int)) (q : Int × Int), q ∈ l.foldl (stepB t) acc → q ∈ acc ∨ q ∈ l := by
  induction l with
  | nil => intro acc q h; exact .inl h
  | cons x l ih =>
    intro acc q h
    rcases ih _ _ h with h | h
    · rcases stepB_mem h with h | h
      · exact .inl h
      · exact .inr (by simp [h])
    · exact .inr (by simp [h])
theorem chainB_mem {q : Int × Int} (h : q ∈ chainB t l) : q ∈ l := by
  rcases foldB_mem l [] q h with h | h
  · cases h
  · exact h
theorem keepB_congr (h : ∀ a ∈ l, ∀ b ∈ l, t a b p = t' a b p) : ∀ n, n ≤ l.length → keepB t l p n = keepB t' l p n
  | 0, _ => rfl
  | 1, _ => rfl
  | n + 2, hn => by
    unfold keepB
    rw [h _ (pt_mem (i := n) (by omega)) _ (pt_mem (i := n + 1) (by omega)), keepB_congr h (n + 1) (by omega)]
theorem foldB_congr (l : List (Int × Int)) : ∀ (acc : List (Int × Int)), (∀ a b c, (a ∈ acc ∨ a ∈ l) → (b ∈ acc ∨ b ∈ l) → (c ∈ acc ∨ c ∈ l) → t a b c = t' a b c) → l.foldl (stepB t) acc = l.foldl (stepB t') acc := by
  induction l with
  | nil => intro acc _; rfl
  | cons x l ih =>
    intro acc h
    have e : stepB t acc x = stepB t' acc x := by
      unfold stepB
      rw [keepB_congr (fun a ha b hb => h a b x (.inl ha) (.inl hb) (.inr (by simp))) _ (Nat.le_refl _)]
    rw [List.foldl_cons, List.foldl_cons, ← e]
    have hm : ∀ a, (a ∈ stepB t acc x ∨ a ∈ l) → (a ∈ acc ∨ a ∈ x :: l) := by
      intro a ha
      rcases ha with ha | ha
      · rcases stepB_mem ha with ha | ha
        · exact .inl ha
        · exact .inr (by simp [ha])
      · exact .inr (by simp [ha])
    exact ih _ fun a b c ha hb hc => h a b c (hm a ha) (hm b hb) (hm c hc)
theorem chainB_congr (h : ∀ a ∈ l, ∀ b ∈ l, ∀ c ∈ l, t a b c = t' a b c) : chainB t l = chainB t' l :=
  foldB_congr l [] fun a b c ha hb hc => by
    have f : ∀ x, (x ∈ ([] : List (Int × Int)) ∨ x ∈ l) → x ∈ l := fun x hx => hx.resolve_left (by simp)
    exact h a (f a ha) b (f b hb) c (f c hc)
theorem hullB_congr (h : ∀ a ∈ l, ∀ b ∈ l, ∀ c ∈ l, t a b c = t' a b c) : hullB t l = hullB t' l := by
  unfold hullB
  rw [chainB_congr h, chainB_congr (l := l.reverse) (fun a ha b hb c hc => h a (by simpa using ha) b (by simpa using hb) c (by simpa using hc))]
theorem chainB_ne {l : List (Int × Int)} (h : l ≠ []) : chainB t l ≠ [] := by
  obtain ⟨l', p, rfl⟩ : ∃ l' p, l = l' ++ [p] := ⟨l.dropLast, l.getLast h, (List.dropLast_concat_getLast h).symm⟩
  rw [chainB_snoc]
  unfold stepB
  simp
theorem chainB_two {l : List (Int × Int)} (h : 2 ≤ l.length) : 2 ≤ (chainB t l).length := by
  have hne : l ≠ [] := by intro e; subst e; simp at h
  obtain ⟨l', p, rfl⟩ : ∃ l' p, l = l' ++ [p] := ⟨l.dropLast, l.getLast hne, (List.dropLast_concat_getLast hne).symm⟩
  have hl' : l' ≠ [] := by intro e; subst e; simp at h
  rw [chainB_snoc, stepB_len]
  have h1 : 0 < (chainB t l').length := List.length_pos_iff.2 (chainB_ne hl')
  have := keepB_pos (t := t) (l := chainB t l') (p := p) _ h1
  omega
theorem hullB_len (l : List (Int × Int)) : (hullB t l).length ≤ 2 * l.length := by
  unfold hullB
  split
  · omega
  · have h1 := chainB_len (t := t) l
    have h2 := chainB_len (t := t) l.reverse
    simp at h2 ⊢
    omega
theorem hullB_mem {q : Int × Int} (h : q ∈ hullB t l) : q ∈ l := by
  unfold hullB at h
  split at h
  · exact h
  · rcases List.mem_append.1 h with h | h
    · exact chainB_mem (List.dropLast_subset _ h)
    · have := chainB_mem (List.dropLast_subset _ h)
      simpa using this
end
end Go.Proofs.YtipiamhnngmjmaaDoor
namespace Go.Proofs.YtipiamhnngmjmaaDoor
open Go.RowKit
set_option linter.unusedVariables false
set_option maxRecDepth 8000
theorem pt_take {l : List (Int × Int)} {k : Nat} (h : k < l.length) : l.take (k + 1) = l.take k ++ [(px l k, py l k)] := by
  rw [List.take_succ_eq_append_getElem h]
  have e : (px l k, py l k) = l[k] := by simp [px, py, h]
  rw [e]
theorem keepB_few {t : Int × Int → Int × Int → Int × Int → Bool} {l : List (Int × Int)} {p : Int × Int} {n : Nat} (h : ¬ 1 < n) : keepB t l p n = n := keepB_one n (by omega)
/-- What the round's box holds is laid behind what stays. -/
theorem half_step {N : Nat} {a : Option Addr} {c n : Nat} {L : List (Int × Int)} {p : Int × Int} {u : World} (hO : OwnC N (.slice a L.length c) L u) (hn : n ≤ L.length) (hk : n = keepB slB L p L.length) : OwnC N (.slice a n c) (L.take (keepB slB L p L.length)) u := by
  subst hk
  refine hO.take hn ?_ (Nat.le_refl _)
  rcases hO.fit with ⟨rfl, rfl, h0⟩ | ⟨_, h1, _⟩ <;> omega
set_option maxHeartbeats 400000 in
theorem l3Half_c (l : List (Int × Int)) (a : Option Addr) (len cap : Nat) (w : World) (hl : l.length = len) (h1 : len ≤ 1048576) (hA : At w.heap.size a l w) :
    Calls Tryd.prog 101 #[.slice a len cap] w fun e w' => ∃ v, e = .returned v ∧ OwnC w.heap.size v (chainB slB l) w' ∧ Below w.heap.size w w' := by
  subst hl
  have HA := hid hA
  clear hA
  obtain ⟨i0, hi, hz0, hz1, hz2⟩ := info_parts info_pt
  go_enter Tryd.func101, Tryd.ntmps101
  go_wp2
  go_loopw [3, 8] (fun o i wr => ∃ k : Nat, k ≤ l.length ∧ i = .int .i64 k ∧ OwnC w.heap.size o (chainB slB (l.take k)) wr ∧ Below w.heap.size w wr) (fun o i _ => l.length - (intOf i).toNat)
  case atStart => exact ⟨0, Nat.zero_le _, rfl, OwnC.nil _ _, Below.refl _ _⟩
  case round =>
    obtain ⟨k, hk, rfl, hO, hbw⟩ := hrel
    by_cases hkl : k < l.length
    · obtain ⟨b, off, rfl, hbN, g0, g1⟩ := HA.out k hkl
      have q0 := cell_later hbw g0
      have q1 := cell_later hbw g1
      have hsz := hbw.size
      have hstep : chainB slB (l.take (k + 1)) = stepB slB (chainB slB (l.take k)) (px l k, py l k) := by rw [pt_take hkl, chainB_snoc]
      have hLl : (chainB slB (l.take k)).length ≤ k := Nat.le_trans (chainB_len _) (by rw [List.length_take]; omega)
      have HS := hid hstep
      clear g0 g1 hstep
      obtain ⟨L, hL⟩ : ∃ L, chainB slB (l.take k) = L := ⟨_, rfl⟩
      rw [hL] at hO hLl HS
      obtain ⟨a3, c3, hv3⟩ := hO.shape
      subst hv3
      have HO := hid hO
      have hcl : L.length ≤ c3 := by
        rcases hO.fit with ⟨_, _, h0⟩ | ⟨_, h1, _⟩ <;> omega
      clear hO hL
      have r0 : (wr.alloc (.cells #[.int .i64 (px l k), .int .i64 (py l k)] 26)).cell? ⟨wr.heap.size, 0, none⟩ = some (.int .i64 (px l k)) := by simp [go_sem]
      have r1 : (wr.alloc (.cells #[.int .i64 (px l k), .int .i64 (py l k)] 26)).cell? ⟨wr.heap.size, 1, none⟩ = some (.int .i64 (py l k)) := by simp [go_sem]
      have hbA : Below wr.heap.size wr (wr.alloc (.cells #[.int .i64 (px l k), .int .i64 (py l k)] 26)) := by go_grown
      obtain ⟨x, hx⟩ : ∃ x, px l k = x := ⟨_, rfl⟩
      obtain ⟨y, hy⟩ : ∃ y, py l k = y := ⟨_, rfl⟩
      rw [hx, hy] at HS
      rw [hx] at q0 r0 r1 hbA
      rw [hy] at q1 r0 r1 hbA
      clear hx hy
      go_wp2
      generalize wr.alloc (.cells #[.int .i64 x, .int .i64 y] 26) = wA at r0 r1 hbA ⊢
      obtain ⟨wo, rfl⟩ : ∃ wo, wo = wr := ⟨wr, rfl⟩
      generalize hBx : wo.heap.size = Bx at r0 r1 ⊢
      go_loopw [3] (fun o u => ∃ n : Nat, n ≤ L.length ∧ o = .slice a3 n c3 ∧ keepB slB L (x, y) n = keepB slB L (x, y) L.length ∧ Below wA.heap.size wA u) (fun o _ => match o with | .slice _ n _ => n | _ => 0)
      case atStart => exact ⟨L.length, Nat.le_refl _, rfl, rfl, Below.refl _ _⟩
      case round =>
        obtain ⟨n, hn, rfl, hkn, hbu⟩ := hrel
        have z0 := cell_later hbu r0
        have z1 := cell_later hbu r1
        have HKN := hid hkn
        have HBU := hid hbu
        clear hkn
        by_cases hn1 : 1 < n
        · obtain ⟨m, hm⟩ : ∃ m, n = m + 2 := ⟨n - 2, by omega⟩
          obtain ⟨b3, o3, hb3, _, e0, e1⟩ := HO.out.at m (by omega)
          obtain ⟨j, hj⟩ : ∃ j, j = m + 1 := ⟨_, rfl⟩
          obtain ⟨b4, o4, hb4, _, e2, e3⟩ := HO.out.at j (by omega)
          obtain ⟨rfl, rfl⟩ : b4 = b3 ∧ o4 = o3 := by rw [hb3] at hb4; simp at hb4; exact ⟨hb4.1.symm, hb4.2.symm⟩
          subst hb3
          have s0 := cell_later hbu (cell_later hbA e0)
          have s1 := cell_later hbu (cell_later hbA e1)
          have s2 := cell_later hbu (cell_later hbA e2)
          have s3 := cell_later hbu (cell_later hbA e3)
          have s4 := z0
          have s5 := z1
          clear e0 e1 e2 e3 hb4 z0 z1 r0 r1 hbu
          have hi0 : IntKind.i64.wrap ((n : Int) - 2) = (m : Int) := by rw [IntKind.wrap_i64]; omega
          have hi1 : IntKind.i64.wrap ((n : Int) - 1) = (j : Int) := by rw [IntKind.wrap_i64]; omega
          have hi2 : (0 : Int) ≤ (m : Int) := by omega
          have hi3 : (m : Int) < (n : Int) := by omega
          have hi4 : (j : Int) < (n : Int) := by omega
          have hi5 : m < n := by omega
          have hi6 : j < n := by omega
          have hi8 : (j : Int) ≤ (c3 : Int) := by omega
          have hi7 : (0 : Int) ≤ (j : Int) := by omega
          have HJ := hid hj
          clear hj
          have hd : decide (1 < (n : Int)) = true := decide_eq_true (by omega)
          have HM := hid hm
          clear hm
          cases hE : slB (px L m, py L m) (px L j, py L j) (x, y)
          · have hs : decide (sg (crossW (px L m) (py L m) (px L j) (py L j) x y) ≤ 0) = true := by simpa [slB] using hE
            go_wp2
            refine wp_region_held_drew (S := (fun u => Below wr.heap.size wr u)) (by kernel_rfl) ?_ (fun hHeld => ?_)
            · exact (Below.refl _ _).drew
            refine wpAnyH_take (i := 0) (oi := { dst := some 12, op := Op.move (Operand.tmp 3), type := 33, pos := "l3_hull.go:9", after := #[], guard := none }) (v := ?v3rx0) rfl (by kernel_rfl) (by kernel_rfl) (by kernel_rfl) (fun _ _ _ h => h) (Or.inl ⟨by rfl, ?hy3rx0⟩) (by with_reducible assumption) ?rest3rx0
            case hy3rx0 => (intro wS hSw; (try dsimp only at hSw); have z0 := cell_later hSw s0; have z1 := cell_later hSw s1; have z2 := cell_later hSw s2; have z3 := cell_later hSw s3; have z4 := cell_later hSw s4; have z5 := cell_later hSw s5; clear hSw; go_simp; try with_reducible rfl)
            case' rest3rx0 => (try simp only [Act.put, List.setIfInBounds_toArray, List.set_cons_zero, List.set_cons_succ])
            refine wpAnyH_take (i := 1) (oi := { dst := some 13, op := Op.call { callee := Callee.builtin Builtin.len, args := #[Operand.tmp 12], argTypes := #[33] }, type := 3, pos := "l3_hull.go:9", after := #[{ on := 0, ground := Ground.data }], guard := none }) (v := ?v3rx1) rfl (by kernel_rfl) (by kernel_rfl) (by kernel_rfl) (fun _ _ _ h => h) (Or.inl ⟨by rfl, ?hy3rx1⟩) (by with_reducible assumption) ?rest3rx1
            case hy3rx1 => (intro wS hSw; (try dsimp only at hSw); have z0 := cell_later hSw s0; have z1 := cell_later hSw s1; have z2 := cell_later hSw s2; have z3 := cell_later hSw s3; have z4 := cell_later hSw s4; have z5 := cell_later hSw s5; clear hSw; go_simp; try with_reducible rfl)
            case' rest3rx1 => (try simp only [Act.put, List.setIfInBounds_toArray, List.set_cons_zero, List.set_cons_succ])
            refine wpAnyH_take (i := 2) (oi := { dst := some 14, op := Op.binOp BinOp.gtr 3 (Operand.tmp 13) (Operand.const (Value.int IntKind.i64 1)) 3, type := 4, pos := "l3_hull.go:9", after := #[{ on := 1, ground := Ground.data }], guard := none }) (v := ?v3rx2) rfl (by kernel_rfl) (by kernel_rfl) (by kernel_rfl) (fun _ _ _ h => h) (Or.inl ⟨by rfl, ?hy3rx2⟩) (by with_reducible assumption) ?rest3rx2
            case hy3rx2 => (intro wS hSw; (try dsimp only at hSw); have z0 := cell_later hSw s0; have z1 := cell_later hSw s1; have z2 := cell_later hSw s2; have z3 := cell_later hSw s3; have z4 := cell_later hSw s4; have z5 := cell_later hSw s5; clear hSw; go_simp; try with_reducible rfl)
            case' rest3rx2 => (try simp only [Act.put, List.setIfInBounds_toArray, List.set_cons_zero, List.set_cons_succ])
            refine wpAnyH_take (i := 3) (oi := { dst := some 15, op := Op.move (Operand.tmp 14), type := 4, pos := "l3_hull.go:9", after := #[{ on := 2, ground := Ground.data }], guard := none }) (v := ?v3rx3) rfl (by kernel_rfl) (by kernel_rfl) (by kernel_rfl) (fun _ _ _ h => h) (Or.inl ⟨by rfl, ?hy3rx3⟩) (by with_reducible assumption) ?rest3rx3
            case hy3rx3 => (intro wS hSw; (try dsimp only at hSw); have z0 := cell_later hSw s0; have z1 := cell_later hSw s1; have z2 := cell_later hSw s2; have z3 := cell_later hSw s3; have z4 := cell_later hSw s4; have z5 := cell_later hSw s5; clear hSw; go_simp; try with_reducible rfl)
            case' rest3rx3 => (try simp only [Act.put, List.setIfInBounds_toArray, List.set_cons_zero, List.set_cons_succ])
            refine wpAnyH_take (i := 4) (oi := { dst := some 16, op := Op.move (Operand.tmp 3), type := 33, pos := "l3_hull.go:9", after := #[{ on := 3, ground := Ground.guard }], guard := some (3, true) }) (v := ?v3rx4) rfl (by kernel_rfl) (by kernel_rfl) (by kernel_rfl) (fun _ _ _ h => h) (Or.inl ⟨by rfl, ?hy3rx4⟩) (by with_reducible assumption) ?rest3rx4
            case hy3rx4 => (intro wS hSw; (try dsimp only at hSw); have z0 := cell_later hSw s0; have z1 := cell_later hSw s1; have z2 := cell_later hSw s2; have z3 := cell_later hSw s3; have z4 := cell_later hSw s4; have z5 := cell_later hSw s5; clear hSw; go_simp; try with_reducible rfl)
            case' rest3rx4 => (try simp only [Act.put, List.setIfInBounds_toArray, List.set_cons_zero, List.set_cons_succ])
            refine wpAnyH_take (i := 5) (oi := { dst := some 17, op := Op.move (Operand.tmp 3), type := 33, pos := "l3_hull.go:9", after := #[{ on := 3, ground := Ground.guard }], guard := some (3, true) }) (v := ?v3rx5) rfl (by kernel_rfl) (by kernel_rfl) (by kernel_rfl) (fun _ _ _ h => h) (Or.inl ⟨by rfl, ?hy3rx5⟩) (by with_reducible assumption) ?rest3rx5
            case hy3rx5 => (intro wS hSw; (try dsimp only at hSw); have z0 := cell_later hSw s0; have z1 := cell_later hSw s1; have z2 := cell_later hSw s2; have z3 := cell_later hSw s3; have z4 := cell_later hSw s4; have z5 := cell_later hSw s5; clear hSw; go_simp; try with_reducible rfl)
            case' rest3rx5 => (try simp only [Act.put, List.setIfInBounds_toArray, List.set_cons_zero, List.set_cons_succ])
            refine wpAnyH_take (i := 6) (oi := { dst := some 18, op := Op.call { callee := Callee.builtin Builtin.len, args := #[Operand.tmp 17], argTypes := #[33] }, type := 3, pos := "l3_hull.go:9", after := #[{ on := 5, ground := Ground.data }, { on := 3, ground := Ground.guard }], guard := some (3, true) }) (v := ?v3rx6) rfl (by kernel_rfl) (by kernel_rfl) (by kernel_rfl) (fun _ _ _ h => h) (Or.inl ⟨by rfl, ?hy3rx6⟩) (by with_reducible assumption) ?rest3rx6
            case hy3rx6 => (intro wS hSw; (try dsimp only at hSw); have z0 := cell_later hSw s0; have z1 := cell_later hSw s1; have z2 := cell_later hSw s2; have z3 := cell_later hSw s3; have z4 := cell_later hSw s4; have z5 := cell_later hSw s5; clear hSw; go_simp; try with_reducible rfl)
            case' rest3rx6 => (try simp only [Act.put, List.setIfInBounds_toArray, List.set_cons_zero, List.set_cons_succ])
            refine wpAnyH_take (i := 7) (oi := { dst := some 19, op := Op.binOp BinOp.sub 3 (Operand.tmp 18) (Operand.const (Value.int IntKind.i64 2)) 3, type := 3, pos := "l3_hull.go:9", after := #[{ on := 6, ground := Ground.data }, { on := 3, ground := Ground.guard }], guard := some (3, true) }) (v := ?v3rx7) rfl (by kernel_rfl) (by kernel_rfl) (by kernel_rfl) (fun _ _ _ h => h) (Or.inl ⟨by rfl, ?hy3rx7⟩) (by with_reducible assumption) ?rest3rx7
            case hy3rx7 => (intro wS hSw; (try dsimp only at hSw); have z0 := cell_later hSw s0; have z1 := cell_later hSw s1; have z2 := cell_later hSw s2; have z3 := cell_later hSw s3; have z4 := cell_later hSw s4; have z5 := cell_later hSw s5; clear hSw; go_simp; try with_reducible rfl)
            case' rest3rx7 => (try simp only [Act.put, List.setIfInBounds_toArray, List.set_cons_zero, List.set_cons_succ])
            refine wpAnyH_take (i := 8) (oi := { dst := some 20, op := Op.indexAddr 33 (Operand.tmp 16) (Operand.tmp 19), type := 0, pos := "l3_hull.go:9", after := #[{ on := 4, ground := Ground.data }, { on := 7, ground := Ground.data }, { on := 3, ground := Ground.guard }], guard := some (3, true) }) (v := ?v3rx8) rfl (by kernel_rfl) (by kernel_rfl) (by kernel_rfl) (fun _ _ _ h => h) (Or.inl ⟨by rfl, ?hy3rx8⟩) (by with_reducible assumption) ?rest3rx8
            case hy3rx8 => (intro wS hSw; (try dsimp only at hSw); have z0 := cell_later hSw s0; have z1 := cell_later hSw s1; have z2 := cell_later hSw s2; have z3 := cell_later hSw s3; have z4 := cell_later hSw s4; have z5 := cell_later hSw s5; clear hSw; go_simp; try with_reducible rfl)
            case' rest3rx8 => (try simp only [Act.put, List.setIfInBounds_toArray, List.set_cons_zero, List.set_cons_succ])
            refine wpAnyH_take (i := 9) (oi := { dst := some 21, op := Op.load 26 (Operand.tmp 20), type := 26, pos := "l3_hull.go:9", after := #[{ on := 8, ground := Ground.data }, { on := 3, ground := Ground.guard }], guard := some (3, true) }) (v := ?v3rx9) rfl (by kernel_rfl) (by kernel_rfl) (by kernel_rfl) (fun _ _ _ h => h) (Or.inl ⟨by rfl, ?hy3rx9⟩) (by with_reducible assumption) ?rest3rx9
            case hy3rx9 => (intro wS hSw; (try dsimp only at hSw); have z0 := cell_later hSw s0; have z1 := cell_later hSw s1; have z2 := cell_later hSw s2; have z3 := cell_later hSw s3; have z4 := cell_later hSw s4; have z5 := cell_later hSw s5; clear hSw; go_simp; try with_reducible rfl)
            case' rest3rx9 => (try simp only [Act.put, List.setIfInBounds_toArray, List.set_cons_zero, List.set_cons_succ])
            refine wpAnyH_take (i := 10) (oi := { dst := some 22, op := Op.move (Operand.tmp 3), type := 33, pos := "l3_hull.go:9", after := #[{ on := 3, ground := Ground.guard }], guard := some (3, true) }) (v := ?v3rx10) rfl (by kernel_rfl) (by kernel_rfl) (by kernel_rfl) (fun _ _ _ h => h) (Or.inl ⟨by rfl, ?hy3rx10⟩) (by with_reducible assumption) ?rest3rx10
            case hy3rx10 => (intro wS hSw; (try dsimp only at hSw); have z0 := cell_later hSw s0; have z1 := cell_later hSw s1; have z2 := cell_later hSw s2; have z3 := cell_later hSw s3; have z4 := cell_later hSw s4; have z5 := cell_later hSw s5; clear hSw; go_simp; try with_reducible rfl)
            case' rest3rx10 => (try simp only [Act.put, List.setIfInBounds_toArray, List.set_cons_zero, List.set_cons_succ])
            refine wpAnyH_take (i := 11) (oi := { dst := some 23, op := Op.move (Operand.tmp 3), type := 33, pos := "l3_hull.go:9", after := #[{ on := 3, ground := Ground.guard }], guard := some (3, true) }) (v := ?v3rx11) rfl (by kernel_rfl) (by kernel_rfl) (by kernel_rfl) (fun _ _ _ h => h) (Or.inl ⟨by rfl, ?hy3rx11⟩) (by with_reducible assumption) ?rest3rx11
            case hy3rx11 => (intro wS hSw; (try dsimp only at hSw); have z0 := cell_later hSw s0; have z1 := cell_later hSw s1; have z2 := cell_later hSw s2; have z3 := cell_later hSw s3; have z4 := cell_later hSw s4; have z5 := cell_later hSw s5; clear hSw; go_simp; try with_reducible rfl)
            case' rest3rx11 => (try simp only [Act.put, List.setIfInBounds_toArray, List.set_cons_zero, List.set_cons_succ])
            refine wpAnyH_take (i := 12) (oi := { dst := some 24, op := Op.call { callee := Callee.builtin Builtin.len, args := #[Operand.tmp 23], argTypes := #[33] }, type := 3, pos := "l3_hull.go:9", after := #[{ on := 11, ground := Ground.data }, { on := 3, ground := Ground.guard }], guard := some (3, true) }) (v := ?v3rx12) rfl (by kernel_rfl) (by kernel_rfl) (by kernel_rfl) (fun _ _ _ h => h) (Or.inl ⟨by rfl, ?hy3rx12⟩) (by with_reducible assumption) ?rest3rx12
            case hy3rx12 => (intro wS hSw; (try dsimp only at hSw); have z0 := cell_later hSw s0; have z1 := cell_later hSw s1; have z2 := cell_later hSw s2; have z3 := cell_later hSw s3; have z4 := cell_later hSw s4; have z5 := cell_later hSw s5; clear hSw; go_simp; try with_reducible rfl)
            case' rest3rx12 => (try simp only [Act.put, List.setIfInBounds_toArray, List.set_cons_zero, List.set_cons_succ])
            refine wpAnyH_take (i := 13) (oi := { dst := some 25, op := Op.binOp BinOp.sub 3 (Operand.tmp 24) (Operand.const (Value.int IntKind.i64 1)) 3, type := 3, pos := "l3_hull.go:9", after := #[{ on := 12, ground := Ground.data }, { on := 3, ground := Ground.guard }], guard := some (3, true) }) (v := ?v3rx13) rfl (by kernel_rfl) (by kernel_rfl) (by kernel_rfl) (fun _ _ _ h => h) (Or.inl ⟨by rfl, ?hy3rx13⟩) (by with_reducible assumption) ?rest3rx13
            case hy3rx13 => (intro wS hSw; (try dsimp only at hSw); have z0 := cell_later hSw s0; have z1 := cell_later hSw s1; have z2 := cell_later hSw s2; have z3 := cell_later hSw s3; have z4 := cell_later hSw s4; have z5 := cell_later hSw s5; clear hSw; go_simp; try with_reducible rfl)
            case' rest3rx13 => (try simp only [Act.put, List.setIfInBounds_toArray, List.set_cons_zero, List.set_cons_succ])
            refine wpAnyH_take (i := 14) (oi := { dst := some 26, op := Op.indexAddr 33 (Operand.tmp 22) (Operand.tmp 25), type := 0, pos := "l3_hull.go:9", after := #[{ on := 10, ground := Ground.data }, { on := 13, ground := Ground.data }, { on := 3, ground := Ground.guard }], guard := some (3, true) }) (v := ?v3rx14) rfl (by kernel_rfl) (by kernel_rfl) (by kernel_rfl) (fun _ _ _ h => h) (Or.inl ⟨by rfl, ?hy3rx14⟩) (by with_reducible assumption) ?rest3rx14
            case hy3rx14 => (intro wS hSw; (try dsimp only at hSw); have z0 := cell_later hSw s0; have z1 := cell_later hSw s1; have z2 := cell_later hSw s2; have z3 := cell_later hSw s3; have z4 := cell_later hSw s4; have z5 := cell_later hSw s5; clear hSw; go_simp; try with_reducible rfl)
            case' rest3rx14 => (try simp only [Act.put, List.setIfInBounds_toArray, List.set_cons_zero, List.set_cons_succ])
            refine wpAnyH_take (i := 15) (oi := { dst := some 27, op := Op.load 26 (Operand.tmp 26), type := 26, pos := "l3_hull.go:9", after := #[{ on := 14, ground := Ground.data }, { on := 3, ground := Ground.guard }], guard := some (3, true) }) (v := ?v3rx15) rfl (by kernel_rfl) (by kernel_rfl) (by kernel_rfl) (fun _ _ _ h => h) (Or.inl ⟨by rfl, ?hy3rx15⟩) (by with_reducible assumption) ?rest3rx15
            case hy3rx15 => (intro wS hSw; (try dsimp only at hSw); have z0 := cell_later hSw s0; have z1 := cell_later hSw s1; have z2 := cell_later hSw s2; have z3 := cell_later hSw s3; have z4 := cell_later hSw s4; have z5 := cell_later hSw s5; clear hSw; go_simp; try with_reducible rfl)
            case' rest3rx15 => (try simp only [Act.put, List.setIfInBounds_toArray, List.set_cons_zero, List.set_cons_succ])
            refine wpAnyH_take (i := 16) (oi := { dst := some 28, op := Op.load 26 (Operand.tmp 5), type := 26, pos := "l3_hull.go:9", after := #[{ on := 3, ground := Ground.guard }], guard := some (3, true) }) (v := ?v3rx16) rfl (by kernel_rfl) (by kernel_rfl) (by kernel_rfl) (fun _ _ _ h => h) (Or.inl ⟨by rfl, ?hy3rx16⟩) (by with_reducible assumption) ?rest3rx16
            case hy3rx16 => (intro wS hSw; (try dsimp only at hSw); have z0 := cell_later hSw s0; have z1 := cell_later hSw s1; have z2 := cell_later hSw s2; have z3 := cell_later hSw s3; have z4 := cell_later hSw s4; have z5 := cell_later hSw s5; clear hSw; go_simp; try with_reducible rfl)
            case' rest3rx16 => (try simp only [Act.put, List.setIfInBounds_toArray, List.set_cons_zero, List.set_cons_succ])
            refine wpAnyH_ready (rs := [17]) (by kernel_rfl) (by simp) ?_
            refine AllReadyH.cons (o := { dst := some 29, op := Op.call { callee := Callee.value (Operand.func 115), args := #[Operand.tmp 21, Operand.tmp 27, Operand.tmp 28], argTypes := #[26, 26, 26] }, type := 3, pos := "l3_hull.go:9", after := #[{ on := 9, ground := Ground.data }, { on := 15, ground := Ground.data }, { on := 16, ground := Ground.data }, { on := 3, ground := Ground.chain }, { on := 3, ground := Ground.guard }], guard := some (3, true) }) rfl (fun K hK => ?_) AllReadyH.nil
            go_simp
            refine (side_c _ _ _ _ _ _ _).mono ?_
            rintro e w' ⟨rfl, hb⟩
            go_wp2_with fail
            refine hK.out _ _ ?_ (fun hHeld => ?_)
            · exact grew (by with_reducible assumption) hb
            clear hK K
            try simp only [Act.put, List.setIfInBounds_toArray, List.set_cons_zero, List.set_cons_succ]
            refine wpAnyH_take (i := 18) (oi := { dst := some 30, op := Op.binOp BinOp.leq 3 (Operand.tmp 29) (Operand.const (Value.int IntKind.i64 0)) 3, type := 4, pos := "l3_hull.go:9", after := #[{ on := 17, ground := Ground.data }, { on := 3, ground := Ground.guard }], guard := some (3, true) }) (v := ?v3rx18) rfl (by kernel_rfl) (by kernel_rfl) (by kernel_rfl) (fun _ _ _ h => h) (Or.inl ⟨by rfl, ?hy3rx18⟩) (by with_reducible assumption) ?rest3rx18
            case hy3rx18 => (intro wS hSw; (try dsimp only at hSw); have z0 := cell_later hSw s0; have z1 := cell_later hSw s1; have z2 := cell_later hSw s2; have z3 := cell_later hSw s3; have z4 := cell_later hSw s4; have z5 := cell_later hSw s5; clear hSw; go_simp; try with_reducible rfl)
            case' rest3rx18 => (try simp only [Act.put, List.setIfInBounds_toArray, List.set_cons_zero, List.set_cons_succ])
            refine wpAnyH_take (i := 19) (oi := { dst := some 31, op := Op.pick (Operand.tmp 15) (Operand.tmp 30) (Operand.const (Value.bool false)), type := 4, pos := "l3_hull.go:9", after := #[{ on := 3, ground := Ground.data }, { on := 18, ground := Ground.data }], guard := none }) (v := ?v3rx19) rfl (by kernel_rfl) (by kernel_rfl) (by kernel_rfl) (fun _ _ _ h => h) (Or.inl ⟨by rfl, ?hy3rx19⟩) (by with_reducible assumption) ?rest3rx19
            case hy3rx19 => (intro wS hSw; (try dsimp only at hSw); have z0 := cell_later hSw s0; have z1 := cell_later hSw s1; have z2 := cell_later hSw s2; have z3 := cell_later hSw s3; have z4 := cell_later hSw s4; have z5 := cell_later hSw s5; clear hSw; go_simp; try with_reducible rfl)
            case' rest3rx19 => (try simp only [Act.put, List.setIfInBounds_toArray, List.set_cons_zero, List.set_cons_succ])
            refine wpAnyH_done (by kernel_rfl) ?_ _
            go_wp2
            go_roundw
            case rel =>
              refine ⟨j, by omega, by first | rfl | simp, ?_, grew HBU.out (by with_reducible assumption)⟩
              have e1 := HM.out
              have e2 := HJ.out
              subst e1
              subst e2
              rw [← HKN.out]
              exact (keepB_go hE).symm
            case measure => first | omega | (simp; omega)
          · have hs : decide (sg (crossW (px L m) (py L m) (px L j) (py L j) x y) ≤ 0) = false := by simpa [slB] using hE
            have HO2 : Hid (OwnC w.heap.size (.slice (some ⟨b4, o4, none⟩) n c3) (L.take (keepB slB L (x, y) L.length)) wr) := by
              refine half_step (HO.out.later (grew hbA HBU.out)) hn ?_
              have e1 := HM.out
              have e2 := HJ.out
              subst e1
              subst e2
              rw [← HKN.out]
              exact (keepB_stop hE).symm
            go_wp2
            refine wp_region_held_drew (S := (fun u => Below wr.heap.size wr u)) (by kernel_rfl) ?_ (fun hHeld => ?_)
            · exact (Below.refl _ _).drew
            refine wpAnyH_take (i := 0) (oi := { dst := some 12, op := Op.move (Operand.tmp 3), type := 33, pos := "l3_hull.go:9", after := #[], guard := none }) (v := ?v4rx0) rfl (by kernel_rfl) (by kernel_rfl) (by kernel_rfl) (fun _ _ _ h => h) (Or.inl ⟨by rfl, ?hy4rx0⟩) (by with_reducible assumption) ?rest4rx0
            case hy4rx0 => (intro wS hSw; (try dsimp only at hSw); have z0 := cell_later hSw s0; have z1 := cell_later hSw s1; have z2 := cell_later hSw s2; have z3 := cell_later hSw s3; have z4 := cell_later hSw s4; have z5 := cell_later hSw s5; clear hSw; go_simp; try with_reducible rfl)
            case' rest4rx0 => (try simp only [Act.put, List.setIfInBounds_toArray, List.set_cons_zero, List.set_cons_succ])
            refine wpAnyH_take (i := 1) (oi := { dst := some 13, op := Op.call { callee := Callee.builtin Builtin.len, args := #[Operand.tmp 12], argTypes := #[33] }, type := 3, pos := "l3_hull.go:9", after := #[{ on := 0, ground := Ground.data }], guard := none }) (v := ?v4rx1) rfl (by kernel_rfl) (by kernel_rfl) (by kernel_rfl) (fun _ _ _ h => h) (Or.inl ⟨by rfl, ?hy4rx1⟩) (by with_reducible assumption) ?rest4rx1
            case hy4rx1 => (intro wS hSw; (try dsimp only at hSw); have z0 := cell_later hSw s0; have z1 := cell_later hSw s1; have z2 := cell_later hSw s2; have z3 := cell_later hSw s3; have z4 := cell_later hSw s4; have z5 := cell_later hSw s5; clear hSw; go_simp; try with_reducible rfl)
            case' rest4rx1 => (try simp only [Act.put, List.setIfInBounds_toArray, List.set_cons_zero, List.set_cons_succ])
            refine wpAnyH_take (i := 2) (oi := { dst := some 14, op := Op.binOp BinOp.gtr 3 (Operand.tmp 13) (Operand.const (Value.int IntKind.i64 1)) 3, type := 4, pos := "l3_hull.go:9", after := #[{ on := 1, ground := Ground.data }], guard := none }) (v := ?v4rx2) rfl (by kernel_rfl) (by kernel_rfl) (by kernel_rfl) (fun _ _ _ h => h) (Or.inl ⟨by rfl, ?hy4rx2⟩) (by with_reducible assumption) ?rest4rx2
            case hy4rx2 => (intro wS hSw; (try dsimp only at hSw); have z0 := cell_later hSw s0; have z1 := cell_later hSw s1; have z2 := cell_later hSw s2; have z3 := cell_later hSw s3; have z4 := cell_later hSw s4; have z5 := cell_later hSw s5; clear hSw; go_simp; try with_reducible rfl)
            case' rest4rx2 => (try simp only [Act.put, List.setIfInBounds_toArray, List.set_cons_zero, List.set_cons_succ])
            refine wpAnyH_take (i := 3) (oi := { dst := some 15, op := Op.move (Operand.tmp 14), type := 4, pos := "l3_hull.go:9", after := #[{ on := 2, ground := Ground.data }], guard := none }) (v := ?v4rx3) rfl (by kernel_rfl) (by kernel_rfl) (by kernel_rfl) (fun _ _ _ h => h) (Or.inl ⟨by rfl, ?hy4rx3⟩) (by with_reducible assumption) ?rest4rx3
            case hy4rx3 => (intro wS hSw; (try dsimp only at hSw); have z0 := cell_later hSw s0; have z1 := cell_later hSw s1; have z2 := cell_later hSw s2; have z3 := cell_later hSw s3; have z4 := cell_later hSw s4; have z5 := cell_later hSw s5; clear hSw; go_simp; try with_reducible rfl)
            case' rest4rx3 => (try simp only [Act.put, List.setIfInBounds_toArray, List.set_cons_zero, List.set_cons_succ])
            refine wpAnyH_take (i := 4) (oi := { dst := some 16, op := Op.move (Operand.tmp 3), type := 33, pos := "l3_hull.go:9", after := #[{ on := 3, ground := Ground.guard }], guard := some (3, true) }) (v := ?v4rx4) rfl (by kernel_rfl) (by kernel_rfl) (by kernel_rfl) (fun _ _ _ h => h) (Or.inl ⟨by rfl, ?hy4rx4⟩) (by with_reducible assumption) ?rest4rx4
            case hy4rx4 => (intro wS hSw; (try dsimp only at hSw); have z0 := cell_later hSw s0; have z1 := cell_later hSw s1; have z2 := cell_later hSw s2; have z3 := cell_later hSw s3; have z4 := cell_later hSw s4; have z5 := cell_later hSw s5; clear hSw; go_simp; try with_reducible rfl)
            case' rest4rx4 => (try simp only [Act.put, List.setIfInBounds_toArray, List.set_cons_zero, List.set_cons_succ])
            refine wpAnyH_take (i := 5) (oi := { dst := some 17, op := Op.move (Operand.tmp 3), type := 33, pos := "l3_hull.go:9", after := #[{ on := 3, ground := Ground.guard }], guard := some (3, true) }) (v := ?v4rx5) rfl (by kernel_rfl) (by kernel_rfl) (by kernel_rfl) (fun _ _ _ h => h) (Or.inl ⟨by rfl, ?hy4rx5⟩) (by with_reducible assumption) ?rest4rx5
            case hy4rx5 => (intro wS hSw; (try dsimp only at hSw); have z0 := cell_later hSw s0; have z1 := cell_later hSw s1; have z2 := cell_later hSw s2; have z3 := cell_later hSw s3; have z4 := cell_later hSw s4; have z5 := cell_later hSw s5; clear hSw; go_simp; try with_reducible rfl)
            case' rest4rx5 => (try simp only [Act.put, List.setIfInBounds_toArray, List.set_cons_zero, List.set_cons_succ])
            refine wpAnyH_take (i := 6) (oi := { dst := some 18, op := Op.call { callee := Callee.builtin Builtin.len, args := #[Operand.tmp 17], argTypes := #[33] }, type := 3, pos := "l3_hull.go:9", after := #[{ on := 5, ground := Ground.data }, { on := 3, ground := Ground.guard }], guard := some (3, true) }) (v := ?v4rx6) rfl (by kernel_rfl) (by kernel_rfl) (by kernel_rfl) (fun _ _ _ h => h) (Or.inl ⟨by rfl, ?hy4rx6⟩) (by with_reducible assumption) ?rest4rx6
            case hy4rx6 => (intro wS hSw; (try dsimp only at hSw); have z0 := cell_later hSw s0; have z1 := cell_later hSw s1; have z2 := cell_later hSw s2; have z3 := cell_later hSw s3; have z4 := cell_later hSw s4; have z5 := cell_later hSw s5; clear hSw; go_simp; try with_reducible rfl)
            case' rest4rx6 => (try simp only [Act.put, List.setIfInBounds_toArray, List.set_cons_zero, List.set_cons_succ])
            refine wpAnyH_take (i := 7) (oi := { dst := some 19, op := Op.binOp BinOp.sub 3 (Operand.tmp 18) (Operand.const (Value.int IntKind.i64 2)) 3, type := 3, pos := "l3_hull.go:9", after := #[{ on := 6, ground := Ground.data }, { on := 3, ground := Ground.guard }], guard := some (3, true) }) (v := ?v4rx7) rfl (by kernel_rfl) (by kernel_rfl) (by kernel_rfl) (fun _ _ _ h => h) (Or.inl ⟨by rfl, ?hy4rx7⟩) (by with_reducible assumption) ?rest4rx7
            case hy4rx7 => (intro wS hSw; (try dsimp only at hSw); have z0 := cell_later hSw s0; have z1 := cell_later hSw s1; have z2 := cell_later hSw s2; have z3 := cell_later hSw s3; have z4 := cell_later hSw s4; have z5 := cell_later hSw s5; clear hSw; go_simp; try with_reducible rfl)
            case' rest4rx7 => (try simp only [Act.put, List.setIfInBounds_toArray, List.set_cons_zero, List.set_cons_succ])
            refine wpAnyH_take (i := 8) (oi := { dst := some 20, op := Op.indexAddr 33 (Operand.tmp 16) (Operand.tmp 19), type := 0, pos := "l3_hull.go:9", after := #[{ on := 4, ground := Ground.data }, { on := 7, ground := Ground.data }, { on := 3, ground := Ground.guard }], guard := some (3, true) }) (v := ?v4rx8) rfl (by kernel_rfl) (by kernel_rfl) (by kernel_rfl) (fun _ _ _ h => h) (Or.inl ⟨by rfl, ?hy4rx8⟩) (by with_reducible assumption) ?rest4rx8
            case hy4rx8 => (intro wS hSw; (try dsimp only at hSw); have z0 := cell_later hSw s0; have z1 := cell_later hSw s1; have z2 := cell_later hSw s2; have z3 := cell_later hSw s3; have z4 := cell_later hSw s4; have z5 := cell_later hSw s5; clear hSw; go_simp; try with_reducible rfl)
            case' rest4rx8 => (try simp only [Act.put, List.setIfInBounds_toArray, List.set_cons_zero, List.set_cons_succ])
            refine wpAnyH_take (i := 9) (oi := { dst := some 21, op := Op.load 26 (Operand.tmp 20), type := 26, pos := "l3_hull.go:9", after := #[{ on := 8, ground := Ground.data }, { on := 3, ground := Ground.guard }], guard := some (3, true) }) (v := ?v4rx9) rfl (by kernel_rfl) (by kernel_rfl) (by kernel_rfl) (fun _ _ _ h => h) (Or.inl ⟨by rfl, ?hy4rx9⟩) (by with_reducible assumption) ?rest4rx9
            case hy4rx9 => (intro wS hSw; (try dsimp only at hSw); have z0 := cell_later hSw s0; have z1 := cell_later hSw s1; have z2 := cell_later hSw s2; have z3 := cell_later hSw s3; have z4 := cell_later hSw s4; have z5 := cell_later hSw s5; clear hSw; go_simp; try with_reducible rfl)
            case' rest4rx9 => (try simp only [Act.put, List.setIfInBounds_toArray, List.set_cons_zero, List.set_cons_succ])
            refine wpAnyH_take (i := 10) (oi := { dst := some 22, op := Op.move (Operand.tmp 3), type := 33, pos := "l3_hull.go:9", after := #[{ on := 3, ground := Ground.guard }], guard := some (3, true) }) (v := ?v4rx10) rfl (by kernel_rfl) (by kernel_rfl) (by kernel_rfl) (fun _ _ _ h => h) (Or.inl ⟨by rfl, ?hy4rx10⟩) (by with_reducible assumption) ?rest4rx10
            case hy4rx10 => (intro wS hSw; (try dsimp only at hSw); have z0 := cell_later hSw s0; have z1 := cell_later hSw s1; have z2 := cell_later hSw s2; have z3 := cell_later hSw s3; have z4 := cell_later hSw s4; have z5 := cell_later hSw s5; clear hSw; go_simp; try with_reducible rfl)
            case' rest4rx10 => (try simp only [Act.put, List.setIfInBounds_toArray, List.set_cons_zero, List.set_cons_succ])
            refine wpAnyH_take (i := 11) (oi := { dst := some 23, op := Op.move (Operand.tmp 3), type := 33, pos := "l3_hull.go:9", after := #[{ on := 3, ground := Ground.guard }], guard := some (3, true) }) (v := ?v4rx11) rfl (by kernel_rfl) (by kernel_rfl) (by kernel_rfl) (fun _ _ _ h => h) (Or.inl ⟨by rfl, ?hy4rx11⟩) (by with_reducible assumption) ?rest4rx11
            case hy4rx11 => (intro wS hSw; (try dsimp only at hSw); have z0 := cell_later hSw s0; have z1 := cell_later hSw s1; have z2 := cell_later hSw s2; have z3 := cell_later hSw s3; have z4 := cell_later hSw s4; have z5 := cell_later hSw s5; clear hSw; go_simp; try with_reducible rfl)
            case' rest4rx11 => (try simp only [Act.put, List.setIfInBounds_toArray, List.set_cons_zero, List.set_cons_succ])
            refine wpAnyH_take (i := 12) (oi := { dst := some 24, op := Op.call { callee := Callee.builtin Builtin.len, args := #[Operand.tmp 23], argTypes := #[33] }, type := 3, pos := "l3_hull.go:9", after := #[{ on := 11, ground := Ground.data }, { on := 3, ground := Ground.guard }], guard := some (3, true) }) (v := ?v4rx12) rfl (by kernel_rfl) (by kernel_rfl) (by kernel_rfl) (fun _ _ _ h => h) (Or.inl ⟨by rfl, ?hy4rx12⟩) (by with_reducible assumption) ?rest4rx12
            case hy4rx12 => (intro wS hSw; (try dsimp only at hSw); have z0 := cell_later hSw s0; have z1 := cell_later hSw s1; have z2 := cell_later hSw s2; have z3 := cell_later hSw s3; have z4 := cell_later hSw s4; have z5 := cell_later hSw s5; clear hSw; go_simp; try with_reducible rfl)
            case' rest4rx12 => (try simp only [Act.put, List.setIfInBounds_toArray, List.set_cons_zero, List.set_cons_succ])
            refine wpAnyH_take (i := 13) (oi := { dst := some 25, op := Op.binOp BinOp.sub 3 (Operand.tmp 24) (Operand.const (Value.int IntKind.i64 1)) 3, type := 3, pos := "l3_hull.go:9", after := #[{ on := 12, ground := Ground.data }, { on := 3, ground := Ground.guard }], guard := some (3, true) }) (v := ?v4rx13) rfl (by kernel_rfl) (by kernel_rfl) (by kernel_rfl) (fun _ _ _ h => h) (Or.inl ⟨by rfl, ?hy4rx13⟩) (by with_reducible assumption) ?rest4rx13
            case hy4rx13 => (intro wS hSw; (try dsimp only at hSw); have z0 := cell_later hSw s0; have z1 := cell_later hSw s1; have z2 := cell_later hSw s2; have z3 := cell_later hSw s3; have z4 := cell_later hSw s4; have z5 := cell_later hSw s5; clear hSw; go_simp; try with_reducible rfl)
            case' rest4rx13 => (try simp only [Act.put, List.setIfInBounds_toArray, List.set_cons_zero, List.set_cons_succ])
            refine wpAnyH_take (i := 14) (oi := { dst := some 26, op := Op.indexAddr 33 (Operand.tmp 22) (Operand.tmp 25), type := 0, pos := "l3_hull.go:9", after := #[{ on := 10, ground := Ground.data }, { on := 13, ground := Ground.data }, { on := 3, ground := Ground.guard }], guard := some (3, true) }) (v := ?v4rx14) rfl (by kernel_rfl) (by kernel_rfl) (by kernel_rfl) (fun _ _ _ h => h) (Or.inl ⟨by rfl, ?hy4rx14⟩) (by with_reducible assumption) ?rest4rx14
            case hy4rx14 => (intro wS hSw; (try dsimp only at hSw); have z0 := cell_later hSw s0; have z1 := cell_later hSw s1; have z2 := cell_later hSw s2; have z3 := cell_later hSw s3; have z4 := cell_later hSw s4; have z5 := cell_later hSw s5; clear hSw; go_simp; try with_reducible rfl)
            case' rest4rx14 => (try simp only [Act.put, List.setIfInBounds_toArray, List.set_cons_zero, List.set_cons_succ])
            refine wpAnyH_take (i := 15) (oi := { dst := some 27, op := Op.load 26 (Operand.tmp 26), type := 26, pos := "l3_hull.go:9", after := #[{ on := 14, ground := Ground.data }, { on := 3, ground := Ground.guard }], guard := some (3, true) }) (v := ?v4rx15) rfl (by kernel_rfl) (by kernel_rfl) (by kernel_rfl) (fun _ _ _ h => h) (Or.inl ⟨by rfl, ?hy4rx15⟩) (by with_reducible assumption) ?rest4rx15
            case hy4rx15 => (intro wS hSw; (try dsimp only at hSw); have z0 := cell_later hSw s0; have z1 := cell_later hSw s1; have z2 := cell_later hSw s2; have z3 := cell_later hSw s3; have z4 := cell_later hSw s4; have z5 := cell_later hSw s5; clear hSw; go_simp; try with_reducible rfl)
            case' rest4rx15 => (try simp only [Act.put, List.setIfInBounds_toArray, List.set_cons_zero, List.set_cons_succ])
            refine wpAnyH_take (i := 16) (oi := { dst := some 28, op := Op.load 26 (Operand.tmp 5), type := 26, pos := "l3_hull.go:9", after := #[{ on := 3, ground := Ground.guard }], guard := some (3, true) }) (v := ?v4rx16) rfl (by kernel_rfl) (by kernel_rfl) (by kernel_rfl) (fun _ _ _ h => h) (Or.inl ⟨by rfl, ?hy4rx16⟩) (by with_reducible assumption) ?rest4rx16
            case hy4rx16 => (intro wS hSw; (try dsimp only at hSw); have z0 := cell_later hSw s0; have z1 := cell_later hSw s1; have z2 := cell_later hSw s2; have z3 := cell_later hSw s3; have z4 := cell_later hSw s4; have z5 := cell_later hSw s5; clear hSw; go_simp; try with_reducible rfl)
            case' rest4rx16 => (try simp only [Act.put, List.setIfInBounds_toArray, List.set_cons_zero, List.set_cons_succ])
            refine wpAnyH_ready (rs := [17]) (by kernel_rfl) (by simp) ?_
            refine AllReadyH.cons (o := { dst := some 29, op := Op.call { callee := Callee.value (Operand.func 115), args := #[Operand.tmp 21, Operand.tmp 27, Operand.tmp 28], argTypes := #[26, 26, 26] }, type := 3, pos := "l3_hull.go:9", after := #[{ on := 9, ground := Ground.data }, { on := 15, ground := Ground.data }, { on := 16, ground := Ground.data }, { on := 3, ground := Ground.chain }, { on := 3, ground := Ground.guard }], guard := some (3, true) }) rfl (fun K hK => ?_) AllReadyH.nil
            go_simp
            refine (side_c _ _ _ _ _ _ _).mono ?_
            rintro e w' ⟨rfl, hb⟩
            go_wp2_with fail
            refine hK.out _ _ ?_ (fun hHeld => ?_)
            · exact grew (by with_reducible assumption) hb
            clear hK K
            try simp only [Act.put, List.setIfInBounds_toArray, List.set_cons_zero, List.set_cons_succ]
            refine wpAnyH_take (i := 18) (oi := { dst := some 30, op := Op.binOp BinOp.leq 3 (Operand.tmp 29) (Operand.const (Value.int IntKind.i64 0)) 3, type := 4, pos := "l3_hull.go:9", after := #[{ on := 17, ground := Ground.data }, { on := 3, ground := Ground.guard }], guard := some (3, true) }) (v := ?v4rx18) rfl (by kernel_rfl) (by kernel_rfl) (by kernel_rfl) (fun _ _ _ h => h) (Or.inl ⟨by rfl, ?hy4rx18⟩) (by with_reducible assumption) ?rest4rx18
            case hy4rx18 => (intro wS hSw; (try dsimp only at hSw); have z0 := cell_later hSw s0; have z1 := cell_later hSw s1; have z2 := cell_later hSw s2; have z3 := cell_later hSw s3; have z4 := cell_later hSw s4; have z5 := cell_later hSw s5; clear hSw; go_simp; try with_reducible rfl)
            case' rest4rx18 => (try simp only [Act.put, List.setIfInBounds_toArray, List.set_cons_zero, List.set_cons_succ])
            refine wpAnyH_take (i := 19) (oi := { dst := some 31, op := Op.pick (Operand.tmp 15) (Operand.tmp 30) (Operand.const (Value.bool false)), type := 4, pos := "l3_hull.go:9", after := #[{ on := 3, ground := Ground.data }, { on := 18, ground := Ground.data }], guard := none }) (v := ?v4rx19) rfl (by kernel_rfl) (by kernel_rfl) (by kernel_rfl) (fun _ _ _ h => h) (Or.inl ⟨by rfl, ?hy4rx19⟩) (by with_reducible assumption) ?rest4rx19
            case hy4rx19 => (intro wS hSw; (try dsimp only at hSw); have z0 := cell_later hSw s0; have z1 := cell_later hSw s1; have z2 := cell_later hSw s2; have z3 := cell_later hSw s3; have z4 := cell_later hSw s4; have z5 := cell_later hSw s5; clear hSw; go_simp; try with_reducible rfl)
            case' rest4rx19 => (try simp only [Act.put, List.setIfInBounds_toArray, List.set_cons_zero, List.set_cons_succ])
            refine wpAnyH_done (by kernel_rfl) ?_ _
            have hsw := hHeld.size
            have hs1 := hbA.size
            have hs2 := HBU.out.size
            have t4 := cell_later hHeld s4
            have t5 := cell_later hHeld s5
            go_wp2_with (at_builtin; refine wpList_append_cut rfl (.tmp 37) (.tmp 39) 33 rfl w.heap.size Tryd.underlying33 hi hz0 hz1 hz2 (by rfl) _ (L.take (keepB slB L (x, y) L.length)) [(x, y)] rfl (HO2.out.later (grew hHeld (by go_grown))) _ _ _ rfl rfl (fun j u hu => one_src _ x y _ rfl j u hu) (by simp) (by rw [List.length_take]; simp; omega) (by simp; omega) ?_; intro g cp w2 hO2 hg2 _; obtain ⟨ln, hln⟩ : ∃ ln, (L.take (keepB slB L (x, y) L.length)).length + [(x, y)].length = ln := ⟨_, rfl⟩; rw [hln] at hO2 ⊢; clear hln; have hB2 := OwnC.grownBelow (HO2.out.later (grew hHeld (by go_grown))) hg2 (by simp; omega); have HX := hid hO2; have HB := hid hB2; clear hg2 hO2 hB2)
            refine ⟨⟨k + 1, by omega, by go_num, ?_, ?_⟩, by simp [intOf]; omega⟩
            · rw [HS.out]
              exact HX.out
            · exact (grew (grew hbw (grew hbA (grew HBU.out hHeld))) (by go_grown)).trans HB.out
        · have hd : decide (1 < (n : Int)) = false := decide_eq_false (by omega)
          have HO2 : Hid (OwnC w.heap.size (.slice a3 n c3) (L.take (keepB slB L (x, y) L.length)) wr) := by
            refine half_step (HO.out.later (grew hbA HBU.out)) hn ?_
            rw [← HKN.out]
            exact (keepB_few hn1).symm
          have s4 := z0
          have s5 := z1
          clear z0 z1 r0 r1 hbu
          go_wp2
          refine wp_region_held_drew (S := (fun u => Below wr.heap.size wr u)) (by kernel_rfl) ?_ (fun hHeld => ?_)
          · exact (Below.refl _ _).drew
          refine wpAnyH_take (i := 0) (oi := { dst := some 12, op := Op.move (Operand.tmp 3), type := 33, pos := "l3_hull.go:9", after := #[], guard := none }) (v := ?v5rx0) rfl (by kernel_rfl) (by kernel_rfl) (by kernel_rfl) (fun _ _ _ h => h) (Or.inl ⟨by rfl, ?hy5rx0⟩) (by with_reducible assumption) ?rest5rx0
          case hy5rx0 => (intro wS hSw; (try dsimp only at hSw); have z0 := cell_later hSw s4; have z1 := cell_later hSw s5; clear hSw; go_simp; try with_reducible rfl)
          case' rest5rx0 => (try simp only [Act.put, List.setIfInBounds_toArray, List.set_cons_zero, List.set_cons_succ])
          refine wpAnyH_take (i := 1) (oi := { dst := some 13, op := Op.call { callee := Callee.builtin Builtin.len, args := #[Operand.tmp 12], argTypes := #[33] }, type := 3, pos := "l3_hull.go:9", after := #[{ on := 0, ground := Ground.data }], guard := none }) (v := ?v5rx1) rfl (by kernel_rfl) (by kernel_rfl) (by kernel_rfl) (fun _ _ _ h => h) (Or.inl ⟨by rfl, ?hy5rx1⟩) (by with_reducible assumption) ?rest5rx1
          case hy5rx1 => (intro wS hSw; (try dsimp only at hSw); have z0 := cell_later hSw s4; have z1 := cell_later hSw s5; clear hSw; go_simp; try with_reducible rfl)
          case' rest5rx1 => (try simp only [Act.put, List.setIfInBounds_toArray, List.set_cons_zero, List.set_cons_succ])
          refine wpAnyH_take (i := 2) (oi := { dst := some 14, op := Op.binOp BinOp.gtr 3 (Operand.tmp 13) (Operand.const (Value.int IntKind.i64 1)) 3, type := 4, pos := "l3_hull.go:9", after := #[{ on := 1, ground := Ground.data }], guard := none }) (v := ?v5rx2) rfl (by kernel_rfl) (by kernel_rfl) (by kernel_rfl) (fun _ _ _ h => h) (Or.inl ⟨by rfl, ?hy5rx2⟩) (by with_reducible assumption) ?rest5rx2
          case hy5rx2 => (intro wS hSw; (try dsimp only at hSw); have z0 := cell_later hSw s4; have z1 := cell_later hSw s5; clear hSw; go_simp; try with_reducible rfl)
          case' rest5rx2 => (try simp only [Act.put, List.setIfInBounds_toArray, List.set_cons_zero, List.set_cons_succ])
          refine wpAnyH_take (i := 3) (oi := { dst := some 15, op := Op.move (Operand.tmp 14), type := 4, pos := "l3_hull.go:9", after := #[{ on := 2, ground := Ground.data }], guard := none }) (v := ?v5rx3) rfl (by kernel_rfl) (by kernel_rfl) (by kernel_rfl) (fun _ _ _ h => h) (Or.inl ⟨by rfl, ?hy5rx3⟩) (by with_reducible assumption) ?rest5rx3
          case hy5rx3 => (intro wS hSw; (try dsimp only at hSw); have z0 := cell_later hSw s4; have z1 := cell_later hSw s5; clear hSw; go_simp; try with_reducible rfl)
          case' rest5rx3 => (try simp only [Act.put, List.setIfInBounds_toArray, List.set_cons_zero, List.set_cons_succ])
          refine wpAnyH_take (i := 4) (oi := { dst := some 16, op := Op.move (Operand.tmp 3), type := 33, pos := "l3_hull.go:9", after := #[{ on := 3, ground := Ground.guard }], guard := some (3, true) }) (v := undef) rfl (by kernel_rfl) (by kernel_rfl) (by kernel_rfl) (fun _ _ _ h => h) (Or.inr ⟨by rfl, rfl⟩) (by with_reducible assumption) ?rest5rx4
          case' rest5rx4 => (try simp only [Act.put, List.setIfInBounds_toArray, List.set_cons_zero, List.set_cons_succ])
          refine wpAnyH_take (i := 5) (oi := { dst := some 17, op := Op.move (Operand.tmp 3), type := 33, pos := "l3_hull.go:9", after := #[{ on := 3, ground := Ground.guard }], guard := some (3, true) }) (v := undef) rfl (by kernel_rfl) (by kernel_rfl) (by kernel_rfl) (fun _ _ _ h => h) (Or.inr ⟨by rfl, rfl⟩) (by with_reducible assumption) ?rest5rx5
          case' rest5rx5 => (try simp only [Act.put, List.setIfInBounds_toArray, List.set_cons_zero, List.set_cons_succ])
          refine wpAnyH_take (i := 6) (oi := { dst := some 18, op := Op.call { callee := Callee.builtin Builtin.len, args := #[Operand.tmp 17], argTypes := #[33] }, type := 3, pos := "l3_hull.go:9", after := #[{ on := 5, ground := Ground.data }, { on := 3, ground := Ground.guard }], guard := some (3, true) }) (v := undef) rfl (by kernel_rfl) (by kernel_rfl) (by kernel_rfl) (fun _ _ _ h => h) (Or.inr ⟨by rfl, rfl⟩) (by with_reducible assumption) ?rest5rx6
          case' rest5rx6 => (try simp only [Act.put, List.setIfInBounds_toArray, List.set_cons_zero, List.set_cons_succ])
          refine wpAnyH_take (i := 7) (oi := { dst := some 19, op := Op.binOp BinOp.sub 3 (Operand.tmp 18) (Operand.const (Value.int IntKind.i64 2)) 3, type := 3, pos := "l3_hull.go:9", after := #[{ on := 6, ground := Ground.data }, { on := 3, ground := Ground.guard }], guard := some (3, true) }) (v := undef) rfl (by kernel_rfl) (by kernel_rfl) (by kernel_rfl) (fun _ _ _ h => h) (Or.inr ⟨by rfl, rfl⟩) (by with_reducible assumption) ?rest5rx7
          case' rest5rx7 => (try simp only [Act.put, List.setIfInBounds_toArray, List.set_cons_zero, List.set_cons_succ])
          refine wpAnyH_take (i := 8) (oi := { dst := some 20, op := Op.indexAddr 33 (Operand.tmp 16) (Operand.tmp 19), type := 0, pos := "l3_hull.go:9", after := #[{ on := 4, ground := Ground.data }, { on := 7, ground := Ground.data }, { on := 3, ground := Ground.guard }], guard := some (3, true) }) (v := undef) rfl (by kernel_rfl) (by kernel_rfl) (by kernel_rfl) (fun _ _ _ h => h) (Or.inr ⟨by rfl, rfl⟩) (by with_reducible assumption) ?rest5rx8
          case' rest5rx8 => (try simp only [Act.put, List.setIfInBounds_toArray, List.set_cons_zero, List.set_cons_succ])
          refine wpAnyH_take (i := 9) (oi := { dst := some 21, op := Op.load 26 (Operand.tmp 20), type := 26, pos := "l3_hull.go:9", after := #[{ on := 8, ground := Ground.data }, { on := 3, ground := Ground.guard }], guard := some (3, true) }) (v := undef) rfl (by kernel_rfl) (by kernel_rfl) (by kernel_rfl) (fun _ _ _ h => h) (Or.inr ⟨by rfl, rfl⟩) (by with_reducible assumption) ?rest5rx9
          case' rest5rx9 => (try simp only [Act.put, List.setIfInBounds_toArray, List.set_cons_zero, List.set_cons_succ])
          refine wpAnyH_take (i := 10) (oi := { dst := some 22, op := Op.move (Operand.tmp 3), type := 33, pos := "l3_hull.go:9", after := #[{ on := 3, ground := Ground.guard }], guard := some (3, true) }) (v := undef) rfl (by kernel_rfl) (by kernel_rfl) (by kernel_rfl) (fun _ _ _ h => h) (Or.inr ⟨by rfl, rfl⟩) (by with_reducible assumption) ?rest5rx10
          case' rest5rx10 => (try simp only [Act.put, List.setIfInBounds_toArray, List.set_cons_zero, List.set_cons_succ])
          refine wpAnyH_take (i := 11) (oi := { dst := some 23, op := Op.move (Operand.tmp 3), type := 33, pos := "l3_hull.go:9", after := #[{ on := 3, ground := Ground.guard }], guard := some (3, true) }) (v := undef) rfl (by kernel_rfl) (by kernel_rfl) (by kernel_rfl) (fun _ _ _ h => h) (Or.inr ⟨by rfl, rfl⟩) (by with_reducible assumption) ?rest5rx11
          case' rest5rx11 => (try simp only [Act.put, List.setIfInBounds_toArray, List.set_cons_zero, List.set_cons_succ])
          refine wpAnyH_take (i := 12) (oi := { dst := some 24, op := Op.call { callee := Callee.builtin Builtin.len, args := #[Operand.tmp 23], argTypes := #[33] }, type := 3, pos := "l3_hull.go:9", after := #[{ on := 11, ground := Ground.data }, { on := 3, ground := Ground.guard }], guard := some (3, true) }) (v := undef) rfl (by kernel_rfl) (by kernel_rfl) (by kernel_rfl) (fun _ _ _ h => h) (Or.inr ⟨by rfl, rfl⟩) (by with_reducible assumption) ?rest5rx12
          case' rest5rx12 => (try simp only [Act.put, List.setIfInBounds_toArray, List.set_cons_zero, List.set_cons_succ])
          refine wpAnyH_take (i := 13) (oi := { dst := some 25, op := Op.binOp BinOp.sub 3 (Operand.tmp 24) (Operand.const (Value.int IntKind.i64 1)) 3, type := 3, pos := "l3_hull.go:9", after := #[{ on := 12, ground := Ground.data }, { on := 3, ground := Ground.guard }], guard := some (3, true) }) (v := undef) rfl (by kernel_rfl) (by kernel_rfl) (by kernel_rfl) (fun _ _ _ h => h) (Or.inr ⟨by rfl, rfl⟩) (by with_reducible assumption) ?rest5rx13
          case' rest5rx13 => (try simp only [Act.put, List.setIfInBounds_toArray, List.set_cons_zero, List.set_cons_succ])
          refine wpAnyH_take (i := 14) (oi := { dst := some 26, op := Op.indexAddr 33 (Operand.tmp 22) (Operand.tmp 25), type := 0, pos := "l3_hull.go:9", after := #[{ on := 10, ground := Ground.data }, { on := 13, ground := Ground.data }, { on := 3, ground := Ground.guard }], guard := some (3, true) }) (v := undef) rfl (by kernel_rfl) (by kernel_rfl) (by kernel_rfl) (fun _ _ _ h => h) (Or.inr ⟨by rfl, rfl⟩) (by with_reducible assumption) ?rest5rx14
          case' rest5rx14 => (try simp only [Act.put, List.setIfInBounds_toArray, List.set_cons_zero, List.set_cons_succ])
          refine wpAnyH_take (i := 15) (oi := { dst := some 27, op := Op.load 26 (Operand.tmp 26), type := 26, pos := "l3_hull.go:9", after := #[{ on := 14, ground := Ground.data }, { on := 3, ground := Ground.guard }], guard := some (3, true) }) (v := undef) rfl (by kernel_rfl) (by kernel_rfl) (by kernel_rfl) (fun _ _ _ h => h) (Or.inr ⟨by rfl, rfl⟩) (by with_reducible assumption) ?rest5rx15
          case' rest5rx15 => (try simp only [Act.put, List.setIfInBounds_toArray, List.set_cons_zero, List.set_cons_succ])
          refine wpAnyH_take (i := 16) (oi := { dst := some 28, op := Op.load 26 (Operand.tmp 5), type := 26, pos := "l3_hull.go:9", after := #[{ on := 3, ground := Ground.guard }], guard := some (3, true) }) (v := undef) rfl (by kernel_rfl) (by kernel_rfl) (by kernel_rfl) (fun _ _ _ h => h) (Or.inr ⟨by rfl, rfl⟩) (by with_reducible assumption) ?rest5rx16
          case' rest5rx16 => (try simp only [Act.put, List.setIfInBounds_toArray, List.set_cons_zero, List.set_cons_succ])
          refine wpAnyH_ready (rs := [17]) (by kernel_rfl) (by simp) ?_
          refine AllReadyH.cons (o := { dst := some 29, op := Op.call { callee := Callee.value (Operand.func 115), args := #[Operand.tmp 21, Operand.tmp 27, Operand.tmp 28], argTypes := #[26, 26, 26] }, type := 3, pos := "l3_hull.go:9", after := #[{ on := 9, ground := Ground.data }, { on := 15, ground := Ground.data }, { on := 16, ground := Ground.data }, { on := 3, ground := Ground.chain }, { on := 3, ground := Ground.guard }], guard := some (3, true) }) rfl (fun K hK => ?_) AllReadyH.nil
          go_simp
          refine hK.out _ _ ?_ (fun hHeld => ?_)
          · with_reducible assumption
          clear hK K
          try simp only [Act.put, List.setIfInBounds_toArray, List.set_cons_zero, List.set_cons_succ]
          refine wpAnyH_take (i := 18) (oi := { dst := some 30, op := Op.binOp BinOp.leq 3 (Operand.tmp 29) (Operand.const (Value.int IntKind.i64 0)) 3, type := 4, pos := "l3_hull.go:9", after := #[{ on := 17, ground := Ground.data }, { on := 3, ground := Ground.guard }], guard := some (3, true) }) (v := undef) rfl (by kernel_rfl) (by kernel_rfl) (by kernel_rfl) (fun _ _ _ h => h) (Or.inr ⟨by rfl, rfl⟩) (by with_reducible assumption) ?rest5rx18
          case' rest5rx18 => (try simp only [Act.put, List.setIfInBounds_toArray, List.set_cons_zero, List.set_cons_succ])
          refine wpAnyH_take (i := 19) (oi := { dst := some 31, op := Op.pick (Operand.tmp 15) (Operand.tmp 30) (Operand.const (Value.bool false)), type := 4, pos := "l3_hull.go:9", after := #[{ on := 3, ground := Ground.data }, { on := 18, ground := Ground.data }], guard := none }) (v := ?v5rx19) rfl (by kernel_rfl) (by kernel_rfl) (by kernel_rfl) (fun _ _ _ h => h) (Or.inl ⟨by rfl, ?hy5rx19⟩) (by with_reducible assumption) ?rest5rx19
          case hy5rx19 => (intro wS hSw; (try dsimp only at hSw); have z0 := cell_later hSw s4; have z1 := cell_later hSw s5; clear hSw; go_simp; try with_reducible rfl)
          case' rest5rx19 => (try simp only [Act.put, List.setIfInBounds_toArray, List.set_cons_zero, List.set_cons_succ])
          refine wpAnyH_done (by kernel_rfl) ?_ _
          generalize wr.drew = wd at hHeld ⊢
          have hsw := hHeld.size
          have hs1 := hbA.size
          have hs2 := HBU.out.size
          have t4 := cell_later hHeld s4
          have t5 := cell_later hHeld s5
          go_wp2_with (at_builtin; refine wpList_append_cut rfl (.tmp 37) (.tmp 39) 33 rfl w.heap.size Tryd.underlying33 hi hz0 hz1 hz2 (by rfl) _ (L.take (keepB slB L (x, y) L.length)) [(x, y)] rfl (HO2.out.later (grew hHeld (by go_grown))) _ _ _ rfl rfl (fun j u hu => one_src _ x y _ rfl j u hu) (by simp) (by rw [List.length_take]; simp; omega) (by simp; omega) ?_; intro g cp w2 hO2 hg2 _; obtain ⟨ln, hln⟩ : ∃ ln, (L.take (keepB slB L (x, y) L.length)).length + [(x, y)].length = ln := ⟨_, rfl⟩; rw [hln] at hO2 ⊢; clear hln; have hB2 := OwnC.grownBelow (HO2.out.later (grew hHeld (by go_grown))) hg2 (by simp; omega); have HX := hid hO2; have HB := hid hB2; clear hg2 hO2 hB2)
          refine ⟨⟨k + 1, by omega, by go_num, ?_, ?_⟩, by simp [intOf]; omega⟩
          · rw [HS.out]
            exact HX.out
          · exact (grew (grew hbw (grew hbA (grew HBU.out hHeld))) (by go_grown)).trans HB.out
    · obtain rfl : k = l.length := by omega
      rw [List.take_length] at hO
      go_wp2
      go_ret
      exact ⟨_, rfl, hO, hbw⟩
end Go.Proofs.YtipiamhnngmjmaaDoor
namespace Go.Proofs.YtipiamhnngmjmaaDoor
open Go.RowKit
set_option linter.unusedVariables false
set_option maxRecDepth 8000
theorem back_step {l : List (Int × Int)} {m : Nat} (h : m < l.length) : (l.drop m).reverse = (l.drop (m + 1)).reverse ++ [(px l m, py l m)] := by
  rw [List.drop_eq_getElem_cons h, List.reverse_cons]
  have e : (px l m, py l m) = l[m] := by simp [px, py, h]
  rw [e]
set_option maxHeartbeats 2000000 in
theorem l3Back_c (l : List (Int × Int)) (a : Option Addr) (len cap : Nat) (w : World) (hl : l.length = len) (h1 : len ≤ 1048576) (hA : At w.heap.size a l w) :
    Calls Tryd.prog 102 #[.slice a len cap] w fun e w' => ∃ v, e = .returned v ∧ OwnC w.heap.size v l.reverse w' ∧ Below w.heap.size w w' := by
  subst hl
  have HA := hid hA
  clear hA
  obtain ⟨i0, hi, hz0, hz1, hz2⟩ := info_parts info_pt
  go_enter Tryd.func102, Tryd.ntmps102
  go_wp2
  go_loopw [3, 4] (fun o i wr => ∃ j : Nat, j ≤ l.length ∧ i = .int .i64 ((j : Int) - 1) ∧ OwnC w.heap.size o (l.drop j).reverse wr ∧ Below w.heap.size w wr) (fun o i _ => (intOf i + 1).toNat)
  case atStart =>
    refine ⟨l.length, Nat.le_refl _, ?_, by rw [List.drop_length]; exact OwnC.nil _ _, Below.refl _ _⟩
    first | rfl | (congr 1; unfold wrap64; omega) | (congr 1; rw [IntKind.wrap_i64]; omega)
  case round =>
    obtain ⟨j, hj, rfl, hO, hbw⟩ := hrel
    have HO := hid hO
    have HB := hid hbw
    cases j with
    | zero =>
      clear hO
      go_wp2
      go_ret
      exact ⟨_, rfl, by have := HO.out; simpa using this, hbw⟩
    | succ m =>
      obtain ⟨b, off, rfl, hbN, g0, g1⟩ := HA.out m (by omega)
      have q0 := cell_later hbw g0
      have q1 := cell_later hbw g1
      have hsz := hbw.size
      have hidx : ((m + 1 : Nat) : Int) - 1 = (m : Int) := by omega
      have hst := hid (back_step (l := l) (m := m) (by omega))
      have hlen : (l.drop (m + 1)).reverse.length + 1 ≤ 1048576 := by rw [List.length_reverse, List.length_drop]; omega
      obtain ⟨R, hR⟩ : ∃ R, (l.drop (m + 1)).reverse = R := ⟨_, rfl⟩
      rw [hR] at hst hlen HO
      obtain ⟨a3, c3, hv3⟩ := HO.out.shape
      subst hv3
      obtain ⟨x, hx⟩ : ∃ x, px l m = x := ⟨_, rfl⟩
      obtain ⟨y, hy⟩ : ∃ y, py l m = y := ⟨_, rfl⟩
      rw [hx, hy] at hst
      rw [hx] at q0
      rw [hy] at q1
      rw [hidx]
      have hm0 : (0 : Int) ≤ (m : Int) := by omega
      have hm1 : (m : Int) < (l.length : Int) := by omega
      clear g0 g1 hR hx hy hO hbw
      go_wp2_with (at_builtin; refine wpList_append_cut rfl (.tmp 12) (.tmp 17) 33 rfl w.heap.size Tryd.underlying33 hi hz0 hz1 hz2 (by rfl) _ R [(x, y)] rfl (HO.out.later (by go_grown)) _ _ _ rfl rfl (fun j u hu => one_src _ x y _ rfl j u hu) (by simp) (by simpa using hlen) (by simp; omega) ?_; intro g cp w2 hO2 hg2 _; obtain ⟨ln, hln⟩ : ∃ ln, R.length + [(x, y)].length = ln := ⟨_, rfl⟩; rw [hln] at hO2 ⊢; clear hln; have hB2 := OwnC.grownBelow (HO.out.later (by go_grown)) hg2 (by simp; omega); have HX := hid hO2; have HB2 := hid hB2; clear hg2 hO2 hB2)
      go_roundw
      case rel =>
        refine ⟨m, by omega, by first | rfl | go_num | (congr 1; unfold wrap64; omega) | (congr 1; omega), ?_, (grew HB.out (by go_grown)).trans HB2.out⟩
        rw [hst.out]
        exact HX.out
      case measure => first | (simp [intOf]; done) | (simp [intOf]; omega)
end Go.Proofs.YtipiamhnngmjmaaDoor
namespace Go.Proofs.YtipiamhnngmjmaaDoor
open Go.RowKit
set_option linter.unusedVariables false
set_option maxRecDepth 8000
def noDefer (ops : Array Oper) : Bool := ops.all fun o => match o.op with | .defer _ => false | _ => true
def noOut (Q : Exit → Act → World → Prop) : Exit → Act → World → Prop := fun e a w => match e with | .outgrown => False | e => Q e a w
section
variable {P : Program} {ops : Array Oper} {Q : Exit → Act → World → Prop} {l n : Nat}
theorem not_lets (h : LetsOut (noOut Q)) : False := by
  obtain ⟨a, w, h⟩ := h
  exact h
theorem oper_lift {o : Oper} {a : Act} {w : World} {K K' : Act → World → Prop} (ho : ∀ c, o.op ≠ .defer c) (hK : ∀ a w, K a w → K' a w) (h : o.wp P a w K (noOut Q)) : o.wpIn (Fence.wide.inRound l) n P a w K' Q := by
  refine ⟨fun _ _ => trivial, ?_⟩
  have hd : (Fence.wide.inRound l).depth.isSome = true → 1 ≤ n := fun h => by simp [Fence.wide] at h
  rw [Oper.semAt_eq _ _ o ho]
  unfold Oper.wp at h
  generalize (execOp a.eval o).run P w = r at *
  cases r with
  | ok x w' =>
    cases x <;> simp only [Oper.upon, Oper.uponIn] at h ⊢
    case value v => exact hK _ _ h
    case skip => exact hK _ _ h
    case defer d => exact hK _ _ h
    case enter f args =>
      refine ⟨hd, CallsIn.inRound l (callsIn_wide.2 (Calls.mono h fun e w'' he => ?_))⟩
      cases e with
      | returned v => exact hK _ _ he
      | panicked c => exact he
      | outgrown => exact (not_lets he).elim
    case row row args => exact ⟨hd, fun c cs _ => let ⟨v, w', r, s⟩ := h c cs; ⟨v, w', hK _ _ r, stepsIn_wide.2 s⟩⟩
  | halt x w' =>
    cases x <;> simp only [Oper.upon, Oper.uponIn] at h ⊢
    case panic v => exact h
theorem noDefer_spec (hd : noDefer ops = true) {i : Nat} {o : Oper} (ho : ops[i]? = some o) (c : Call) : o.op ≠ .defer c := by
  intro e
  unfold noDefer at hd
  rw [Array.all_eq_true] at hd
  obtain ⟨hi, rfl⟩ := Array.getElem?_eq_some_iff.1 ho
  have := hd i hi
  rw [e] at this
  cases this
theorem any_lift {md : Region.Mode} (hd : noDefer ops = true) : ∀ (fuel : Nat) (listed : Array Bool) (a : Act) (w : World), wpAny P md ops (noOut Q) fuel listed a w → wpAnyIn (Fence.wide.inRound l) n P md ops Q fuel listed a w
  | 0, _, _, _, h => h
  | fuel + 1, listed, a, w, h => by
    refine ⟨h.1, fun i hi => ?_⟩
    have h2 := h.2 i hi
    unfold wpOp at h2
    unfold wpOpIn
    cases ho : ops[i]? with
    | none =>
      simp only [ho] at h2 ⊢
      exact any_lift hd fuel _ a w h2
    | some o =>
      simp only [ho] at h2 ⊢
      split
      · rename_i hw
        simp only [hw, if_true] at h2
        rcases h2 with h2 | ⟨_, h2⟩
        · exact oper_lift (noDefer_spec hd ho) (fun a w => any_lift hd fuel _ a w) h2
        · exact (not_lets h2).elim
      · rename_i hw
        simp only [hw] at h2
        exact ⟨fun _ _ => trivial, any_lift hd fuel _ _ w h2⟩
theorem wpIn_region_lift {S : World → Prop} {id : Nat} {a : Act} {w : World} (hd : noDefer ops = true) (hm : P.follows .mixedOrders = true) (hS : S w.drew)
    (h : S w.drew → wpAnyH P .any ops (noOut Q) S ops.size (Array.replicate ops.size false) a w.drew) : (Code.region id ops true).wpIn (Fence.wide.inRound l) n P Q a w :=
  wpIn_region_any hm (any_lift hd _ _ _ _ (wpAny_of_held _ _ _ _ (h hS)))
end
end Go.Proofs.YtipiamhnngmjmaaDoor
namespace Go.Proofs.YtipiamhnngmjmaaDoor
open Go.RowKit Go.Shelf
attribute [local go_sem] Oper.semAt_some
set_option linter.unusedVariables false
set_option maxRecDepth 8000
/-- A point as it is handed out. -/
def encP (p : Int × Int) : Array Value := #[.agg #[.int .i64 p.1, .int .i64 p.2]]
set_option maxRecDepth 100000 in
set_option maxHeartbeats 2000000 in
theorem fwd_stops (n : Nat) (hn : 1 ≤ n) (Bs n₀ : Nat) (a : Option Addr) (len cap : Nat) (l : List (Int × Int)) (w : World) (hl : l.length = len) (h1 : len ≤ 1048576) (hBs : Bs < n₀) (hn₀ : n₀ ≤ w.heap.size) (hc : w.cell? ⟨Bs, 0, none⟩ = some (.slice a len cap)) (hA : At n₀ a l w) :
    SeqStopsK Fence.wide n Tryd.prog 109 #[.pointer (some ⟨Bs, 0, none⟩)] encP (Below n₀) (fun ys => ys = l) (fun _ => True) len w := fun lp J Jx W hW _ _ hY h0 => by
  subst hl
  have hc' := (hW.cell (p := ⟨Bs, 0, none⟩) (by show Bs < _; omega)).trans hc
  have hA' : At n₀ a l W := fun i hi => by
    obtain ⟨b, off, e, hb, g0, g1⟩ := hA i hi
    exact ⟨b, off, e, hb, (hW.cell (p := ⟨b, _, none⟩) (by show b < _; omega)).trans g0, (hW.cell (p := ⟨b, _, none⟩) (by show b < _; omega)).trans g1⟩
  clear hc hA
  refine callsIn_of_wp Tryd.func109 rfl trivial ?_ rfl
  simp only [Tryd.ntmps109, List.size_toArray, List.length_cons, List.length_nil, Nat.reduceAdd, Nat.reduceSub, Array.replicate_succ, Array.replicate_zero, List.push_toArray, List.append_toArray, List.nil_append, List.cons_append]
  gi_wp2
  gi_loopw [3] (fun i wr => ∃ k : Nat, k ≤ l.length ∧ i = .int .i64 k ∧ J (l.take k) wr ∧ Below n₀ W wr) (fun i _ => l.length - (intOf i).toNat)
  case atStart => exact ⟨0, Nat.zero_le _, rfl, h0, Below.refl _ _⟩
  case round =>
    obtain ⟨k, hk, rfl, hJs, hnx⟩ := hrel
    have hcr := (hnx.cell (p := ⟨Bs, 0, none⟩) hBs).trans hc'
    by_cases hlt : k < l.length
    · obtain ⟨b, off, e, hb, g0, g1⟩ := hA' k hlt
      have q0 := (hnx.cell (p := ⟨b, off + k * 2, none⟩) hb).trans g0
      have q1 := (hnx.cell (p := ⟨b, off + k * 2 + 1, none⟩) hb).trans g1
      subst e
      obtain ⟨fn, tmps, assign, body, hy, hR⟩ := hY (l.take k) (px l k, py l k) wr hJs (by rw [List.length_take]; omega)
      dsimp only [encP] at hy
      clear g0 g1
      gi_wp2
      refine hR.mono ?_
      rintro e W3 (⟨rfl, hJ3, hk3⟩ | ⟨rfl, hJx3⟩)
      · gi_wp2
        go_roundw
        case rel => exact ⟨k + 1, by omega, by simp, by rw [pt_take hlt]; exact hJ3, hnx.trans hk3⟩
        case measure => simp [intOf]; omega
      · gi_wp2
        refine bodyPost_ret (results_none rfl _ _ _) rfl ?_
        exact ⟨⟨_, rfl⟩, .inr ⟨_, trivial, hJx3⟩⟩
    · obtain rfl : k = l.length := by omega
      rw [List.take_length] at hJs
      gi_wp2
      go_end0
      exact ⟨⟨_, rfl⟩, .inl ⟨_, rfl, hJs⟩⟩
set_option maxRecDepth 100000 in
set_option maxHeartbeats 2000000 in
theorem bwd_stops (n : Nat) (hn : 1 ≤ n) (Bs n₀ : Nat) (a : Option Addr) (len cap : Nat) (l : List (Int × Int)) (w : World) (hl : l.length = len) (h1 : len ≤ 1048576) (hBs : Bs < n₀) (hn₀ : n₀ ≤ w.heap.size) (hc : w.cell? ⟨Bs, 0, none⟩ = some (.slice a len cap)) (hA : At n₀ a l w) :
    SeqStopsK Fence.wide n Tryd.prog 110 #[.pointer (some ⟨Bs, 0, none⟩)] encP (Below n₀) (fun ys => ys = l.reverse) (fun _ => True) len w := fun lp J Jx W hW _ _ hY h0 => by
  subst hl
  have hc' := (hW.cell (p := ⟨Bs, 0, none⟩) (by show Bs < _; omega)).trans hc
  have hA' : At n₀ a l W := fun i hi => by
    obtain ⟨b, off, e, hb, g0, g1⟩ := hA i hi
    exact ⟨b, off, e, hb, (hW.cell (p := ⟨b, _, none⟩) (by show b < _; omega)).trans g0, (hW.cell (p := ⟨b, _, none⟩) (by show b < _; omega)).trans g1⟩
  clear hc hA
  refine callsIn_of_wp Tryd.func110 rfl trivial ?_ rfl
  simp only [Tryd.ntmps110, List.size_toArray, List.length_cons, List.length_nil, Nat.reduceAdd, Nat.reduceSub, Array.replicate_succ, Array.replicate_zero, List.push_toArray, List.append_toArray, List.nil_append, List.cons_append]
  gi_wp2
  gi_loopw [3] (fun i wr => ∃ j : Nat, j ≤ l.length ∧ i = .int .i64 ((j : Int) - 1) ∧ J (l.drop j).reverse wr ∧ Below n₀ W wr) (fun i _ => (intOf i + 1).toNat)
  case atStart =>
    refine ⟨l.length, Nat.le_refl _, ?_, by rw [List.drop_length]; exact h0, Below.refl _ _⟩
    first | rfl | (congr 1; unfold wrap64; omega) | (congr 1; rw [IntKind.wrap_i64]; omega)
  case round =>
    obtain ⟨j, hj, rfl, hJs, hnx⟩ := hrel
    have hcr := (hnx.cell (p := ⟨Bs, 0, none⟩) hBs).trans hc'
    cases j with
    | zero =>
      rw [List.drop_zero] at hJs
      gi_wp2
      go_end0
      exact ⟨⟨_, rfl⟩, .inl ⟨_, rfl, hJs⟩⟩
    | succ m =>
      have hlt : m < l.length := by omega
      have hidx : ((m + 1 : Nat) : Int) - 1 = (m : Int) := by omega
      rw [hidx]
      obtain ⟨b, off, e, hb, g0, g1⟩ := hA' m hlt
      have q0 := (hnx.cell (p := ⟨b, off + m * 2, none⟩) hb).trans g0
      have q1 := (hnx.cell (p := ⟨b, off + m * 2 + 1, none⟩) hb).trans g1
      subst e
      have hm0 : (0 : Int) ≤ (m : Int) := by omega
      have hm1 : (m : Int) < (l.length : Int) := by omega
      obtain ⟨fn, tmps, assign, body, hy, hR⟩ := hY _ (px l m, py l m) wr hJs (by rw [List.length_reverse, List.length_drop]; omega)
      dsimp only [encP] at hy
      clear g0 g1
      gi_wp2
      refine hR.mono ?_
      rintro e W3 (⟨rfl, hJ3, hk3⟩ | ⟨rfl, hJx3⟩)
      · gi_wp2
        go_roundw
        case rel => exact ⟨m, by omega, by first | rfl | go_num | (congr 1; unfold wrap64; omega), by rw [back_step hlt]; exact hJ3, hnx.trans hk3⟩
        case measure => first | (simp [intOf]; done) | (simp [intOf]; omega)
      · gi_wp2
        refine bodyPost_ret (results_none rfl _ _ _) rfl ?_
        exact ⟨⟨_, rfl⟩, .inr ⟨_, trivial, hJx3⟩⟩
theorem forward_c (a : Option Addr) (len cap : Nat) (w : World) :
    Calls Tryd.prog 91 #[.slice a len cap] w fun e w' => e = .returned (.func (.func 109) #[] #[.pointer (some ⟨w.heap.size, 0, none⟩)]) ∧ w.alloc (.cells #[.slice a len cap] 33) = w' := by
  go_enter Tryd.func91, Tryd.ntmps91
  go_wp2
  go_ret
  exact ⟨rfl, rfl⟩
theorem backward_c (a : Option Addr) (len cap : Nat) (w : World) :
    Calls Tryd.prog 92 #[.slice a len cap] w fun e w' => e = .returned (.func (.func 110) #[] #[.pointer (some ⟨w.heap.size, 0, none⟩)]) ∧ w.alloc (.cells #[.slice a len cap] 33) = w' := by
  go_enter Tryd.func92, Tryd.ntmps92
  go_wp2
  go_ret
  exact ⟨rfl, rfl⟩
end Go.Proofs.YtipiamhnngmjmaaDoor
namespace Go.Proofs.YtipiamhnngmjmaaDoor
open Go.RowKit Go.Shelf
attribute [local go_sem] Oper.semAt_some
set_option linter.unusedVariables false
set_option maxRecDepth 8000
theorem OwnC.kept {N : Nat} {v : Value} {l : List (Int × Int)} {W W' : World} {row : Option Nat} (h : OwnC N v l W) (hg : W.grownBy W' row) (hr : ∀ r, row = some r → ∃ o : Obj, W.heap[r]? = some o ∧ o.isCells = false) : OwnC N v l W' := by
  rcases h with h | ⟨g, c, M, f, e, h1, h2, h3, hM, ⟨cc, k1, k2, k3⟩, h5⟩
  · exact .inl h
  · refine .inr ⟨g, c, M, f, e, h1, h2, h3, hM, ⟨cc, (hg.block g (Array.getElem?_eq_some_iff.1 k1).1 ?_).trans k1, k2, k3⟩, h5⟩
    intro e'
    obtain ⟨o, ho, hc⟩ := hr g e'.symm
    rw [k1] at ho
    cases ho
    cases hc
theorem OwnC.isCells {N : Nat} {v : Value} {l : List (Int × Int)} {W : World} (h : OwnC N v l W) : ∀ r, v.ownBlock = some r → N ≤ r ∧ ∃ o : Obj, W.heap[r]? = some o ∧ o.isCells = true := by
  intro r hr
  rcases h with ⟨_, rfl⟩ | ⟨g, c, M, f, rfl, h1, h2, h3, hM, ⟨cc, k1, k2, k3⟩, h5⟩
  · simp [Value.ownBlock] at hr
  · simp [Value.ownBlock] at hr
    subst hr
    exact ⟨h1, _, k1, rfl⟩
/-- What a round of the chain's loop keeps. -/
theorem chain_keeps {B N : Nat} {W W1 W2 : World} {v u : Value} {l : List (Int × Int)} (hN : B < N) (hb : Below W.heap.size W W1) (ho : OwnC N v l W1) (hg : W1.grownBy W2 v.ownBlock) : KeepsFrom (B + 1) W (W2.setCell ⟨B, 0, none⟩ u) := by
  refine ⟨by rw [World.size_setCell]; exact Nat.le_trans hb.size hg.size, fun k o hk h0 hc => ?_⟩
  have hlt := (Array.getElem?_eq_some_iff.1 h0).1
  have h1 := (hb.block k hlt).trans h0
  have h2 : W2.heap[k]? = some o := by
    refine (hg.block k (Array.getElem?_eq_some_iff.1 h1).1 (fun e => ?_)).trans h1
    obtain ⟨_, o', ho', hc'⟩ := ho.isCells k e.symm
    rw [h1] at ho'
    cases ho'
    rw [hc] at hc'
    cases hc'
  exact (Below.heap_setCell W2 _ u k (by show k ≠ B; omega)).trans h2
theorem keeps_below {B : Nat} {W W' : World} (hb : Below W.heap.size W W') : KeepsFrom B W W' := ⟨hb.size, fun k o _ h0 _ => (hb.block k (Array.getElem?_eq_some_iff.1 h0).1).trans h0⟩
theorem half_stepT {t : Int × Int → Int × Int → Int × Int → Bool} {N : Nat} {a : Option Addr} {c n : Nat} {L : List (Int × Int)} {p : Int × Int} {u : World} (hO : OwnC N (.slice a L.length c) L u) (hn : n ≤ L.length) (hk : n = keepB t L p L.length) : OwnC N (.slice a n c) (L.take (keepB t L p L.length)) u := by
  subst hk
  refine hO.take hn ?_ (Nat.le_refl _)
  rcases hO.fit with ⟨rfl, rfl, h0⟩ | ⟨_, h1, _⟩ <;> omega
theorem keepB_few' {t : Int × Int → Int × Int → Int × Int → Bool} {l : List (Int × Int)} {p : Int × Int} {n : Nat} (h : n ≤ 1) : keepB t l p n = n := keepB_one n h
theorem boxed_kept {B t : Nat} {v : Value} {N : Nat} {l : List (Int × Int)} {u : Value} {W1 W2 : World} (h : Boxed W1 B t v) (hN : B < N) (ho : OwnC N u l W1) (hg : W1.grownBy W2 u.ownBlock) : Boxed W2 B t v :=
  (hg.block B (Array.getElem?_eq_some_iff.1 h).1 (fun e => by have := (ho.isCells B e.symm).1; omega)).trans h
theorem boxed_later {W W' : World} {B t : Nat} {v : Value} (h : Boxed W B t v) (hb : Below W.heap.size W W') : Boxed W' B t v := (hb.block B (Array.getElem?_eq_some_iff.1 h).1).trans h
theorem reg7_below {B N : Nat} {W W1 W2 : World} {v u : Value} {l : List (Int × Int)} (hN : B < N) (hb : Below W.heap.size W W1) (ho : OwnC N v l W1) (hg : W1.grownBy W2 v.ownBlock) (hNw : N ≤ W.heap.size) : Below B W (W2.setCell ⟨B, 0, none⟩ u) :=
  (((hb.mono (by omega)).trans ((ho.grownBelow hg (Nat.le_trans hNw hb.size)).mono (by omega))) : Below B W W2).setCell (p := ⟨B, 0, none⟩) (Nat.le_refl _) _
set_option maxRecDepth 100000 in
set_option maxHeartbeats 800000 in
/-- The round's end: the point laid behind what stays of the chain. -/
theorem reg7 (l m N B Bx n cl : Nat) (q x y : Int) (a3 : Option Addr) (c3 : Nat) (Lk : List (Int × Int)) (Q : Exit → Act → World → Prop) (w' : World) (t0 t1 t2 t6 t7 t8 t9 t10 t11 t12 t13 t14 t15 t16 t17 t18 t19 t20 t21 t22 t23 t24 t25 t26 t27 t28 t29 t30 t31 t32 t33 t34 t35 t36 t37 t38 t39 t40 t41 : Value)
    (hQp : ∀ c a a' w, Q (.panic c) a w → Q (.panic c) a' w) (hbb : Hid (Boxed w' B 33 (.slice a3 cl c3))) (p0 : w'.cell? ⟨Bx, 0, none⟩ = some (.int .i64 x)) (p1 : w'.cell? ⟨Bx, 1, none⟩ = some (.int .i64 y))
    (hq1 : IntKind.i64.wrap (q + 1) = (n : Int)) (hn0 : (n : Int) ≤ (c3 : Int)) (HO2 : Hid (OwnC N (.slice a3 n c3) Lk w')) (hNw : N ≤ w'.heap.size) (hBN : B < N) (hlen : Lk.length + [(x, y)].length ≤ 1048576)
    (hQ : ∀ a' w3 v, KeepsFrom (B + 1) w' w3 → Below B w' w3 → Boxed w3 B 33 v → OwnC N v (Lk ++ [(x, y)]) w3 → Q .normal a' w3) :
    (Code.region 7 #[{ dst := some 29, op := Op.load 33 (Operand.tmp 3), type := 33, pos := "l3_hull.go:101", after := #[], guard := none },
{ dst := some 30, op := Op.move (Operand.tmp 5), type := 3, pos := "l3_hull.go:101", after := #[], guard := none },
{ dst := some 31, op := Op.binOp BinOp.add 3 (Operand.tmp 30) (Operand.const (Value.int IntKind.i64 1)) 3, type := 3, pos := "l3_hull.go:101", after := #[{ on := 1, ground := Ground.data }], guard := none },
{ dst := some 32, op := Op.slice 33 (Operand.tmp 29) none (some (Operand.tmp 31)) none, type := 33, pos := "l3_hull.go:101", after := #[{ on := 0, ground := Ground.data }, { on := 2, ground := Ground.data }], guard := none },
{ dst := some 33, op := Op.load 26 (Operand.tmp 4), type := 26, pos := "l3_hull.go:101", after := #[], guard := none },
{ dst := some 34, op := Op.buildSlice 33 1 #[(0, Operand.tmp 33)], type := 33, pos := "l3_hull.go:101", after := #[{ on := 4, ground := Ground.data }], guard := none },
{ dst := some 35, op := Op.call { callee := Callee.builtin Builtin.append, args := #[Operand.tmp 32, Operand.tmp 34], argTypes := #[33, 33] }, type := 33, pos := "l3_hull.go:101", after := #[{ on := 3, ground := Ground.data }, { on := 5, ground := Ground.data }], guard := none },
{ dst := none, op := Op.store 33 (Operand.tmp 3) (Operand.tmp 35), type := 0, pos := "l3_hull.go:101", after := #[{ on := 6, ground := Ground.data }, { on := 6, ground := Ground.chain }, { on := 0, ground := Ground.phase }, { on := 1, ground := Ground.phase }, { on := 2, ground := Ground.phase }, { on := 3, ground := Ground.phase }, { on := 4, ground := Ground.phase }, { on := 5, ground := Ground.phase }, { on := 6, ground := Ground.phase }], guard := none }] true).wpIn (Fence.wide.inRound l) m Tryd.prog Q { tmps := #[t0, t1, t2, .pointer (some ⟨B, 0, none⟩), .pointer (some ⟨Bx, 0, none⟩), .int .i64 q, t6, t7, t8, t9, t10, t11, t12, t13, t14, t15, t16, t17, t18, t19, t20, t21, t22, t23, t24, t25, t26, t27, t28, t29, t30, t31, t32, t33, t34, t35, t36, t37, t38, t39, t40, t41], defers := [] } w' := by
  obtain ⟨i0, hi, hz0, hz1, hz2⟩ := info_parts info_pt
  refine wpIn_region_lift (by kernel_rfl) (S := (fun _ => True)) (by kernel_rfl) ?_ (fun hHeld => ?_)
  · trivial
  have hbd : Below w'.heap.size w' w'.drew := (Below.refl _ _).drew
  generalize w'.drew = wd at hbd ⊢
  have dB := cell_later hbd hbb.out.cell
  have d0 := cell_later hbd p0
  have d1 := cell_later hbd p1
  refine wpAnyH_take (i := 1) (oi := { dst := some 30, op := Op.move (Operand.tmp 5), type := 3, pos := "l3_hull.go:101", after := #[], guard := none }) (v := ?v1rx1) rfl (by kernel_rfl) (by kernel_rfl) (by kernel_rfl) (fun c a w h => hQp c _ _ w h) (Or.inl ⟨by rfl, ?hy1rx1⟩) trivial ?rest1rx1
  case hy1rx1 => (intro wS hSw; (try dsimp only at hSw);  clear hSw; go_simp; try with_reducible rfl)
  case' rest1rx1 => (try simp only [Act.put, List.setIfInBounds_toArray, List.set_cons_zero, List.set_cons_succ])
  refine wpAnyH_take (i := 2) (oi := { dst := some 31, op := Op.binOp BinOp.add 3 (Operand.tmp 30) (Operand.const (Value.int IntKind.i64 1)) 3, type := 3, pos := "l3_hull.go:101", after := #[{ on := 1, ground := Ground.data }], guard := none }) (v := ?v1rx2) rfl (by kernel_rfl) (by kernel_rfl) (by kernel_rfl) (fun c a w h => hQp c _ _ w h) (Or.inl ⟨by rfl, ?hy1rx2⟩) trivial ?rest1rx2
  case hy1rx2 => (intro wS hSw; (try dsimp only at hSw);  clear hSw; go_simp; try with_reducible rfl)
  case' rest1rx2 => (try simp only [Act.put, List.setIfInBounds_toArray, List.set_cons_zero, List.set_cons_succ])
  refine wpAnyH_ready (rs := [0, 4]) (by kernel_rfl) (by simp) ?_
  refine AllReadyH.cons (o := { dst := some 29, op := Op.load 33 (Operand.tmp 3), type := 33, pos := "l3_hull.go:101", after := #[], guard := none }) rfl (fun K hK => ?_) (AllReadyH.cons (o := { dst := some 33, op := Op.load 26 (Operand.tmp 4), type := 26, pos := "l3_hull.go:101", after := #[], guard := none }) rfl (fun K hK => ?_) AllReadyH.nil)
  · go_simp
    refine hK.out _ _ trivial (fun _ => ?_)
    clear hK K
    try simp only [Act.put, List.setIfInBounds_toArray, List.set_cons_zero, List.set_cons_succ]
    refine wpAnyH_take (i := 3) (oi := { dst := some 32, op := Op.slice 33 (Operand.tmp 29) none (some (Operand.tmp 31)) none, type := 33, pos := "l3_hull.go:101", after := #[{ on := 0, ground := Ground.data }, { on := 2, ground := Ground.data }], guard := none }) (v := ?v2rx3) rfl (by kernel_rfl) (by kernel_rfl) (by kernel_rfl) (fun c a w h => hQp c _ _ w h) (Or.inl ⟨by rfl, ?hy2rx3⟩) trivial ?rest2rx3
    case hy2rx3 => (intro wS hSw; (try dsimp only at hSw);  clear hSw; go_simp; try with_reducible rfl)
    case' rest2rx3 => (try simp only [Act.put, List.setIfInBounds_toArray, List.set_cons_zero, List.set_cons_succ])
    refine wpAnyH_ready (rs := [4]) (by kernel_rfl) (by simp) ?_
    refine AllReadyH.cons (o := { dst := some 33, op := Op.load 26 (Operand.tmp 4), type := 26, pos := "l3_hull.go:101", after := #[], guard := none }) rfl (fun K hK => ?_) AllReadyH.nil
    go_simp
    refine hK.out _ _ trivial (fun _ => ?_)
    clear hK K
    try simp only [Act.put, List.setIfInBounds_toArray, List.set_cons_zero, List.set_cons_succ]
    refine wpAnyH_ready (rs := [5]) (by kernel_rfl) (by simp) ?_
    refine AllReadyH.cons (o := { dst := some 34, op := Op.buildSlice 33 1 #[(0, Operand.tmp 33)], type := 33, pos := "l3_hull.go:101", after := #[{ on := 4, ground := Ground.data }], guard := none }) rfl (fun K hK => ?_) AllReadyH.nil
    go_simp
    refine hK.out _ _ trivial (fun _ => ?_)
    clear hK K
    have hns := one_src wd x y _ rfl
    have hbe : Below wd.heap.size wd (wd.alloc (.cells #[.int .i64 x, .int .i64 y] 26)) := by go_grown
    generalize wd.alloc (.cells #[.int .i64 x, .int .i64 y] 26) = we at hns hbe ⊢
    have eB := cell_later hbe dB
    clear dB
    try simp only [Act.put, List.setIfInBounds_toArray, List.set_cons_zero, List.set_cons_succ]
    refine wpAnyH_ready (rs := [6]) (by kernel_rfl) (by simp) ?_
    refine AllReadyH.cons (o := { dst := some 35, op := Op.call { callee := Callee.builtin Builtin.append, args := #[Operand.tmp 32, Operand.tmp 34], argTypes := #[33, 33] }, type := 33, pos := "l3_hull.go:101", after := #[{ on := 3, ground := Ground.data }, { on := 5, ground := Ground.data }], guard := none }) rfl (fun K hK => ?_) AllReadyH.nil
    rw [if_pos (by rfl)]
    refine wp_append_cut (.tmp 32) (.tmp 34) 33 rfl N Tryd.underlying33 hi hz0 hz1 hz2 (by rfl) _ Lk [(x, y)] rfl (HO2.out.later (grew hbd hbe)) _ _ _ rfl rfl hns (by simp) hlen (by have := hbd.size; have := hbe.size; omega) ?_
    intro g cp w2 hO2 hg2 _
    refine hK.out _ _ trivial (fun _ => ?_)
    clear hK K
    have hb2 := boxed_kept (boxed_later hbb.out (grew hbd hbe)) hBN (HO2.out.later (grew hbd hbe)) hg2
    have kB := hb2.cell
    have fB := hb2.frozen
    obtain ⟨ln, hln⟩ : ∃ ln, Lk.length + [(x, y)].length = ln := ⟨_, rfl⟩
    rw [hln] at hO2 ⊢
    try simp only [Act.put, List.setIfInBounds_toArray, List.set_cons_zero, List.set_cons_succ]
    refine wpAnyH_ready (rs := [7]) (by kernel_rfl) (by simp) ?_
    refine AllReadyH.cons (o := { dst := none, op := Op.store 33 (Operand.tmp 3) (Operand.tmp 35), type := 0, pos := "l3_hull.go:101", after := #[{ on := 6, ground := Ground.data }, { on := 6, ground := Ground.chain }, { on := 0, ground := Ground.phase }, { on := 1, ground := Ground.phase }, { on := 2, ground := Ground.phase }, { on := 3, ground := Ground.phase }, { on := 4, ground := Ground.phase }, { on := 5, ground := Ground.phase }, { on := 6, ground := Ground.phase }], guard := none }) rfl (fun K hK => ?_) AllReadyH.nil
    go_simp
    refine hK.out _ _ trivial (fun _ => ?_)
    clear hK K
    try simp only [Act.put, List.setIfInBounds_toArray, List.set_cons_zero, List.set_cons_succ]
    refine wpAnyH_done (by kernel_rfl) ?_ _
    exact hQ _ _ _ (chain_keeps hBN (grew hbd hbe) (HO2.out.later (grew hbd hbe)) hg2) (reg7_below hBN (grew hbd hbe) (HO2.out.later (grew hbd hbe)) hg2 hNw) (hb2.set _) (hO2.spared ((Spared.refl _ w2).setCell (off := 0) 0 _) (by intro b off e; cases e; exact hBN))
  · go_simp
    refine hK.out _ _ trivial (fun _ => ?_)
    clear hK K
    try simp only [Act.put, List.setIfInBounds_toArray, List.set_cons_zero, List.set_cons_succ]
    refine wpAnyH_ready (rs := [0, 5]) (by kernel_rfl) (by simp) ?_
    refine AllReadyH.cons (o := { dst := some 29, op := Op.load 33 (Operand.tmp 3), type := 33, pos := "l3_hull.go:101", after := #[], guard := none }) rfl (fun K hK => ?_) (AllReadyH.cons (o := { dst := some 34, op := Op.buildSlice 33 1 #[(0, Operand.tmp 33)], type := 33, pos := "l3_hull.go:101", after := #[{ on := 4, ground := Ground.data }], guard := none }) rfl (fun K hK => ?_) AllReadyH.nil)
    · go_simp
      refine hK.out _ _ trivial (fun _ => ?_)
      clear hK K
      try simp only [Act.put, List.setIfInBounds_toArray, List.set_cons_zero, List.set_cons_succ]
      refine wpAnyH_take (i := 3) (oi := { dst := some 32, op := Op.slice 33 (Operand.tmp 29) none (some (Operand.tmp 31)) none, type := 33, pos := "l3_hull.go:101", after := #[{ on := 0, ground := Ground.data }, { on := 2, ground := Ground.data }], guard := none }) (v := ?v4rx3) rfl (by kernel_rfl) (by kernel_rfl) (by kernel_rfl) (fun c a w h => hQp c _ _ w h) (Or.inl ⟨by rfl, ?hy4rx3⟩) trivial ?rest4rx3
      case hy4rx3 => (intro wS hSw; (try dsimp only at hSw);  clear hSw; go_simp; try with_reducible rfl)
      case' rest4rx3 => (try simp only [Act.put, List.setIfInBounds_toArray, List.set_cons_zero, List.set_cons_succ])
      refine wpAnyH_ready (rs := [5]) (by kernel_rfl) (by simp) ?_
      refine AllReadyH.cons (o := { dst := some 34, op := Op.buildSlice 33 1 #[(0, Operand.tmp 33)], type := 33, pos := "l3_hull.go:101", after := #[{ on := 4, ground := Ground.data }], guard := none }) rfl (fun K hK => ?_) AllReadyH.nil
      go_simp
      refine hK.out _ _ trivial (fun _ => ?_)
      clear hK K
      have hns := one_src wd x y _ rfl
      have hbe : Below wd.heap.size wd (wd.alloc (.cells #[.int .i64 x, .int .i64 y] 26)) := by go_grown
      generalize wd.alloc (.cells #[.int .i64 x, .int .i64 y] 26) = we at hns hbe ⊢
      have eB := cell_later hbe dB
      clear dB
      try simp only [Act.put, List.setIfInBounds_toArray, List.set_cons_zero, List.set_cons_succ]
      refine wpAnyH_ready (rs := [6]) (by kernel_rfl) (by simp) ?_
      refine AllReadyH.cons (o := { dst := some 35, op := Op.call { callee := Callee.builtin Builtin.append, args := #[Operand.tmp 32, Operand.tmp 34], argTypes := #[33, 33] }, type := 33, pos := "l3_hull.go:101", after := #[{ on := 3, ground := Ground.data }, { on := 5, ground := Ground.data }], guard := none }) rfl (fun K hK => ?_) AllReadyH.nil
      rw [if_pos (by rfl)]
      refine wp_append_cut (.tmp 32) (.tmp 34) 33 rfl N Tryd.underlying33 hi hz0 hz1 hz2 (by rfl) _ Lk [(x, y)] rfl (HO2.out.later (grew hbd hbe)) _ _ _ rfl rfl hns (by simp) hlen (by have := hbd.size; have := hbe.size; omega) ?_
      intro g cp w2 hO2 hg2 _
      refine hK.out _ _ trivial (fun _ => ?_)
      clear hK K
      have hb2 := boxed_kept (boxed_later hbb.out (grew hbd hbe)) hBN (HO2.out.later (grew hbd hbe)) hg2
      have kB := hb2.cell
      have fB := hb2.frozen
      obtain ⟨ln, hln⟩ : ∃ ln, Lk.length + [(x, y)].length = ln := ⟨_, rfl⟩
      rw [hln] at hO2 ⊢
      try simp only [Act.put, List.setIfInBounds_toArray, List.set_cons_zero, List.set_cons_succ]
      refine wpAnyH_ready (rs := [7]) (by kernel_rfl) (by simp) ?_
      refine AllReadyH.cons (o := { dst := none, op := Op.store 33 (Operand.tmp 3) (Operand.tmp 35), type := 0, pos := "l3_hull.go:101", after := #[{ on := 6, ground := Ground.data }, { on := 6, ground := Ground.chain }, { on := 0, ground := Ground.phase }, { on := 1, ground := Ground.phase }, { on := 2, ground := Ground.phase }, { on := 3, ground := Ground.phase }, { on := 4, ground := Ground.phase }, { on := 5, ground := Ground.phase }, { on := 6, ground := Ground.phase }], guard := none }) rfl (fun K hK => ?_) AllReadyH.nil
      go_simp
      refine hK.out _ _ trivial (fun _ => ?_)
      clear hK K
      try simp only [Act.put, List.setIfInBounds_toArray, List.set_cons_zero, List.set_cons_succ]
      refine wpAnyH_done (by kernel_rfl) ?_ _
      exact hQ _ _ _ (chain_keeps hBN (grew hbd hbe) (HO2.out.later (grew hbd hbe)) hg2) (reg7_below hBN (grew hbd hbe) (HO2.out.later (grew hbd hbe)) hg2 hNw) (hb2.set _) (hO2.spared ((Spared.refl _ w2).setCell (off := 0) 0 _) (by intro b off e; cases e; exact hBN))
    · go_simp
      refine hK.out _ _ trivial (fun _ => ?_)
      clear hK K
      have hns := one_src wd x y _ rfl
      have hbe : Below wd.heap.size wd (wd.alloc (.cells #[.int .i64 x, .int .i64 y] 26)) := by go_grown
      generalize wd.alloc (.cells #[.int .i64 x, .int .i64 y] 26) = we at hns hbe ⊢
      have eB := cell_later hbe dB
      clear dB
      try simp only [Act.put, List.setIfInBounds_toArray, List.set_cons_zero, List.set_cons_succ]
      refine wpAnyH_ready (rs := [0]) (by kernel_rfl) (by simp) ?_
      refine AllReadyH.cons (o := { dst := some 29, op := Op.load 33 (Operand.tmp 3), type := 33, pos := "l3_hull.go:101", after := #[], guard := none }) rfl (fun K hK => ?_) AllReadyH.nil
      go_simp
      refine hK.out _ _ trivial (fun _ => ?_)
      clear hK K
      try simp only [Act.put, List.setIfInBounds_toArray, List.set_cons_zero, List.set_cons_succ]
      refine wpAnyH_take (i := 3) (oi := { dst := some 32, op := Op.slice 33 (Operand.tmp 29) none (some (Operand.tmp 31)) none, type := 33, pos := "l3_hull.go:101", after := #[{ on := 0, ground := Ground.data }, { on := 2, ground := Ground.data }], guard := none }) (v := ?v5rx3) rfl (by kernel_rfl) (by kernel_rfl) (by kernel_rfl) (fun c a w h => hQp c _ _ w h) (Or.inl ⟨by rfl, ?hy5rx3⟩) trivial ?rest5rx3
      case hy5rx3 => (intro wS hSw; (try dsimp only at hSw);  clear hSw; go_simp; try with_reducible rfl)
      case' rest5rx3 => (try simp only [Act.put, List.setIfInBounds_toArray, List.set_cons_zero, List.set_cons_succ])
      refine wpAnyH_ready (rs := [6]) (by kernel_rfl) (by simp) ?_
      refine AllReadyH.cons (o := { dst := some 35, op := Op.call { callee := Callee.builtin Builtin.append, args := #[Operand.tmp 32, Operand.tmp 34], argTypes := #[33, 33] }, type := 33, pos := "l3_hull.go:101", after := #[{ on := 3, ground := Ground.data }, { on := 5, ground := Ground.data }], guard := none }) rfl (fun K hK => ?_) AllReadyH.nil
      rw [if_pos (by rfl)]
      refine wp_append_cut (.tmp 32) (.tmp 34) 33 rfl N Tryd.underlying33 hi hz0 hz1 hz2 (by rfl) _ Lk [(x, y)] rfl (HO2.out.later (grew hbd hbe)) _ _ _ rfl rfl hns (by simp) hlen (by have := hbd.size; have := hbe.size; omega) ?_
      intro g cp w2 hO2 hg2 _
      refine hK.out _ _ trivial (fun _ => ?_)
      clear hK K
      have hb2 := boxed_kept (boxed_later hbb.out (grew hbd hbe)) hBN (HO2.out.later (grew hbd hbe)) hg2
      have kB := hb2.cell
      have fB := hb2.frozen
      obtain ⟨ln, hln⟩ : ∃ ln, Lk.length + [(x, y)].length = ln := ⟨_, rfl⟩
      rw [hln] at hO2 ⊢
      try simp only [Act.put, List.setIfInBounds_toArray, List.set_cons_zero, List.set_cons_succ]
      refine wpAnyH_ready (rs := [7]) (by kernel_rfl) (by simp) ?_
      refine AllReadyH.cons (o := { dst := none, op := Op.store 33 (Operand.tmp 3) (Operand.tmp 35), type := 0, pos := "l3_hull.go:101", after := #[{ on := 6, ground := Ground.data }, { on := 6, ground := Ground.chain }, { on := 0, ground := Ground.phase }, { on := 1, ground := Ground.phase }, { on := 2, ground := Ground.phase }, { on := 3, ground := Ground.phase }, { on := 4, ground := Ground.phase }, { on := 5, ground := Ground.phase }, { on := 6, ground := Ground.phase }], guard := none }) rfl (fun K hK => ?_) AllReadyH.nil
      go_simp
      refine hK.out _ _ trivial (fun _ => ?_)
      clear hK K
      try simp only [Act.put, List.setIfInBounds_toArray, List.set_cons_zero, List.set_cons_succ]
      refine wpAnyH_done (by kernel_rfl) ?_ _
      exact hQ _ _ _ (chain_keeps hBN (grew hbd hbe) (HO2.out.later (grew hbd hbe)) hg2) (reg7_below hBN (grew hbd hbe) (HO2.out.later (grew hbd hbe)) hg2 hNw) (hb2.set _) (hO2.spared ((Spared.refl _ w2).setCell (off := 0) 0 _) (by intro b off e; cases e; exact hBN))
end Go.Proofs.YtipiamhnngmjmaaDoor
namespace Go.Proofs.YtipiamhnngmjmaaDoor
open Go.RowKit Go.Shelf
attribute [local go_sem] Oper.semAt_some
set_option linter.unusedVariables false
set_option maxRecDepth 8000
set_option maxRecDepth 100000 in
set_option maxHeartbeats 800000 in
theorem chainOf_c (gf : Nat) (lb : Array Value) (L : List (Int × Int)) (w : World) (h1 : L.length ≤ 1048576) (c0 : w.cell? ⟨0, 0, none⟩ = some (.int .i64 1000000))
    (eg : ∀ args w, (callFunc gf args).run Tryd.prog w = .ok (.enter gf args) w)
    (hseq : ∀ n, 1 ≤ n → SeqStopsK Fence.wide n Tryd.prog gf lb encP (Below w.heap.size) (fun ys => ys = L) (fun _ => True) L.length w) :
    Calls Tryd.prog 90 #[.func (.func gf) #[] lb] w fun e w' => ∃ v, e = .returned v ∧ OwnC w.heap.size v (chainB tlB L) w' ∧ Below w.heap.size w w' := by
  have hz : 0 < w.heap.size := World.block_lt_of_cell? w _ c0
  obtain ⟨i0, hi, hz0, hz1, hz2⟩ := info_parts info_pt
  refine (callsIn_wide (n := 8)).1 ?_
  refine callsIn_of_wp_marks Tryd.func90 rfl trivial ?_ rfl
  simp only [Tryd.ntmps90, List.size_toArray, List.length_cons, List.length_nil, Nat.reduceAdd, Nat.reduceSub, Array.replicate_succ, Array.replicate_zero, List.push_toArray, List.append_toArray, List.nil_append, List.cons_append]
  gi_wp2
  refine wpIn_rangeFunc_ownH rfl (by omega) (gf := gf) (lb := lb) rfl trivial eg (hseq (8 - 1) (by omega)) belowK_t (belowK_b (by simp)) ((Below.refl _ _).alloc (Nat.le_refl _) _) (fun _ => rfl)
    (fun pre W => (∃ v, Boxed W w.heap.size 33 v ∧ OwnC (w.heap.size + 1) v (chainB tlB pre) W ∧ pre.length ≤ L.length) ∧ Below w.heap.size w W)
    (fun _ _ _ => False)
    (OwnFrom.and (fun s X Y row hs hg hr => by
      obtain ⟨v, hb, ho, hp⟩ := hs
      exact ⟨v, boxed_own _ _ (fun (_ : Unit) => v) () X Y row hb hg (fun r e => (hr r e).2), ho.kept hg (fun r e => (hr r e).2), hp⟩) (ownFrom_below (Nat.le_refl _) (by simp)))
    (fun _ _ _ _ _ hs _ _ => hs)
    ⟨⟨_, Boxed.new w _ _, OwnC.nil _ _, Nat.zero_le _⟩, (Below.refl _ _).alloc (Nat.le_refl _) _⟩
    (fun x a' W => ∃ Bx, w.heap.size < Bx ∧ W.heap[Bx]? = some (.cells #[.int .i64 x.1, .int .i64 x.2] 26 (0, 0)) ∧ a' = { tmps := #[.func (.func gf) #[] lb, undef, .slice none 0 0, .pointer (some ⟨w.heap.size, 0, none⟩), .pointer (some ⟨Bx, 0, none⟩), undef, .func (.func gf) #[] lb, .agg #[.int .i64 x.1, .int .i64 x.2], undef, undef, undef, undef, undef, undef, undef, undef, undef, undef, undef, undef, undef, undef, undef, undef, undef, undef, undef, undef, undef, undef, undef, undef, undef, undef, undef, undef, undef, undef, undef, undef, undef, undef], defers := [] })
    (fun x a' _ X Y row hs hg hr => by
      obtain ⟨Bx, h1, h2, h3⟩ := hs
      refine ⟨Bx, h1, (hg.block Bx (Array.getElem?_eq_some_iff.1 h2).1 (fun e => ?_)).trans h2, h3⟩
      obtain ⟨_, o, ho, hc⟩ := hr Bx e.symm
      rw [h2] at ho
      cases ho
      cases hc)
    ?assign ?body ?done ?stop
  case stop =>
    rintro D c pre W _ _ h _
    exact h.elim
  case assign =>
    rintro l pre x W K ⟨⟨v, hbx, ho, hp⟩, hB⟩ hK
    dsimp only [encP]
    gi_wp2
    refine hK _ _ ((KeepsOthers.alloc _ _).from _) ((Below.refl _ W).alloc hB.size _) ⟨⟨v, hbx.alloc _, ho.later ((Below.refl _ W).alloc (Nat.le_refl _) _), hp⟩, hB.alloc hB.size _⟩ ⟨W.heap.size, hbx.lt, World.alloc_heap_new W _, rfl⟩
  case done =>
    rintro D ys W hD rfl ⟨⟨v, hbx, ho, hp⟩, hB⟩ hK
    obtain ⟨a3, c3, rfl⟩ := ho.shape
    have hcl : (chainB tlB ys).length ≤ c3 := by
      rcases ho.fit with ⟨_, _, h0⟩ | ⟨_, h1, _⟩ <;> omega
    have hcc := hbx.cell
    have ho2 := ho.take (Nat.le_refl _) (Nat.le_refl _) hcl
    rw [List.take_length] at ho2
    have HO2 := hid ho2
    clear ho2
    gi_wp2
    refine ⟨by simp, .inl ⟨_, _, rfl, run_takeDeferred hK, ?_⟩⟩
    refine ⟨_, results_tmp rfl _ _ _, _, rfl, ?_, ?_⟩
    · exact (HO2.out.mono (Nat.le_succ _)).kept (grownBy_putObj' _ D _) (fun r e => by cases e; exact ⟨_, hK, rfl⟩)
    · exact hB.trans (belowK_b (w := w) (Nat.le_refl _) W D _ _ (by simp at hD; omega) hK rfl rfl)
  case body =>
    rintro l pre ⟨x, y⟩ a' W hl ⟨r, hr⟩ ⟨⟨v, hbx, ho, hp⟩, hB⟩ ⟨Bx, hBx, hpx, rfl⟩ hlt
    dsimp only at hpx hlt ⊢
    have hst := hid (chainB_snoc (t := tlB) pre (x, y))
    have hCl : (chainB tlB pre).length ≤ pre.length := chainB_len _
    obtain ⟨C, hC⟩ : ∃ C, chainB tlB pre = C := ⟨_, rfl⟩
    rw [hC] at ho hst hCl
    obtain ⟨a3, c3, rfl⟩ := ho.shape
    have hcl : C.length ≤ c3 := by
      rcases ho.fit with ⟨_, _, h0⟩ | ⟨_, h1, _⟩ <;> omega
    have sB := hbx.cell
    have p0 : W.cell? ⟨Bx, 0, none⟩ = some (.int .i64 x) := by simp [World.cell?, hpx]
    have p1 : W.cell? ⟨Bx, 1, none⟩ = some (.int .i64 y) := by simp [World.cell?, hpx]
    have cz := cell_later hB c0
    have HO := hid ho
    have HB := hid hB
    have HX := hid hbx
    have hWs := hB.size
    have hltW := hbx.lt
    have HQ := hid hp
    clear hC ho hbx hpx hr hB
    gi_wp2
    gi_loopw [5] (fun i wr => ∃ n : Nat, i = .int .i64 ((n : Int) - 1) ∧ n ≤ C.length ∧ keepB tlB C (x, y) n = keepB tlB C (x, y) C.length ∧ Below W.heap.size W wr) (fun i _ => (intOf i + 1).toNat)
    case atStart =>
      refine ⟨C.length, ?_, Nat.le_refl _, rfl, Below.refl _ _⟩
      first | rfl | (congr 1; unfold wrap64; omega) | (congr 1; rw [IntKind.wrap_i64]; omega)
    case round =>
      obtain ⟨n, rfl, hn, hkn, hbu⟩ := hrel
      have HKN := hid hkn
      have HBU := hid hbu
      have hws := hbu.size
      have uB := cell_later hbu sB
      have u0 := cell_later hbu p0
      have u1 := cell_later hbu p1
      have uz := cell_later hbu cz
      clear sB p0 p1 cz hkn hbu
      have hn0 : (n : Int) ≤ (c3 : Int) := by omega
      by_cases hn1 : 1 < n
      · obtain ⟨m, hm⟩ : ∃ m, n = m + 2 := ⟨n - 2, by omega⟩
        obtain ⟨j, hj⟩ : ∃ j, j = m + 1 := ⟨_, rfl⟩
        have hidx : (n : Int) - 1 = (j : Int) := by omega
        rw [hidx]
        obtain ⟨b3, o3, hb3, _, e0, e1⟩ := HO.out.at m (by omega)
        obtain ⟨b4, o4, hb4, _, e2, e3⟩ := HO.out.at j (by omega)
        obtain ⟨rfl, rfl⟩ : b4 = b3 ∧ o4 = o3 := by rw [hb3] at hb4; simp at hb4; exact ⟨hb4.1.symm, hb4.2.symm⟩
        subst hb3
        have s0 := cell_later HBU.out e0
        have s1 := cell_later HBU.out e1
        have s2 := cell_later HBU.out e2
        have s3 := cell_later HBU.out e3
        clear e0 e1 e2 e3 hb4
        have hi0 : IntKind.i64.wrap ((j : Int) - 1) = (m : Int) := by rw [IntKind.wrap_i64]; omega
        have hi1 : IntKind.i64.wrap ((j : Int) + 1) = (n : Int) := by rw [IntKind.wrap_i64]; omega
        have hi2 : (0 : Int) ≤ (m : Int) := by omega
        have hi3 : (m : Int) < (C.length : Int) := by omega
        have hi4 : (j : Int) < (C.length : Int) := by omega
        have hi5 : (0 : Int) ≤ (j : Int) := by omega
        have hi6 : m < C.length := by omega
        have hi7 : j < C.length := by omega
        have hd : decide (1 ≤ (j : Int)) = true := decide_eq_true (by omega)
        have HM := hid hm
        have HJ := hid hj
        clear hm hj hidx
        cases hE : tlB (px C m, py C m) (px C j, py C j) (x, y)
        · gi_wp2
          refine wpIn_region_lift (by kernel_rfl) (S := (fun u => Below wr.heap.size wr u)) (by kernel_rfl) ?_ (fun hHeld => ?_)
          · exact (Below.refl _ _).drew
          refine wpAnyH_take (i := 0) (oi := { dst := some 11, op := Op.move (Operand.tmp 5), type := 3, pos := "l3_hull.go:98", after := #[], guard := none }) (v := ?v8rx0) rfl (by kernel_rfl) (by kernel_rfl) (by kernel_rfl) (fun _ _ _ h => h) (Or.inl ⟨by rfl, ?hy8rx0⟩) (by with_reducible assumption) ?rest8rx0
          case hy8rx0 => (intro wS hSw; (try dsimp only at hSw); have z0 := cell_later hSw uB; have z1 := cell_later hSw s0; have z2 := cell_later hSw s1; have z3 := cell_later hSw s2; have z4 := cell_later hSw s3; have z5 := cell_later hSw u0; have z6 := cell_later hSw u1; clear hSw; go_simp; try with_reducible rfl)
          case' rest8rx0 => (try simp only [Act.put, List.setIfInBounds_toArray, List.set_cons_zero, List.set_cons_succ])
          refine wpAnyH_take (i := 1) (oi := { dst := some 12, op := Op.binOp BinOp.geq 3 (Operand.tmp 11) (Operand.const (Value.int IntKind.i64 1)) 3, type := 4, pos := "l3_hull.go:98", after := #[{ on := 0, ground := Ground.data }], guard := none }) (v := ?v8rx1) rfl (by kernel_rfl) (by kernel_rfl) (by kernel_rfl) (fun _ _ _ h => h) (Or.inl ⟨by rfl, ?hy8rx1⟩) (by with_reducible assumption) ?rest8rx1
          case hy8rx1 => (intro wS hSw; (try dsimp only at hSw); have z0 := cell_later hSw uB; have z1 := cell_later hSw s0; have z2 := cell_later hSw s1; have z3 := cell_later hSw s2; have z4 := cell_later hSw s3; have z5 := cell_later hSw u0; have z6 := cell_later hSw u1; clear hSw; go_simp; try with_reducible rfl)
          case' rest8rx1 => (try simp only [Act.put, List.setIfInBounds_toArray, List.set_cons_zero, List.set_cons_succ])
          refine wpAnyH_take (i := 2) (oi := { dst := some 13, op := Op.move (Operand.tmp 12), type := 4, pos := "l3_hull.go:98", after := #[{ on := 1, ground := Ground.data }], guard := none }) (v := ?v8rx2) rfl (by kernel_rfl) (by kernel_rfl) (by kernel_rfl) (fun _ _ _ h => h) (Or.inl ⟨by rfl, ?hy8rx2⟩) (by with_reducible assumption) ?rest8rx2
          case hy8rx2 => (intro wS hSw; (try dsimp only at hSw); have z0 := cell_later hSw uB; have z1 := cell_later hSw s0; have z2 := cell_later hSw s1; have z3 := cell_later hSw s2; have z4 := cell_later hSw s3; have z5 := cell_later hSw u0; have z6 := cell_later hSw u1; clear hSw; go_simp; try with_reducible rfl)
          case' rest8rx2 => (try simp only [Act.put, List.setIfInBounds_toArray, List.set_cons_zero, List.set_cons_succ])
          refine wpAnyH_take (i := 3) (oi := { dst := some 14, op := Op.load 33 (Operand.tmp 3), type := 33, pos := "l3_hull.go:98", after := #[{ on := 2, ground := Ground.guard }], guard := some (2, true) }) (v := ?v8rx3) rfl (by kernel_rfl) (by kernel_rfl) (by kernel_rfl) (fun _ _ _ h => h) (Or.inl ⟨by rfl, ?hy8rx3⟩) (by with_reducible assumption) ?rest8rx3
          case hy8rx3 => (intro wS hSw; (try dsimp only at hSw); have z0 := cell_later hSw uB; have z1 := cell_later hSw s0; have z2 := cell_later hSw s1; have z3 := cell_later hSw s2; have z4 := cell_later hSw s3; have z5 := cell_later hSw u0; have z6 := cell_later hSw u1; clear hSw; go_simp; try with_reducible rfl)
          case' rest8rx3 => (try simp only [Act.put, List.setIfInBounds_toArray, List.set_cons_zero, List.set_cons_succ])
          refine wpAnyH_take (i := 4) (oi := { dst := some 15, op := Op.move (Operand.tmp 5), type := 3, pos := "l3_hull.go:98", after := #[{ on := 2, ground := Ground.guard }], guard := some (2, true) }) (v := ?v8rx4) rfl (by kernel_rfl) (by kernel_rfl) (by kernel_rfl) (fun _ _ _ h => h) (Or.inl ⟨by rfl, ?hy8rx4⟩) (by with_reducible assumption) ?rest8rx4
          case hy8rx4 => (intro wS hSw; (try dsimp only at hSw); have z0 := cell_later hSw uB; have z1 := cell_later hSw s0; have z2 := cell_later hSw s1; have z3 := cell_later hSw s2; have z4 := cell_later hSw s3; have z5 := cell_later hSw u0; have z6 := cell_later hSw u1; clear hSw; go_simp; try with_reducible rfl)
          case' rest8rx4 => (try simp only [Act.put, List.setIfInBounds_toArray, List.set_cons_zero, List.set_cons_succ])
          refine wpAnyH_take (i := 5) (oi := { dst := some 16, op := Op.binOp BinOp.sub 3 (Operand.tmp 15) (Operand.const (Value.int IntKind.i64 1)) 3, type := 3, pos := "l3_hull.go:98", after := #[{ on := 4, ground := Ground.data }, { on := 2, ground := Ground.guard }], guard := some (2, true) }) (v := ?v8rx5) rfl (by kernel_rfl) (by kernel_rfl) (by kernel_rfl) (fun _ _ _ h => h) (Or.inl ⟨by rfl, ?hy8rx5⟩) (by with_reducible assumption) ?rest8rx5
          case hy8rx5 => (intro wS hSw; (try dsimp only at hSw); have z0 := cell_later hSw uB; have z1 := cell_later hSw s0; have z2 := cell_later hSw s1; have z3 := cell_later hSw s2; have z4 := cell_later hSw s3; have z5 := cell_later hSw u0; have z6 := cell_later hSw u1; clear hSw; go_simp; try with_reducible rfl)
          case' rest8rx5 => (try simp only [Act.put, List.setIfInBounds_toArray, List.set_cons_zero, List.set_cons_succ])
          refine wpAnyH_take (i := 6) (oi := { dst := some 17, op := Op.indexAddr 33 (Operand.tmp 14) (Operand.tmp 16), type := 0, pos := "l3_hull.go:98", after := #[{ on := 3, ground := Ground.data }, { on := 5, ground := Ground.data }, { on := 2, ground := Ground.guard }], guard := some (2, true) }) (v := ?v8rx6) rfl (by kernel_rfl) (by kernel_rfl) (by kernel_rfl) (fun _ _ _ h => h) (Or.inl ⟨by rfl, ?hy8rx6⟩) (by with_reducible assumption) ?rest8rx6
          case hy8rx6 => (intro wS hSw; (try dsimp only at hSw); have z0 := cell_later hSw uB; have z1 := cell_later hSw s0; have z2 := cell_later hSw s1; have z3 := cell_later hSw s2; have z4 := cell_later hSw s3; have z5 := cell_later hSw u0; have z6 := cell_later hSw u1; clear hSw; go_simp; try with_reducible rfl)
          case' rest8rx6 => (try simp only [Act.put, List.setIfInBounds_toArray, List.set_cons_zero, List.set_cons_succ])
          refine wpAnyH_take (i := 7) (oi := { dst := some 18, op := Op.load 26 (Operand.tmp 17), type := 26, pos := "l3_hull.go:98", after := #[{ on := 6, ground := Ground.data }, { on := 2, ground := Ground.guard }], guard := some (2, true) }) (v := ?v8rx7) rfl (by kernel_rfl) (by kernel_rfl) (by kernel_rfl) (fun _ _ _ h => h) (Or.inl ⟨by rfl, ?hy8rx7⟩) (by with_reducible assumption) ?rest8rx7
          case hy8rx7 => (intro wS hSw; (try dsimp only at hSw); have z0 := cell_later hSw uB; have z1 := cell_later hSw s0; have z2 := cell_later hSw s1; have z3 := cell_later hSw s2; have z4 := cell_later hSw s3; have z5 := cell_later hSw u0; have z6 := cell_later hSw u1; clear hSw; go_simp; try with_reducible rfl)
          case' rest8rx7 => (try simp only [Act.put, List.setIfInBounds_toArray, List.set_cons_zero, List.set_cons_succ])
          refine wpAnyH_take (i := 8) (oi := { dst := some 19, op := Op.load 33 (Operand.tmp 3), type := 33, pos := "l3_hull.go:98", after := #[{ on := 2, ground := Ground.guard }], guard := some (2, true) }) (v := ?v8rx8) rfl (by kernel_rfl) (by kernel_rfl) (by kernel_rfl) (fun _ _ _ h => h) (Or.inl ⟨by rfl, ?hy8rx8⟩) (by with_reducible assumption) ?rest8rx8
          case hy8rx8 => (intro wS hSw; (try dsimp only at hSw); have z0 := cell_later hSw uB; have z1 := cell_later hSw s0; have z2 := cell_later hSw s1; have z3 := cell_later hSw s2; have z4 := cell_later hSw s3; have z5 := cell_later hSw u0; have z6 := cell_later hSw u1; clear hSw; go_simp; try with_reducible rfl)
          case' rest8rx8 => (try simp only [Act.put, List.setIfInBounds_toArray, List.set_cons_zero, List.set_cons_succ])
          refine wpAnyH_take (i := 9) (oi := { dst := some 20, op := Op.move (Operand.tmp 5), type := 3, pos := "l3_hull.go:98", after := #[{ on := 2, ground := Ground.guard }], guard := some (2, true) }) (v := ?v8rx9) rfl (by kernel_rfl) (by kernel_rfl) (by kernel_rfl) (fun _ _ _ h => h) (Or.inl ⟨by rfl, ?hy8rx9⟩) (by with_reducible assumption) ?rest8rx9
          case hy8rx9 => (intro wS hSw; (try dsimp only at hSw); have z0 := cell_later hSw uB; have z1 := cell_later hSw s0; have z2 := cell_later hSw s1; have z3 := cell_later hSw s2; have z4 := cell_later hSw s3; have z5 := cell_later hSw u0; have z6 := cell_later hSw u1; clear hSw; go_simp; try with_reducible rfl)
          case' rest8rx9 => (try simp only [Act.put, List.setIfInBounds_toArray, List.set_cons_zero, List.set_cons_succ])
          refine wpAnyH_take (i := 10) (oi := { dst := some 21, op := Op.indexAddr 33 (Operand.tmp 19) (Operand.tmp 20), type := 0, pos := "l3_hull.go:98", after := #[{ on := 8, ground := Ground.data }, { on := 9, ground := Ground.data }, { on := 2, ground := Ground.guard }], guard := some (2, true) }) (v := ?v8rx10) rfl (by kernel_rfl) (by kernel_rfl) (by kernel_rfl) (fun _ _ _ h => h) (Or.inl ⟨by rfl, ?hy8rx10⟩) (by with_reducible assumption) ?rest8rx10
          case hy8rx10 => (intro wS hSw; (try dsimp only at hSw); have z0 := cell_later hSw uB; have z1 := cell_later hSw s0; have z2 := cell_later hSw s1; have z3 := cell_later hSw s2; have z4 := cell_later hSw s3; have z5 := cell_later hSw u0; have z6 := cell_later hSw u1; clear hSw; go_simp; try with_reducible rfl)
          case' rest8rx10 => (try simp only [Act.put, List.setIfInBounds_toArray, List.set_cons_zero, List.set_cons_succ])
          refine wpAnyH_take (i := 11) (oi := { dst := some 22, op := Op.load 26 (Operand.tmp 21), type := 26, pos := "l3_hull.go:98", after := #[{ on := 10, ground := Ground.data }, { on := 2, ground := Ground.guard }], guard := some (2, true) }) (v := ?v8rx11) rfl (by kernel_rfl) (by kernel_rfl) (by kernel_rfl) (fun _ _ _ h => h) (Or.inl ⟨by rfl, ?hy8rx11⟩) (by with_reducible assumption) ?rest8rx11
          case hy8rx11 => (intro wS hSw; (try dsimp only at hSw); have z0 := cell_later hSw uB; have z1 := cell_later hSw s0; have z2 := cell_later hSw s1; have z3 := cell_later hSw s2; have z4 := cell_later hSw s3; have z5 := cell_later hSw u0; have z6 := cell_later hSw u1; clear hSw; go_simp; try with_reducible rfl)
          case' rest8rx11 => (try simp only [Act.put, List.setIfInBounds_toArray, List.set_cons_zero, List.set_cons_succ])
          refine wpAnyH_take (i := 12) (oi := { dst := some 23, op := Op.load 26 (Operand.tmp 4), type := 26, pos := "l3_hull.go:98", after := #[{ on := 2, ground := Ground.guard }], guard := some (2, true) }) (v := ?v8rx12) rfl (by kernel_rfl) (by kernel_rfl) (by kernel_rfl) (fun _ _ _ h => h) (Or.inl ⟨by rfl, ?hy8rx12⟩) (by with_reducible assumption) ?rest8rx12
          case hy8rx12 => (intro wS hSw; (try dsimp only at hSw); have z0 := cell_later hSw uB; have z1 := cell_later hSw s0; have z2 := cell_later hSw s1; have z3 := cell_later hSw s2; have z4 := cell_later hSw s3; have z5 := cell_later hSw u0; have z6 := cell_later hSw u1; clear hSw; go_simp; try with_reducible rfl)
          case' rest8rx12 => (try simp only [Act.put, List.setIfInBounds_toArray, List.set_cons_zero, List.set_cons_succ])
          refine wpAnyH_ready (rs := [13]) (by kernel_rfl) (by simp) ?_
          refine AllReadyH.cons (o := { dst := some 24, op := Op.call { callee := Callee.value (Operand.func 108), args := #[Operand.tmp 18, Operand.tmp 22, Operand.tmp 23], argTypes := #[26, 26, 26] }, type := 4, pos := "l3_hull.go:98", after := #[{ on := 7, ground := Ground.data }, { on := 11, ground := Ground.data }, { on := 12, ground := Ground.data }, { on := 2, ground := Ground.chain }, { on := 2, ground := Ground.guard }], guard := some (2, true) }) rfl (fun K hK => ?_) AllReadyH.nil
          go_simp
          refine (turnsLeft_c _ _ _ _ _ _ _ (cell_later (by with_reducible assumption) uz)).mono ?_
          rintro e w' ⟨rfl, hb⟩
          go_wp2_with fail
          refine hK.out _ _ ?_ (fun hHeld => ?_)
          · exact grew (by with_reducible assumption) hb
          clear hK K
          try simp only [Act.put, List.setIfInBounds_toArray, List.set_cons_zero, List.set_cons_succ]
          refine wpAnyH_take (i := 14) (oi := { dst := some 25, op := Op.unOp UnOp.not 4 (Operand.tmp 24), type := 4, pos := "l3_hull.go:98", after := #[{ on := 13, ground := Ground.data }, { on := 2, ground := Ground.guard }], guard := some (2, true) }) (v := ?v8rx14) rfl (by kernel_rfl) (by kernel_rfl) (by kernel_rfl) (fun _ _ _ h => h) (Or.inl ⟨by rfl, ?hy8rx14⟩) (by with_reducible assumption) ?rest8rx14
          case hy8rx14 => (intro wS hSw; (try dsimp only at hSw); have z0 := cell_later hSw uB; have z1 := cell_later hSw s0; have z2 := cell_later hSw s1; have z3 := cell_later hSw s2; have z4 := cell_later hSw s3; have z5 := cell_later hSw u0; have z6 := cell_later hSw u1; clear hSw; go_simp; try with_reducible rfl)
          case' rest8rx14 => (try simp only [Act.put, List.setIfInBounds_toArray, List.set_cons_zero, List.set_cons_succ])
          refine wpAnyH_take (i := 15) (oi := { dst := some 26, op := Op.pick (Operand.tmp 13) (Operand.tmp 25) (Operand.const (Value.bool false)), type := 4, pos := "l3_hull.go:98", after := #[{ on := 2, ground := Ground.data }, { on := 14, ground := Ground.data }], guard := none }) (v := ?v8rx15) rfl (by kernel_rfl) (by kernel_rfl) (by kernel_rfl) (fun _ _ _ h => h) (Or.inl ⟨by rfl, ?hy8rx15⟩) (by with_reducible assumption) ?rest8rx15
          case hy8rx15 => (intro wS hSw; (try dsimp only at hSw); have z0 := cell_later hSw uB; have z1 := cell_later hSw s0; have z2 := cell_later hSw s1; have z3 := cell_later hSw s2; have z4 := cell_later hSw s3; have z5 := cell_later hSw u0; have z6 := cell_later hSw u1; clear hSw; go_simp; try with_reducible rfl)
          case' rest8rx15 => (try simp only [Act.put, List.setIfInBounds_toArray, List.set_cons_zero, List.set_cons_succ])
          refine wpAnyH_done (by kernel_rfl) ?_ _
          dsimp only [noOut]
          gi_wp2
          go_roundw
          case rel =>
            have ej := HJ.out
            refine ⟨j, by first | rfl | (congr 1; omega) | go_num, by omega, ?_, grew HBU.out (by with_reducible assumption)⟩
            have e1 := HM.out
            have e2 := HJ.out
            subst e1
            subst e2
            rw [← HKN.out]
            exact (keepB_go hE).symm
          case measure => (have ej := HJ.out; simp [intOf]; omega)
        · have hkn : n = keepB tlB C (x, y) C.length := by
            have e1 := HM.out
            have e2 := HJ.out
            subst e1
            subst e2
            rw [← HKN.out]
            exact (keepB_stop hE).symm
          have HN := hid hkn
          clear hkn
          gi_wp2
          refine wpIn_region_lift (by kernel_rfl) (S := (fun u => Below wr.heap.size wr u)) (by kernel_rfl) ?_ (fun hHeld => ?_)
          · exact (Below.refl _ _).drew
          refine wpAnyH_take (i := 0) (oi := { dst := some 11, op := Op.move (Operand.tmp 5), type := 3, pos := "l3_hull.go:98", after := #[], guard := none }) (v := ?v6rx0) rfl (by kernel_rfl) (by kernel_rfl) (by kernel_rfl) (fun _ _ _ h => h) (Or.inl ⟨by rfl, ?hy6rx0⟩) (by with_reducible assumption) ?rest6rx0
          case hy6rx0 => (intro wS hSw; (try dsimp only at hSw); have z0 := cell_later hSw uB; have z1 := cell_later hSw s0; have z2 := cell_later hSw s1; have z3 := cell_later hSw s2; have z4 := cell_later hSw s3; have z5 := cell_later hSw u0; have z6 := cell_later hSw u1; clear hSw; go_simp; try with_reducible rfl)
          case' rest6rx0 => (try simp only [Act.put, List.setIfInBounds_toArray, List.set_cons_zero, List.set_cons_succ])
          refine wpAnyH_take (i := 1) (oi := { dst := some 12, op := Op.binOp BinOp.geq 3 (Operand.tmp 11) (Operand.const (Value.int IntKind.i64 1)) 3, type := 4, pos := "l3_hull.go:98", after := #[{ on := 0, ground := Ground.data }], guard := none }) (v := ?v6rx1) rfl (by kernel_rfl) (by kernel_rfl) (by kernel_rfl) (fun _ _ _ h => h) (Or.inl ⟨by rfl, ?hy6rx1⟩) (by with_reducible assumption) ?rest6rx1
          case hy6rx1 => (intro wS hSw; (try dsimp only at hSw); have z0 := cell_later hSw uB; have z1 := cell_later hSw s0; have z2 := cell_later hSw s1; have z3 := cell_later hSw s2; have z4 := cell_later hSw s3; have z5 := cell_later hSw u0; have z6 := cell_later hSw u1; clear hSw; go_simp; try with_reducible rfl)
          case' rest6rx1 => (try simp only [Act.put, List.setIfInBounds_toArray, List.set_cons_zero, List.set_cons_succ])
          refine wpAnyH_take (i := 2) (oi := { dst := some 13, op := Op.move (Operand.tmp 12), type := 4, pos := "l3_hull.go:98", after := #[{ on := 1, ground := Ground.data }], guard := none }) (v := ?v6rx2) rfl (by kernel_rfl) (by kernel_rfl) (by kernel_rfl) (fun _ _ _ h => h) (Or.inl ⟨by rfl, ?hy6rx2⟩) (by with_reducible assumption) ?rest6rx2
          case hy6rx2 => (intro wS hSw; (try dsimp only at hSw); have z0 := cell_later hSw uB; have z1 := cell_later hSw s0; have z2 := cell_later hSw s1; have z3 := cell_later hSw s2; have z4 := cell_later hSw s3; have z5 := cell_later hSw u0; have z6 := cell_later hSw u1; clear hSw; go_simp; try with_reducible rfl)
          case' rest6rx2 => (try simp only [Act.put, List.setIfInBounds_toArray, List.set_cons_zero, List.set_cons_succ])
          refine wpAnyH_take (i := 3) (oi := { dst := some 14, op := Op.load 33 (Operand.tmp 3), type := 33, pos := "l3_hull.go:98", after := #[{ on := 2, ground := Ground.guard }], guard := some (2, true) }) (v := ?v6rx3) rfl (by kernel_rfl) (by kernel_rfl) (by kernel_rfl) (fun _ _ _ h => h) (Or.inl ⟨by rfl, ?hy6rx3⟩) (by with_reducible assumption) ?rest6rx3
          case hy6rx3 => (intro wS hSw; (try dsimp only at hSw); have z0 := cell_later hSw uB; have z1 := cell_later hSw s0; have z2 := cell_later hSw s1; have z3 := cell_later hSw s2; have z4 := cell_later hSw s3; have z5 := cell_later hSw u0; have z6 := cell_later hSw u1; clear hSw; go_simp; try with_reducible rfl)
          case' rest6rx3 => (try simp only [Act.put, List.setIfInBounds_toArray, List.set_cons_zero, List.set_cons_succ])
          refine wpAnyH_take (i := 4) (oi := { dst := some 15, op := Op.move (Operand.tmp 5), type := 3, pos := "l3_hull.go:98", after := #[{ on := 2, ground := Ground.guard }], guard := some (2, true) }) (v := ?v6rx4) rfl (by kernel_rfl) (by kernel_rfl) (by kernel_rfl) (fun _ _ _ h => h) (Or.inl ⟨by rfl, ?hy6rx4⟩) (by with_reducible assumption) ?rest6rx4
          case hy6rx4 => (intro wS hSw; (try dsimp only at hSw); have z0 := cell_later hSw uB; have z1 := cell_later hSw s0; have z2 := cell_later hSw s1; have z3 := cell_later hSw s2; have z4 := cell_later hSw s3; have z5 := cell_later hSw u0; have z6 := cell_later hSw u1; clear hSw; go_simp; try with_reducible rfl)
          case' rest6rx4 => (try simp only [Act.put, List.setIfInBounds_toArray, List.set_cons_zero, List.set_cons_succ])
          refine wpAnyH_take (i := 5) (oi := { dst := some 16, op := Op.binOp BinOp.sub 3 (Operand.tmp 15) (Operand.const (Value.int IntKind.i64 1)) 3, type := 3, pos := "l3_hull.go:98", after := #[{ on := 4, ground := Ground.data }, { on := 2, ground := Ground.guard }], guard := some (2, true) }) (v := ?v6rx5) rfl (by kernel_rfl) (by kernel_rfl) (by kernel_rfl) (fun _ _ _ h => h) (Or.inl ⟨by rfl, ?hy6rx5⟩) (by with_reducible assumption) ?rest6rx5
          case hy6rx5 => (intro wS hSw; (try dsimp only at hSw); have z0 := cell_later hSw uB; have z1 := cell_later hSw s0; have z2 := cell_later hSw s1; have z3 := cell_later hSw s2; have z4 := cell_later hSw s3; have z5 := cell_later hSw u0; have z6 := cell_later hSw u1; clear hSw; go_simp; try with_reducible rfl)
          case' rest6rx5 => (try simp only [Act.put, List.setIfInBounds_toArray, List.set_cons_zero, List.set_cons_succ])
          refine wpAnyH_take (i := 6) (oi := { dst := some 17, op := Op.indexAddr 33 (Operand.tmp 14) (Operand.tmp 16), type := 0, pos := "l3_hull.go:98", after := #[{ on := 3, ground := Ground.data }, { on := 5, ground := Ground.data }, { on := 2, ground := Ground.guard }], guard := some (2, true) }) (v := ?v6rx6) rfl (by kernel_rfl) (by kernel_rfl) (by kernel_rfl) (fun _ _ _ h => h) (Or.inl ⟨by rfl, ?hy6rx6⟩) (by with_reducible assumption) ?rest6rx6
          case hy6rx6 => (intro wS hSw; (try dsimp only at hSw); have z0 := cell_later hSw uB; have z1 := cell_later hSw s0; have z2 := cell_later hSw s1; have z3 := cell_later hSw s2; have z4 := cell_later hSw s3; have z5 := cell_later hSw u0; have z6 := cell_later hSw u1; clear hSw; go_simp; try with_reducible rfl)
          case' rest6rx6 => (try simp only [Act.put, List.setIfInBounds_toArray, List.set_cons_zero, List.set_cons_succ])
          refine wpAnyH_take (i := 7) (oi := { dst := some 18, op := Op.load 26 (Operand.tmp 17), type := 26, pos := "l3_hull.go:98", after := #[{ on := 6, ground := Ground.data }, { on := 2, ground := Ground.guard }], guard := some (2, true) }) (v := ?v6rx7) rfl (by kernel_rfl) (by kernel_rfl) (by kernel_rfl) (fun _ _ _ h => h) (Or.inl ⟨by rfl, ?hy6rx7⟩) (by with_reducible assumption) ?rest6rx7
          case hy6rx7 => (intro wS hSw; (try dsimp only at hSw); have z0 := cell_later hSw uB; have z1 := cell_later hSw s0; have z2 := cell_later hSw s1; have z3 := cell_later hSw s2; have z4 := cell_later hSw s3; have z5 := cell_later hSw u0; have z6 := cell_later hSw u1; clear hSw; go_simp; try with_reducible rfl)
          case' rest6rx7 => (try simp only [Act.put, List.setIfInBounds_toArray, List.set_cons_zero, List.set_cons_succ])
          refine wpAnyH_take (i := 8) (oi := { dst := some 19, op := Op.load 33 (Operand.tmp 3), type := 33, pos := "l3_hull.go:98", after := #[{ on := 2, ground := Ground.guard }], guard := some (2, true) }) (v := ?v6rx8) rfl (by kernel_rfl) (by kernel_rfl) (by kernel_rfl) (fun _ _ _ h => h) (Or.inl ⟨by rfl, ?hy6rx8⟩) (by with_reducible assumption) ?rest6rx8
          case hy6rx8 => (intro wS hSw; (try dsimp only at hSw); have z0 := cell_later hSw uB; have z1 := cell_later hSw s0; have z2 := cell_later hSw s1; have z3 := cell_later hSw s2; have z4 := cell_later hSw s3; have z5 := cell_later hSw u0; have z6 := cell_later hSw u1; clear hSw; go_simp; try with_reducible rfl)
          case' rest6rx8 => (try simp only [Act.put, List.setIfInBounds_toArray, List.set_cons_zero, List.set_cons_succ])
          refine wpAnyH_take (i := 9) (oi := { dst := some 20, op := Op.move (Operand.tmp 5), type := 3, pos := "l3_hull.go:98", after := #[{ on := 2, ground := Ground.guard }], guard := some (2, true) }) (v := ?v6rx9) rfl (by kernel_rfl) (by kernel_rfl) (by kernel_rfl) (fun _ _ _ h => h) (Or.inl ⟨by rfl, ?hy6rx9⟩) (by with_reducible assumption) ?rest6rx9
          case hy6rx9 => (intro wS hSw; (try dsimp only at hSw); have z0 := cell_later hSw uB; have z1 := cell_later hSw s0; have z2 := cell_later hSw s1; have z3 := cell_later hSw s2; have z4 := cell_later hSw s3; have z5 := cell_later hSw u0; have z6 := cell_later hSw u1; clear hSw; go_simp; try with_reducible rfl)
          case' rest6rx9 => (try simp only [Act.put, List.setIfInBounds_toArray, List.set_cons_zero, List.set_cons_succ])
          refine wpAnyH_take (i := 10) (oi := { dst := some 21, op := Op.indexAddr 33 (Operand.tmp 19) (Operand.tmp 20), type := 0, pos := "l3_hull.go:98", after := #[{ on := 8, ground := Ground.data }, { on := 9, ground := Ground.data }, { on := 2, ground := Ground.guard }], guard := some (2, true) }) (v := ?v6rx10) rfl (by kernel_rfl) (by kernel_rfl) (by kernel_rfl) (fun _ _ _ h => h) (Or.inl ⟨by rfl, ?hy6rx10⟩) (by with_reducible assumption) ?rest6rx10
          case hy6rx10 => (intro wS hSw; (try dsimp only at hSw); have z0 := cell_later hSw uB; have z1 := cell_later hSw s0; have z2 := cell_later hSw s1; have z3 := cell_later hSw s2; have z4 := cell_later hSw s3; have z5 := cell_later hSw u0; have z6 := cell_later hSw u1; clear hSw; go_simp; try with_reducible rfl)
          case' rest6rx10 => (try simp only [Act.put, List.setIfInBounds_toArray, List.set_cons_zero, List.set_cons_succ])
          refine wpAnyH_take (i := 11) (oi := { dst := some 22, op := Op.load 26 (Operand.tmp 21), type := 26, pos := "l3_hull.go:98", after := #[{ on := 10, ground := Ground.data }, { on := 2, ground := Ground.guard }], guard := some (2, true) }) (v := ?v6rx11) rfl (by kernel_rfl) (by kernel_rfl) (by kernel_rfl) (fun _ _ _ h => h) (Or.inl ⟨by rfl, ?hy6rx11⟩) (by with_reducible assumption) ?rest6rx11
          case hy6rx11 => (intro wS hSw; (try dsimp only at hSw); have z0 := cell_later hSw uB; have z1 := cell_later hSw s0; have z2 := cell_later hSw s1; have z3 := cell_later hSw s2; have z4 := cell_later hSw s3; have z5 := cell_later hSw u0; have z6 := cell_later hSw u1; clear hSw; go_simp; try with_reducible rfl)
          case' rest6rx11 => (try simp only [Act.put, List.setIfInBounds_toArray, List.set_cons_zero, List.set_cons_succ])
          refine wpAnyH_take (i := 12) (oi := { dst := some 23, op := Op.load 26 (Operand.tmp 4), type := 26, pos := "l3_hull.go:98", after := #[{ on := 2, ground := Ground.guard }], guard := some (2, true) }) (v := ?v6rx12) rfl (by kernel_rfl) (by kernel_rfl) (by kernel_rfl) (fun _ _ _ h => h) (Or.inl ⟨by rfl, ?hy6rx12⟩) (by with_reducible assumption) ?rest6rx12
          case hy6rx12 => (intro wS hSw; (try dsimp only at hSw); have z0 := cell_later hSw uB; have z1 := cell_later hSw s0; have z2 := cell_later hSw s1; have z3 := cell_later hSw s2; have z4 := cell_later hSw s3; have z5 := cell_later hSw u0; have z6 := cell_later hSw u1; clear hSw; go_simp; try with_reducible rfl)
          case' rest6rx12 => (try simp only [Act.put, List.setIfInBounds_toArray, List.set_cons_zero, List.set_cons_succ])
          refine wpAnyH_ready (rs := [13]) (by kernel_rfl) (by simp) ?_
          refine AllReadyH.cons (o := { dst := some 24, op := Op.call { callee := Callee.value (Operand.func 108), args := #[Operand.tmp 18, Operand.tmp 22, Operand.tmp 23], argTypes := #[26, 26, 26] }, type := 4, pos := "l3_hull.go:98", after := #[{ on := 7, ground := Ground.data }, { on := 11, ground := Ground.data }, { on := 12, ground := Ground.data }, { on := 2, ground := Ground.chain }, { on := 2, ground := Ground.guard }], guard := some (2, true) }) rfl (fun K hK => ?_) AllReadyH.nil
          go_simp
          refine (turnsLeft_c _ _ _ _ _ _ _ (cell_later (by with_reducible assumption) uz)).mono ?_
          rintro e w' ⟨rfl, hb⟩
          go_wp2_with fail
          refine hK.out _ _ ?_ (fun hHeld => ?_)
          · exact grew (by with_reducible assumption) hb
          clear hK K
          try simp only [Act.put, List.setIfInBounds_toArray, List.set_cons_zero, List.set_cons_succ]
          refine wpAnyH_take (i := 14) (oi := { dst := some 25, op := Op.unOp UnOp.not 4 (Operand.tmp 24), type := 4, pos := "l3_hull.go:98", after := #[{ on := 13, ground := Ground.data }, { on := 2, ground := Ground.guard }], guard := some (2, true) }) (v := ?v6rx14) rfl (by kernel_rfl) (by kernel_rfl) (by kernel_rfl) (fun _ _ _ h => h) (Or.inl ⟨by rfl, ?hy6rx14⟩) (by with_reducible assumption) ?rest6rx14
          case hy6rx14 => (intro wS hSw; (try dsimp only at hSw); have z0 := cell_later hSw uB; have z1 := cell_later hSw s0; have z2 := cell_later hSw s1; have z3 := cell_later hSw s2; have z4 := cell_later hSw s3; have z5 := cell_later hSw u0; have z6 := cell_later hSw u1; clear hSw; go_simp; try with_reducible rfl)
          case' rest6rx14 => (try simp only [Act.put, List.setIfInBounds_toArray, List.set_cons_zero, List.set_cons_succ])
          refine wpAnyH_take (i := 15) (oi := { dst := some 26, op := Op.pick (Operand.tmp 13) (Operand.tmp 25) (Operand.const (Value.bool false)), type := 4, pos := "l3_hull.go:98", after := #[{ on := 2, ground := Ground.data }, { on := 14, ground := Ground.data }], guard := none }) (v := ?v6rx15) rfl (by kernel_rfl) (by kernel_rfl) (by kernel_rfl) (fun _ _ _ h => h) (Or.inl ⟨by rfl, ?hy6rx15⟩) (by with_reducible assumption) ?rest6rx15
          case hy6rx15 => (intro wS hSw; (try dsimp only at hSw); have z0 := cell_later hSw uB; have z1 := cell_later hSw s0; have z2 := cell_later hSw s1; have z3 := cell_later hSw s2; have z4 := cell_later hSw s3; have z5 := cell_later hSw u0; have z6 := cell_later hSw u1; clear hSw; go_simp; try with_reducible rfl)
          case' rest6rx15 => (try simp only [Act.put, List.setIfInBounds_toArray, List.set_cons_zero, List.set_cons_succ])
          refine wpAnyH_done (by kernel_rfl) ?_ _
          dsimp only [noOut]
          gi_wp2
          have hhs := hHeld.size
          refine reg7 _ _ (w.heap.size + 1) w.heap.size Bx n C.length _ x y _ c3 (C.take (keepB tlB C (x, y) C.length)) _ w' _ _ _ _ _ _ _ _ _ _ _ _ _ _ _ _ _ _ _ _ _ _ _ _ _ _ _ _ _ _ _ _ _ _ _ _ _ _ _ (fun _ _ _ _ h => h) (boxed_later HX.out (grew HBU.out hHeld)) (cell_later hHeld u0) (cell_later hHeld u1) hi1 hn0 (half_stepT (HO.out.later (grew HBU.out hHeld)) hn HN.out) (by omega) (Nat.lt_succ_self _) (by rw [List.length_take]; simp; omega) ?_
          intro a' w3 v hk3 hb3 hx3 ho3
          refine ⟨by rw [World.size_alloc]; exact (keeps_below (grew HBU.out hHeld)).trans hk3, ((grew HBU.out hHeld).mono hWs).trans hb3, ⟨v, hx3, by rw [hst.out]; exact ho3, by rw [List.length_append]; simp; omega⟩, (grew HB.out (grew HBU.out hHeld)).trans hb3⟩
      · obtain ⟨q, hq⟩ : ∃ q, (n : Int) - 1 = q := ⟨_, rfl⟩
        rw [hq]
        have hi1 : IntKind.i64.wrap (q + 1) = (n : Int) := by rw [IntKind.wrap_i64]; omega
        have hd : decide (1 ≤ q) = false := decide_eq_false (by omega)
        have hkn : n = keepB tlB C (x, y) C.length := by
          rw [← HKN.out]
          exact (keepB_few hn1).symm
        have HN := hid hkn
        clear hkn hq
        gi_wp2
        refine wpIn_region_lift (by kernel_rfl) (S := (fun u => Below wr.heap.size wr u)) (by kernel_rfl) ?_ (fun hHeld => ?_)
        · exact (Below.refl _ _).drew
        refine wpAnyH_take (i := 0) (oi := { dst := some 11, op := Op.move (Operand.tmp 5), type := 3, pos := "l3_hull.go:98", after := #[], guard := none }) (v := ?v7rx0) rfl (by kernel_rfl) (by kernel_rfl) (by kernel_rfl) (fun _ _ _ h => h) (Or.inl ⟨by rfl, ?hy7rx0⟩) (by with_reducible assumption) ?rest7rx0
        case hy7rx0 => (intro wS hSw; (try dsimp only at hSw); have z0 := cell_later hSw uB; have z1 := cell_later hSw u0; have z2 := cell_later hSw u1; clear hSw; go_simp; try with_reducible rfl)
        case' rest7rx0 => (try simp only [Act.put, List.setIfInBounds_toArray, List.set_cons_zero, List.set_cons_succ])
        refine wpAnyH_take (i := 1) (oi := { dst := some 12, op := Op.binOp BinOp.geq 3 (Operand.tmp 11) (Operand.const (Value.int IntKind.i64 1)) 3, type := 4, pos := "l3_hull.go:98", after := #[{ on := 0, ground := Ground.data }], guard := none }) (v := ?v7rx1) rfl (by kernel_rfl) (by kernel_rfl) (by kernel_rfl) (fun _ _ _ h => h) (Or.inl ⟨by rfl, ?hy7rx1⟩) (by with_reducible assumption) ?rest7rx1
        case hy7rx1 => (intro wS hSw; (try dsimp only at hSw); have z0 := cell_later hSw uB; have z1 := cell_later hSw u0; have z2 := cell_later hSw u1; clear hSw; go_simp; try with_reducible rfl)
        case' rest7rx1 => (try simp only [Act.put, List.setIfInBounds_toArray, List.set_cons_zero, List.set_cons_succ])
        refine wpAnyH_take (i := 2) (oi := { dst := some 13, op := Op.move (Operand.tmp 12), type := 4, pos := "l3_hull.go:98", after := #[{ on := 1, ground := Ground.data }], guard := none }) (v := ?v7rx2) rfl (by kernel_rfl) (by kernel_rfl) (by kernel_rfl) (fun _ _ _ h => h) (Or.inl ⟨by rfl, ?hy7rx2⟩) (by with_reducible assumption) ?rest7rx2
        case hy7rx2 => (intro wS hSw; (try dsimp only at hSw); have z0 := cell_later hSw uB; have z1 := cell_later hSw u0; have z2 := cell_later hSw u1; clear hSw; go_simp; try with_reducible rfl)
        case' rest7rx2 => (try simp only [Act.put, List.setIfInBounds_toArray, List.set_cons_zero, List.set_cons_succ])
        refine wpAnyH_take (i := 3) (oi := { dst := some 14, op := Op.load 33 (Operand.tmp 3), type := 33, pos := "l3_hull.go:98", after := #[{ on := 2, ground := Ground.guard }], guard := some (2, true) }) (v := undef) rfl (by kernel_rfl) (by kernel_rfl) (by kernel_rfl) (fun _ _ _ h => h) (Or.inr ⟨by rfl, rfl⟩) (by with_reducible assumption) ?rest7rx3
        case' rest7rx3 => (try simp only [Act.put, List.setIfInBounds_toArray, List.set_cons_zero, List.set_cons_succ])
        refine wpAnyH_take (i := 4) (oi := { dst := some 15, op := Op.move (Operand.tmp 5), type := 3, pos := "l3_hull.go:98", after := #[{ on := 2, ground := Ground.guard }], guard := some (2, true) }) (v := undef) rfl (by kernel_rfl) (by kernel_rfl) (by kernel_rfl) (fun _ _ _ h => h) (Or.inr ⟨by rfl, rfl⟩) (by with_reducible assumption) ?rest7rx4
        case' rest7rx4 => (try simp only [Act.put, List.setIfInBounds_toArray, List.set_cons_zero, List.set_cons_succ])
        refine wpAnyH_take (i := 5) (oi := { dst := some 16, op := Op.binOp BinOp.sub 3 (Operand.tmp 15) (Operand.const (Value.int IntKind.i64 1)) 3, type := 3, pos := "l3_hull.go:98", after := #[{ on := 4, ground := Ground.data }, { on := 2, ground := Ground.guard }], guard := some (2, true) }) (v := undef) rfl (by kernel_rfl) (by kernel_rfl) (by kernel_rfl) (fun _ _ _ h => h) (Or.inr ⟨by rfl, rfl⟩) (by with_reducible assumption) ?rest7rx5
        case' rest7rx5 => (try simp only [Act.put, List.setIfInBounds_toArray, List.set_cons_zero, List.set_cons_succ])
        refine wpAnyH_take (i := 6) (oi := { dst := some 17, op := Op.indexAddr 33 (Operand.tmp 14) (Operand.tmp 16), type := 0, pos := "l3_hull.go:98", after := #[{ on := 3, ground := Ground.data }, { on := 5, ground := Ground.data }, { on := 2, ground := Ground.guard }], guard := some (2, true) }) (v := undef) rfl (by kernel_rfl) (by kernel_rfl) (by kernel_rfl) (fun _ _ _ h => h) (Or.inr ⟨by rfl, rfl⟩) (by with_reducible assumption) ?rest7rx6
        case' rest7rx6 => (try simp only [Act.put, List.setIfInBounds_toArray, List.set_cons_zero, List.set_cons_succ])
        refine wpAnyH_take (i := 7) (oi := { dst := some 18, op := Op.load 26 (Operand.tmp 17), type := 26, pos := "l3_hull.go:98", after := #[{ on := 6, ground := Ground.data }, { on := 2, ground := Ground.guard }], guard := some (2, true) }) (v := undef) rfl (by kernel_rfl) (by kernel_rfl) (by kernel_rfl) (fun _ _ _ h => h) (Or.inr ⟨by rfl, rfl⟩) (by with_reducible assumption) ?rest7rx7
        case' rest7rx7 => (try simp only [Act.put, List.setIfInBounds_toArray, List.set_cons_zero, List.set_cons_succ])
        refine wpAnyH_take (i := 8) (oi := { dst := some 19, op := Op.load 33 (Operand.tmp 3), type := 33, pos := "l3_hull.go:98", after := #[{ on := 2, ground := Ground.guard }], guard := some (2, true) }) (v := undef) rfl (by kernel_rfl) (by kernel_rfl) (by kernel_rfl) (fun _ _ _ h => h) (Or.inr ⟨by rfl, rfl⟩) (by with_reducible assumption) ?rest7rx8
        case' rest7rx8 => (try simp only [Act.put, List.setIfInBounds_toArray, List.set_cons_zero, List.set_cons_succ])
        refine wpAnyH_take (i := 9) (oi := { dst := some 20, op := Op.move (Operand.tmp 5), type := 3, pos := "l3_hull.go:98", after := #[{ on := 2, ground := Ground.guard }], guard := some (2, true) }) (v := undef) rfl (by kernel_rfl) (by kernel_rfl) (by kernel_rfl) (fun _ _ _ h => h) (Or.inr ⟨by rfl, rfl⟩) (by with_reducible assumption) ?rest7rx9
        case' rest7rx9 => (try simp only [Act.put, List.setIfInBounds_toArray, List.set_cons_zero, List.set_cons_succ])
        refine wpAnyH_take (i := 10) (oi := { dst := some 21, op := Op.indexAddr 33 (Operand.tmp 19) (Operand.tmp 20), type := 0, pos := "l3_hull.go:98", after := #[{ on := 8, ground := Ground.data }, { on := 9, ground := Ground.data }, { on := 2, ground := Ground.guard }], guard := some (2, true) }) (v := undef) rfl (by kernel_rfl) (by kernel_rfl) (by kernel_rfl) (fun _ _ _ h => h) (Or.inr ⟨by rfl, rfl⟩) (by with_reducible assumption) ?rest7rx10
        case' rest7rx10 => (try simp only [Act.put, List.setIfInBounds_toArray, List.set_cons_zero, List.set_cons_succ])
        refine wpAnyH_take (i := 11) (oi := { dst := some 22, op := Op.load 26 (Operand.tmp 21), type := 26, pos := "l3_hull.go:98", after := #[{ on := 10, ground := Ground.data }, { on := 2, ground := Ground.guard }], guard := some (2, true) }) (v := undef) rfl (by kernel_rfl) (by kernel_rfl) (by kernel_rfl) (fun _ _ _ h => h) (Or.inr ⟨by rfl, rfl⟩) (by with_reducible assumption) ?rest7rx11
        case' rest7rx11 => (try simp only [Act.put, List.setIfInBounds_toArray, List.set_cons_zero, List.set_cons_succ])
        refine wpAnyH_take (i := 12) (oi := { dst := some 23, op := Op.load 26 (Operand.tmp 4), type := 26, pos := "l3_hull.go:98", after := #[{ on := 2, ground := Ground.guard }], guard := some (2, true) }) (v := undef) rfl (by kernel_rfl) (by kernel_rfl) (by kernel_rfl) (fun _ _ _ h => h) (Or.inr ⟨by rfl, rfl⟩) (by with_reducible assumption) ?rest7rx12
        case' rest7rx12 => (try simp only [Act.put, List.setIfInBounds_toArray, List.set_cons_zero, List.set_cons_succ])
        refine wpAnyH_ready (rs := [13]) (by kernel_rfl) (by simp) ?_
        refine AllReadyH.cons (o := { dst := some 24, op := Op.call { callee := Callee.value (Operand.func 108), args := #[Operand.tmp 18, Operand.tmp 22, Operand.tmp 23], argTypes := #[26, 26, 26] }, type := 4, pos := "l3_hull.go:98", after := #[{ on := 7, ground := Ground.data }, { on := 11, ground := Ground.data }, { on := 12, ground := Ground.data }, { on := 2, ground := Ground.chain }, { on := 2, ground := Ground.guard }], guard := some (2, true) }) rfl (fun K hK => ?_) AllReadyH.nil
        go_simp
        refine hK.out _ _ ?_ (fun hHeld => ?_)
        · with_reducible assumption
        clear hK K
        try simp only [Act.put, List.setIfInBounds_toArray, List.set_cons_zero, List.set_cons_succ]
        refine wpAnyH_take (i := 14) (oi := { dst := some 25, op := Op.unOp UnOp.not 4 (Operand.tmp 24), type := 4, pos := "l3_hull.go:98", after := #[{ on := 13, ground := Ground.data }, { on := 2, ground := Ground.guard }], guard := some (2, true) }) (v := undef) rfl (by kernel_rfl) (by kernel_rfl) (by kernel_rfl) (fun _ _ _ h => h) (Or.inr ⟨by rfl, rfl⟩) (by with_reducible assumption) ?rest7rx14
        case' rest7rx14 => (try simp only [Act.put, List.setIfInBounds_toArray, List.set_cons_zero, List.set_cons_succ])
        refine wpAnyH_take (i := 15) (oi := { dst := some 26, op := Op.pick (Operand.tmp 13) (Operand.tmp 25) (Operand.const (Value.bool false)), type := 4, pos := "l3_hull.go:98", after := #[{ on := 2, ground := Ground.data }, { on := 14, ground := Ground.data }], guard := none }) (v := ?v7rx15) rfl (by kernel_rfl) (by kernel_rfl) (by kernel_rfl) (fun _ _ _ h => h) (Or.inl ⟨by rfl, ?hy7rx15⟩) (by with_reducible assumption) ?rest7rx15
        case hy7rx15 => (intro wS hSw; (try dsimp only at hSw); have z0 := cell_later hSw uB; have z1 := cell_later hSw u0; have z2 := cell_later hSw u1; clear hSw; go_simp; try with_reducible rfl)
        case' rest7rx15 => (try simp only [Act.put, List.setIfInBounds_toArray, List.set_cons_zero, List.set_cons_succ])
        refine wpAnyH_done (by kernel_rfl) ?_ _
        dsimp only [noOut]
        generalize wr.drew = w' at hHeld ⊢
        gi_wp2
        have hhs := hHeld.size
        refine reg7 _ _ (w.heap.size + 1) w.heap.size Bx n C.length _ x y _ c3 (C.take (keepB tlB C (x, y) C.length)) _ w' _ _ _ _ _ _ _ _ _ _ _ _ _ _ _ _ _ _ _ _ _ _ _ _ _ _ _ _ _ _ _ _ _ _ _ _ _ _ _ (fun _ _ _ _ h => h) (boxed_later HX.out (grew HBU.out hHeld)) (cell_later hHeld u0) (cell_later hHeld u1) hi1 hn0 (half_stepT (HO.out.later (grew HBU.out hHeld)) hn HN.out) (by omega) (Nat.lt_succ_self _) (by rw [List.length_take]; simp; omega) ?_
        intro a' w3 v hk3 hb3 hx3 ho3
        refine ⟨by rw [World.size_alloc]; exact (keeps_below (grew HBU.out hHeld)).trans hk3, ((grew HBU.out hHeld).mono hWs).trans hb3, ⟨v, hx3, by rw [hst.out]; exact ho3, by rw [List.length_append]; simp; omega⟩, (grew HB.out (grew HBU.out hHeld)).trans hb3⟩
end Go.Proofs.YtipiamhnngmjmaaDoor
namespace Go.Proofs.YtipiamhnngmjmaaDoor
open Go.RowKit Go.Shelf
set_option linter.unusedVariables false
set_option maxRecDepth 8000
/-- All points are good. -/
def allG (l : List (Int × Int)) : Prop := ∀ p, p ∈ l → gp p
theorem allG_of {l : List (Int × Int)} (h : GoodTo l l.length) : allG l := fun p hp => by
  obtain ⟨i, hi, rfl⟩ := List.getElem_of_mem hp
  have := h i hi
  rw [show px l i = (l[i]).1 by simp [px, hi], show py l i = (l[i]).2 by simp [py, hi]] at this
  exact this
theorem goodL_all {l : List (Int × Int)} (h : goodL l = true) : allG l := allG_of (goodL_good h)
theorem allG.rev {l : List (Int × Int)} (h : allG l) : allG l.reverse := fun p hp => h p (by simpa using hp)
theorem turn_eq {l : List (Int × Int)} (h : allG l) : ∀ a ∈ l, ∀ b ∈ l, ∀ c ∈ l, tlB a b c = slB a b c := fun a ha b hb c hc => (tlB_eq (h a ha) (h b hb) (h c hc)).trans (slB_eq (h a ha) (h b hb) (h c hc)).symm
theorem chain_eq {l : List (Int × Int)} (h : allG l) : chainB tlB l = chainB slB l := chainB_congr (turn_eq h)
theorem hull_eq {l : List (Int × Int)} (h : allG l) : hullB tlB l = hullB slB l := hullB_congr (turn_eq h)
def lowL (l : List (Int × Int)) : List (Int × Int) := if goodL l then chainB slB l else []
def uppL (l : List (Int × Int)) : List (Int × Int) := if goodL l then chainB slB l.reverse else []
theorem lowL_len (l : List (Int × Int)) : (lowL l).length ≤ l.length := by
  unfold lowL
  split
  · exact chainB_len _
  · simp
theorem uppL_len (l : List (Int × Int)) : (uppL l).length ≤ l.length := by
  unfold uppL
  split
  · have := chainB_len (t := slB) l.reverse
    simpa using this
  · simp
theorem forward_e (a : Option Addr) (len cap : Nat) (w : World) :
    Calls Tryd.prog 91 #[.slice a len cap] w fun e w' => ∃ B, e = .returned (.func (.func 109) #[] #[.pointer (some ⟨B, 0, none⟩)]) ∧ w'.cell? ⟨B, 0, none⟩ = some (.slice a len cap) ∧ Below w.heap.size w w' := by
  refine (forward_c a len cap w).mono ?_
  rintro e w' ⟨he, rfl⟩
  exact ⟨_, he, by simp [go_sem], by go_grown⟩
theorem backward_e (a : Option Addr) (len cap : Nat) (w : World) :
    Calls Tryd.prog 92 #[.slice a len cap] w fun e w' => ∃ B, e = .returned (.func (.func 110) #[] #[.pointer (some ⟨B, 0, none⟩)]) ∧ w'.cell? ⟨B, 0, none⟩ = some (.slice a len cap) ∧ Below w.heap.size w w' := by
  refine (backward_c a len cap w).mono ?_
  rintro e w' ⟨he, rfl⟩
  exact ⟨_, he, by simp [go_sem], by go_grown⟩
theorem chainF_c (l : List (Int × Int)) (B : Nat) (a : Option Addr) (len cap : Nat) (w : World) (hl : l.length = len) (h1 : len ≤ 1048576) (hc : w.cell? ⟨B, 0, none⟩ = some (.slice a len cap)) (hA : At w.heap.size a l w) (c0 : w.cell? ⟨0, 0, none⟩ = some (.int .i64 1000000)) :
    Calls Tryd.prog 90 #[.func (.func 109) #[] #[.pointer (some ⟨B, 0, none⟩)]] w fun e w' => ∃ v, e = .returned v ∧ OwnC w.heap.size v (chainB tlB l) w' ∧ Below w.heap.size w w' := by
  subst hl
  exact chainOf_c _ _ l w h1 c0 (enters_of Tryd.func109 (by kernel_rfl) rfl) (fun n hn => fwd_stops n hn B w.heap.size a l.length cap l w rfl h1 (World.block_lt_of_cell? w _ hc) (Nat.le_refl _) hc hA)
theorem chainR_c (l : List (Int × Int)) (B : Nat) (a : Option Addr) (len cap : Nat) (w : World) (hl : l.length = len) (h1 : len ≤ 1048576) (hc : w.cell? ⟨B, 0, none⟩ = some (.slice a len cap)) (hA : At w.heap.size a l w) (c0 : w.cell? ⟨0, 0, none⟩ = some (.int .i64 1000000)) :
    Calls Tryd.prog 90 #[.func (.func 110) #[] #[.pointer (some ⟨B, 0, none⟩)]] w fun e w' => ∃ v, e = .returned v ∧ OwnC w.heap.size v (chainB tlB l.reverse) w' ∧ Below w.heap.size w w' := by
  subst hl
  exact chainOf_c _ _ l.reverse w (by rw [List.length_reverse]; exact h1) c0 (enters_of Tryd.func110 (by kernel_rfl) rfl) (fun n hn => by rw [List.length_reverse]; exact bwd_stops n hn B w.heap.size a l.length cap l w rfl h1 (World.block_lt_of_cell? w _ hc) (Nat.le_refl _) hc hA)
end Go.Proofs.YtipiamhnngmjmaaDoor
