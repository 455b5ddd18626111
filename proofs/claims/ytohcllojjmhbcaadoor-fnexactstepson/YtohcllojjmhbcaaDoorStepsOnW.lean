/-
  The walk of a law (see the text that imports this one).
  Conditions: as the theorem states them.
-/
import Derived.Test.YtohcllojjmhbcaaDoorAr8U
namespace Go.Proofs.YtohcllojjmhbcaaDoor.fnExactStepsOn
open Go.RowKit
set_option linter.unusedVariables false
set_option maxRecDepth 8000
set_option maxHeartbeats 4000000 in
theorem walk (ax ay bx b_y : Int) (w : World) (c0 : w.cell? ⟨0, 0, none⟩ = some (.int .i64 1000000)) (c1 : w.cell? ⟨0, 1, none⟩ = some (.int .i64 1099511627776)) (c2 : w.cell? ⟨0, 2, none⟩ = some (.int .i64 4398046511104)) (c3 : w.cell? ⟨0, 3, none⟩ = some (.int .i64 40)) :
    Calls Tryd.prog 5 #[.agg #[.int .i64 ax, .int .i64 ay], .agg #[.int .i64 bx, .int .i64 b_y]] w fun e w' => e = .returned (.bool true) ∧ Below w.heap.size w w' := by
  have hbw : Below w.heap.size w ((w.alloc (.cells #[.int .i64 ax, .int .i64 ay] 47)).alloc (.cells #[.int .i64 bx, .int .i64 b_y] 47)) := by go_grown
  have k0 : ((w.alloc (.cells #[.int .i64 ax, .int .i64 ay] 47)).alloc (.cells #[.int .i64 bx, .int .i64 b_y] 47)).cell? ⟨w.heap.size, 0, none⟩ = some (.int .i64 ax) := by simp [go_sem]
  have k1 : ((w.alloc (.cells #[.int .i64 ax, .int .i64 ay] 47)).alloc (.cells #[.int .i64 bx, .int .i64 b_y] 47)).cell? ⟨w.heap.size, 1, none⟩ = some (.int .i64 ay) := by simp [go_sem]
  have k2 : ((w.alloc (.cells #[.int .i64 ax, .int .i64 ay] 47)).alloc (.cells #[.int .i64 bx, .int .i64 b_y] 47)).cell? ⟨w.heap.size + 1, 0, none⟩ = some (.int .i64 bx) := by simp [go_sem]
  have k3 : ((w.alloc (.cells #[.int .i64 ax, .int .i64 ay] 47)).alloc (.cells #[.int .i64 bx, .int .i64 b_y] 47)).cell? ⟨w.heap.size + 1, 1, none⟩ = some (.int .i64 b_y) := by simp [go_sem]
  have C0 := hid c0
  clear c0 c1 c2 c3
  go_enter Tryd.func5, Tryd.ntmps5
  go_upto_region 1 with fail
  generalize ((w.alloc (.cells #[.int .i64 ax, .int .i64 ay] 47)).alloc (.cells #[.int .i64 bx, .int .i64 b_y] 47)) = wb at *
  refine wp_region_held_drew (S := (fun u => Below wb.heap.size wb u)) (by kernel_rfl) ?_ (fun hHeld => ?_)
  · exact (Below.refl _ _).drew
  refine wpAnyH_take (i := 0) (oi := { dst := some 10, op := Op.load 47 (Operand.tmp 2), type := 47, pos := "exact.go:4504", after := #[], guard := none }) (v := ?v2yx0) rfl (by kernel_rfl) (by kernel_rfl) (by kernel_rfl) (fun _ _ _ h => h) (Or.inl ⟨by rfl, ?hy2yx0⟩) (by with_reducible assumption) ?rest2yx0
  case hy2yx0 => (intro wS hSw; (try dsimp only at hSw); have z0 := cell_later hSw k0; have z1 := cell_later hSw k1; have z2 := cell_later hSw k2; have z3 := cell_later hSw k3; clear hSw; go_simp; try with_reducible rfl)
  case' rest2yx0 => (try simp only [Act.put, List.setIfInBounds_toArray, List.set_cons_zero, List.set_cons_succ])
  refine wpAnyH_take (i := 2) (oi := { dst := some 12, op := Op.load 47 (Operand.tmp 3), type := 47, pos := "exact.go:4504", after := #[], guard := none }) (v := ?v3yx2) rfl (by kernel_rfl) (by kernel_rfl) (by kernel_rfl) (fun _ _ _ h => h) (Or.inl ⟨by rfl, ?hy3yx2⟩) (by with_reducible assumption) ?rest3yx2
  case hy3yx2 => (intro wS hSw; (try dsimp only at hSw); have z0 := cell_later hSw k0; have z1 := cell_later hSw k1; have z2 := cell_later hSw k2; have z3 := cell_later hSw k3; clear hSw; go_simp; try with_reducible rfl)
  case' rest3yx2 => (try simp only [Act.put, List.setIfInBounds_toArray, List.set_cons_zero, List.set_cons_succ])
  refine wpAnyH_ready (rs := [1]) (by kernel_rfl) (by simp) ?_
  refine AllReadyH.cons (o := { dst := some 11, op := Op.call { callee := Callee.value (Operand.func 30), args := #[Operand.tmp 10], argTypes := #[47] }, type := 26, pos := "exact.go:4504", after := #[{ on := 0, ground := Ground.data }], guard := none }) rfl (fun K hK => ?_) AllReadyH.nil
  go_simp
  refine (toPoint_c _ _ _).mono ?_
  rintro e t10 ⟨rfl, hb10⟩
  go_wp2_with fail
  refine hK.out _ _ ?_ (fun hHeld => ?_)
  · exact grew (by with_reducible assumption) hb10
  clear hK K
  try simp only [Act.put, List.setIfInBounds_toArray, List.set_cons_zero, List.set_cons_succ]
  refine wpAnyH_ready (rs := [3]) (by kernel_rfl) (by simp) ?_
  refine AllReadyH.cons (o := { dst := some 13, op := Op.call { callee := Callee.value (Operand.func 30), args := #[Operand.tmp 12], argTypes := #[47] }, type := 26, pos := "exact.go:4504", after := #[{ on := 2, ground := Ground.data }, { on := 1, ground := Ground.chain }], guard := none }) rfl (fun K hK => ?_) AllReadyH.nil
  go_simp
  refine (toPoint_c _ _ _).mono ?_
  rintro e t11 ⟨rfl, hb11⟩
  go_wp2_with fail
  refine hK.out _ _ ?_ (fun hHeld => ?_)
  · exact grew (by with_reducible assumption) hb11
  clear hK K
  try simp only [Act.put, List.setIfInBounds_toArray, List.set_cons_zero, List.set_cons_succ]
  refine wpAnyH_ready (rs := [4]) (by kernel_rfl) (by simp) ?_
  refine AllReadyH.cons (o := { dst := some 14, op := Op.call { callee := Callee.value (Operand.func 25), args := #[Operand.tmp 11, Operand.tmp 13], argTypes := #[26, 26] }, type := 32, pos := "exact.go:4504", after := #[{ on := 1, ground := Ground.data }, { on := 3, ground := Ground.data }, { on := 3, ground := Ground.chain }], guard := none }) rfl (fun K hK => ?_) AllReadyH.nil
  go_simp
  refine (stepsOnSpec_c _ _ _ _ _).mono ?_
  rintro e u1 ⟨rfl, hbu1⟩
  go_wp2_with fail
  refine hK.out _ _ ?_ (fun hHeld => ?_)
  · exact grew (by with_reducible assumption) hbu1
  clear hK K
  try simp only [Act.put, List.setIfInBounds_toArray, List.set_cons_zero, List.set_cons_succ]
  refine wpAnyH_take (i := 5) (oi := { dst := some 9, op := Op.move (Operand.tmp 14), type := 32, pos := "exact.go:4504", after := #[{ on := 4, ground := Ground.data }], guard := none }) (v := ?v4yx5) rfl (by kernel_rfl) (by kernel_rfl) (by kernel_rfl) (fun _ _ _ h => h) (Or.inl ⟨by rfl, ?hy4yx5⟩) (by with_reducible assumption) ?rest4yx5
  case hy4yx5 => (intro wS hSw; (try dsimp only at hSw); have z0 := cell_later hSw k0; have z1 := cell_later hSw k1; have z2 := cell_later hSw k2; have z3 := cell_later hSw k3; clear hSw; go_simp; try with_reducible rfl)
  case' rest4yx5 => (try simp only [Act.put, List.setIfInBounds_toArray, List.set_cons_zero, List.set_cons_succ])
  refine wpAnyH_take (i := 6) (oi := { dst := some 15, op := Op.extract (Operand.tmp 9) 0, type := 3, pos := "exact.go:4504", after := #[{ on := 5, ground := Ground.data }], guard := none }) (v := ?v5yx6) rfl (by kernel_rfl) (by kernel_rfl) (by kernel_rfl) (fun _ _ _ h => h) (Or.inl ⟨by rfl, ?hy5yx6⟩) (by with_reducible assumption) ?rest5yx6
  case hy5yx6 => (intro wS hSw; (try dsimp only at hSw); have z0 := cell_later hSw k0; have z1 := cell_later hSw k1; have z2 := cell_later hSw k2; have z3 := cell_later hSw k3; clear hSw; go_simp; try with_reducible rfl)
  case' rest5yx6 => (try simp only [Act.put, List.setIfInBounds_toArray, List.set_cons_zero, List.set_cons_succ])
  refine wpAnyH_take (i := 7) (oi := { dst := some 16, op := Op.extract (Operand.tmp 9) 1, type := 4, pos := "exact.go:4504", after := #[{ on := 5, ground := Ground.data }, { on := 8, ground := Ground.gcOnly Departure.lateStores }], guard := none }) (v := ?v6yx7) rfl (by kernel_rfl) (by kernel_rfl) (by kernel_rfl) (fun _ _ _ h => h) (Or.inl ⟨by rfl, ?hy6yx7⟩) (by with_reducible assumption) ?rest6yx7
  case hy6yx7 => (intro wS hSw; (try dsimp only at hSw); have z0 := cell_later hSw k0; have z1 := cell_later hSw k1; have z2 := cell_later hSw k2; have z3 := cell_later hSw k3; clear hSw; go_simp; try with_reducible rfl)
  case' rest6yx7 => (try simp only [Act.put, List.setIfInBounds_toArray, List.set_cons_zero, List.set_cons_succ])
  refine wpAnyH_take (i := 8) (oi := { dst := some 5, op := Op.assign (Operand.tmp 15), type := 3, pos := "exact.go:4504", after := #[{ on := 6, ground := Ground.data }, { on := 4, ground := Ground.chain }, { on := 0, ground := Ground.phase }, { on := 1, ground := Ground.phase }, { on := 2, ground := Ground.phase }, { on := 3, ground := Ground.phase }, { on := 4, ground := Ground.phase }, { on := 5, ground := Ground.phase }, { on := 6, ground := Ground.phase }, { on := 7, ground := Ground.textOnly Departure.lateStores }], guard := none }) (v := ?v7yx8) rfl (by kernel_rfl) (by kernel_rfl) (by kernel_rfl) (fun _ _ _ h => h) (Or.inl ⟨by rfl, ?hy7yx8⟩) (by with_reducible assumption) ?rest7yx8
  case hy7yx8 => (intro wS hSw; (try dsimp only at hSw); have z0 := cell_later hSw k0; have z1 := cell_later hSw k1; have z2 := cell_later hSw k2; have z3 := cell_later hSw k3; clear hSw; go_simp; try with_reducible rfl)
  case' rest7yx8 => (try simp only [Act.put, List.setIfInBounds_toArray, List.set_cons_zero, List.set_cons_succ])
  refine wpAnyH_take (i := 9) (oi := { dst := some 6, op := Op.assign (Operand.tmp 16), type := 4, pos := "exact.go:4504", after := #[{ on := 7, ground := Ground.data }, { on := 8, ground := Ground.chain }, { on := 0, ground := Ground.phase }, { on := 1, ground := Ground.phase }, { on := 2, ground := Ground.phase }, { on := 3, ground := Ground.phase }, { on := 4, ground := Ground.phase }, { on := 5, ground := Ground.phase }, { on := 6, ground := Ground.phase }, { on := 7, ground := Ground.phase }, { on := 8, ground := Ground.phase }], guard := none }) (v := ?v8yx9) rfl (by kernel_rfl) (by kernel_rfl) (by kernel_rfl) (fun _ _ _ h => h) (Or.inl ⟨by rfl, ?hy8yx9⟩) (by with_reducible assumption) ?rest8yx9
  case hy8yx9 => (intro wS hSw; (try dsimp only at hSw); have z0 := cell_later hSw k0; have z1 := cell_later hSw k1; have z2 := cell_later hSw k2; have z3 := cell_later hSw k3; clear hSw; go_simp; try with_reducible rfl)
  case' rest8yx9 => (try simp only [Act.put, List.setIfInBounds_toArray, List.set_cons_zero, List.set_cons_succ])
  refine wpAnyH_done (by kernel_rfl) ?_ _
  have hbx : Below wb.heap.size wb u1 := by with_reducible assumption
  replace k0 := cell_later hbx k0
  replace k1 := cell_later hbx k1
  replace k2 := cell_later hbx k2
  replace k3 := cell_later hbx k3
  replace hbw := grew hbw hbx
  clear hbx
  go_upto_region 2 with fail
  refine wp_region_held_drew (S := (fun u => Below u1.heap.size u1 u)) (by kernel_rfl) ?_ (fun hHeld => ?_)
  · exact (Below.refl _ _).drew
  refine wpAnyH_take (i := 0) (oi := { dst := some 18, op := Op.load 47 (Operand.tmp 2), type := 47, pos := "exact.go:4505", after := #[], guard := none }) (v := ?v10yx0) rfl (by kernel_rfl) (by kernel_rfl) (by kernel_rfl) (fun _ _ _ h => h) (Or.inl ⟨by rfl, ?hy10yx0⟩) (by with_reducible assumption) ?rest10yx0
  case hy10yx0 => (intro wS hSw; (try dsimp only at hSw); have z0 := cell_later hSw k0; have z1 := cell_later hSw k1; have z2 := cell_later hSw k2; have z3 := cell_later hSw k3; clear hSw; go_simp; try with_reducible rfl)
  case' rest10yx0 => (try simp only [Act.put, List.setIfInBounds_toArray, List.set_cons_zero, List.set_cons_succ])
  refine wpAnyH_take (i := 2) (oi := { dst := some 20, op := Op.load 47 (Operand.tmp 3), type := 47, pos := "exact.go:4505", after := #[], guard := none }) (v := ?v11yx2) rfl (by kernel_rfl) (by kernel_rfl) (by kernel_rfl) (fun _ _ _ h => h) (Or.inl ⟨by rfl, ?hy11yx2⟩) (by with_reducible assumption) ?rest11yx2
  case hy11yx2 => (intro wS hSw; (try dsimp only at hSw); have z0 := cell_later hSw k0; have z1 := cell_later hSw k1; have z2 := cell_later hSw k2; have z3 := cell_later hSw k3; clear hSw; go_simp; try with_reducible rfl)
  case' rest11yx2 => (try simp only [Act.put, List.setIfInBounds_toArray, List.set_cons_zero, List.set_cons_succ])
  refine wpAnyH_ready (rs := [1]) (by kernel_rfl) (by simp) ?_
  refine AllReadyH.cons (o := { dst := some 19, op := Op.call { callee := Callee.value (Operand.func 30), args := #[Operand.tmp 18], argTypes := #[47] }, type := 26, pos := "exact.go:4505", after := #[{ on := 0, ground := Ground.data }], guard := none }) rfl (fun K hK => ?_) AllReadyH.nil
  go_simp
  refine (toPoint_c _ _ _).mono ?_
  rintro e t20 ⟨rfl, hb20⟩
  go_wp2_with fail
  refine hK.out _ _ ?_ (fun hHeld => ?_)
  · exact grew (by with_reducible assumption) hb20
  clear hK K
  try simp only [Act.put, List.setIfInBounds_toArray, List.set_cons_zero, List.set_cons_succ]
  refine wpAnyH_ready (rs := [3]) (by kernel_rfl) (by simp) ?_
  refine AllReadyH.cons (o := { dst := some 21, op := Op.call { callee := Callee.value (Operand.func 30), args := #[Operand.tmp 20], argTypes := #[47] }, type := 26, pos := "exact.go:4505", after := #[{ on := 2, ground := Ground.data }, { on := 1, ground := Ground.chain }], guard := none }) rfl (fun K hK => ?_) AllReadyH.nil
  go_simp
  refine (toPoint_c _ _ _).mono ?_
  rintro e t21 ⟨rfl, hb21⟩
  go_wp2_with fail
  refine hK.out _ _ ?_ (fun hHeld => ?_)
  · exact grew (by with_reducible assumption) hb21
  clear hK K
  try simp only [Act.put, List.setIfInBounds_toArray, List.set_cons_zero, List.set_cons_succ]
  refine wpAnyH_ready (rs := [4]) (by kernel_rfl) (by simp) ?_
  refine AllReadyH.cons (o := { dst := some 22, op := Op.call { callee := Callee.value (Operand.func 24), args := #[Operand.tmp 19, Operand.tmp 21], argTypes := #[26, 26] }, type := 32, pos := "exact.go:4505", after := #[{ on := 1, ground := Ground.data }, { on := 3, ground := Ground.data }, { on := 3, ground := Ground.chain }], guard := none }) rfl (fun K hK => ?_) AllReadyH.nil
  go_simp
  refine (stepsOnImpl_c _ _ _ _ _ (cell_later (grew hbw hHeld) C0.out)).mono ?_
  rintro e u2 ⟨rfl, hbu2⟩
  go_wp2_with fail
  refine hK.out _ _ ?_ (fun hHeld => ?_)
  · exact grew (by with_reducible assumption) hbu2
  clear hK K
  try simp only [Act.put, List.setIfInBounds_toArray, List.set_cons_zero, List.set_cons_succ]
  refine wpAnyH_take (i := 5) (oi := { dst := some 17, op := Op.move (Operand.tmp 22), type := 32, pos := "exact.go:4505", after := #[{ on := 4, ground := Ground.data }], guard := none }) (v := ?v12yx5) rfl (by kernel_rfl) (by kernel_rfl) (by kernel_rfl) (fun _ _ _ h => h) (Or.inl ⟨by rfl, ?hy12yx5⟩) (by with_reducible assumption) ?rest12yx5
  case hy12yx5 => (intro wS hSw; (try dsimp only at hSw); have z0 := cell_later hSw k0; have z1 := cell_later hSw k1; have z2 := cell_later hSw k2; have z3 := cell_later hSw k3; clear hSw; go_simp; try with_reducible rfl)
  case' rest12yx5 => (try simp only [Act.put, List.setIfInBounds_toArray, List.set_cons_zero, List.set_cons_succ])
  refine wpAnyH_take (i := 6) (oi := { dst := some 23, op := Op.extract (Operand.tmp 17) 0, type := 3, pos := "exact.go:4505", after := #[{ on := 5, ground := Ground.data }], guard := none }) (v := ?v13yx6) rfl (by kernel_rfl) (by kernel_rfl) (by kernel_rfl) (fun _ _ _ h => h) (Or.inl ⟨by rfl, ?hy13yx6⟩) (by with_reducible assumption) ?rest13yx6
  case hy13yx6 => (intro wS hSw; (try dsimp only at hSw); have z0 := cell_later hSw k0; have z1 := cell_later hSw k1; have z2 := cell_later hSw k2; have z3 := cell_later hSw k3; clear hSw; go_simp; try with_reducible rfl)
  case' rest13yx6 => (try simp only [Act.put, List.setIfInBounds_toArray, List.set_cons_zero, List.set_cons_succ])
  refine wpAnyH_take (i := 7) (oi := { dst := some 24, op := Op.extract (Operand.tmp 17) 1, type := 4, pos := "exact.go:4505", after := #[{ on := 5, ground := Ground.data }, { on := 8, ground := Ground.gcOnly Departure.lateStores }], guard := none }) (v := ?v14yx7) rfl (by kernel_rfl) (by kernel_rfl) (by kernel_rfl) (fun _ _ _ h => h) (Or.inl ⟨by rfl, ?hy14yx7⟩) (by with_reducible assumption) ?rest14yx7
  case hy14yx7 => (intro wS hSw; (try dsimp only at hSw); have z0 := cell_later hSw k0; have z1 := cell_later hSw k1; have z2 := cell_later hSw k2; have z3 := cell_later hSw k3; clear hSw; go_simp; try with_reducible rfl)
  case' rest14yx7 => (try simp only [Act.put, List.setIfInBounds_toArray, List.set_cons_zero, List.set_cons_succ])
  refine wpAnyH_take (i := 8) (oi := { dst := some 7, op := Op.assign (Operand.tmp 23), type := 3, pos := "exact.go:4505", after := #[{ on := 6, ground := Ground.data }, { on := 4, ground := Ground.chain }, { on := 0, ground := Ground.phase }, { on := 1, ground := Ground.phase }, { on := 2, ground := Ground.phase }, { on := 3, ground := Ground.phase }, { on := 4, ground := Ground.phase }, { on := 5, ground := Ground.phase }, { on := 6, ground := Ground.phase }, { on := 7, ground := Ground.textOnly Departure.lateStores }], guard := none }) (v := ?v15yx8) rfl (by kernel_rfl) (by kernel_rfl) (by kernel_rfl) (fun _ _ _ h => h) (Or.inl ⟨by rfl, ?hy15yx8⟩) (by with_reducible assumption) ?rest15yx8
  case hy15yx8 => (intro wS hSw; (try dsimp only at hSw); have z0 := cell_later hSw k0; have z1 := cell_later hSw k1; have z2 := cell_later hSw k2; have z3 := cell_later hSw k3; clear hSw; go_simp; try with_reducible rfl)
  case' rest15yx8 => (try simp only [Act.put, List.setIfInBounds_toArray, List.set_cons_zero, List.set_cons_succ])
  refine wpAnyH_take (i := 9) (oi := { dst := some 8, op := Op.assign (Operand.tmp 24), type := 4, pos := "exact.go:4505", after := #[{ on := 7, ground := Ground.data }, { on := 8, ground := Ground.chain }, { on := 0, ground := Ground.phase }, { on := 1, ground := Ground.phase }, { on := 2, ground := Ground.phase }, { on := 3, ground := Ground.phase }, { on := 4, ground := Ground.phase }, { on := 5, ground := Ground.phase }, { on := 6, ground := Ground.phase }, { on := 7, ground := Ground.phase }, { on := 8, ground := Ground.phase }], guard := none }) (v := ?v16yx9) rfl (by kernel_rfl) (by kernel_rfl) (by kernel_rfl) (fun _ _ _ h => h) (Or.inl ⟨by rfl, ?hy16yx9⟩) (by with_reducible assumption) ?rest16yx9
  case hy16yx9 => (intro wS hSw; (try dsimp only at hSw); have z0 := cell_later hSw k0; have z1 := cell_later hSw k1; have z2 := cell_later hSw k2; have z3 := cell_later hSw k3; clear hSw; go_simp; try with_reducible rfl)
  case' rest16yx9 => (try simp only [Act.put, List.setIfInBounds_toArray, List.set_cons_zero, List.set_cons_succ])
  refine wpAnyH_done (by kernel_rfl) ?_ _
  have hby : Below u1.heap.size u1 u2 := by with_reducible assumption
  go_wp2
  go_ret
  exact ⟨rfl, grew hbw hby⟩
end Go.Proofs.YtohcllojjmhbcaaDoor.fnExactStepsOn
