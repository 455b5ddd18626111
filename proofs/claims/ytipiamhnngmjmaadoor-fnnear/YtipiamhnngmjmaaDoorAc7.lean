/-
  The ways that are enough to look at for two corners, in the program: waysTo.
  Conditions: as each theorem states them.
-/
import Derived.Test.YtipiamhnngmjmaaDoorAc6
namespace Go.Proofs.YtipiamhnngmjmaaDoor
open Go.RowKit Go.Shelf
set_option linter.unusedVariables false
set_option maxRecDepth 8000
set_option maxHeartbeats 8000000 in
theorem waysTo_q (e0 e1 b0 b1 f0 f1 g0 g1 p0 p1 q0 q1 : Int) (w : World) (hf : dirB (f0, f1)) (hg : dirB (g0, g1)) (hp : ng (f0, f1) = (p0, p1)) (hq : ng (g0, g1) = (q0, q1)) :
    Calls Tryd.prog 58 #[.agg #[.int .i64 e0, .int .i64 e1, .int .i64 b0, .int .i64 b1], .agg #[.int .i64 f0, .int .i64 f1, .int .i64 g0, .int .i64 g1]] w fun e w' => e = .returned (.agg #[.int .i64 e0, .int .i64 e1, .int .i64 b0, .int .i64 b1, .int .i64 p0, .int .i64 p1, .int .i64 q0, .int .i64 q1]) ∧ Below w.heap.size w w' := by
  have HF := hid hf
  have HG := hid hg
  have HP := hid hp
  have HQ := hid hq
  clear hf hg hp hq
  go_enter Tryd.func58, Tryd.ntmps58
  go_upto_region 1 with fail
  have K2 : Box4 (((w.alloc (.cells #[.int .i64 e0, .int .i64 e1, .int .i64 b0, .int .i64 b1] 72)).alloc (.cells #[.int .i64 f0, .int .i64 f1, .int .i64 g0, .int .i64 g1] 72)).alloc (.cells #[.int .i64 0, .int .i64 0, .int .i64 0, .int .i64 0, .int .i64 0, .int .i64 0, .int .i64 0, .int .i64 0] 73)) w.heap.size e0 e1 b0 b1 := Box4.later (Box4.later (Box4.new w e0 e1 b0 b1) ((Below.refl _ _).alloc (Nat.le_refl _) _)) ((Below.refl _ _).alloc (Nat.le_refl _) _)
  have K3 : Box4 (((w.alloc (.cells #[.int .i64 e0, .int .i64 e1, .int .i64 b0, .int .i64 b1] 72)).alloc (.cells #[.int .i64 f0, .int .i64 f1, .int .i64 g0, .int .i64 g1] 72)).alloc (.cells #[.int .i64 0, .int .i64 0, .int .i64 0, .int .i64 0, .int .i64 0, .int .i64 0, .int .i64 0, .int .i64 0] 73)) (w.heap.size + 1) f0 f1 g0 g1 := by
    have h := Box4.later (Box4.new (w.alloc (.cells #[.int .i64 e0, .int .i64 e1, .int .i64 b0, .int .i64 b1] 72)) f0 f1 g0 g1) ((Below.refl _ _).alloc (Nat.le_refl _) (.cells #[.int .i64 0, .int .i64 0, .int .i64 0, .int .i64 0, .int .i64 0, .int .i64 0, .int .i64 0, .int .i64 0] 73))
    simp only [World.size_alloc] at h
    exact h
  have hr : (((w.alloc (.cells #[.int .i64 e0, .int .i64 e1, .int .i64 b0, .int .i64 b1] 72)).alloc (.cells #[.int .i64 f0, .int .i64 f1, .int .i64 g0, .int .i64 g1] 72)).alloc (.cells #[.int .i64 0, .int .i64 0, .int .i64 0, .int .i64 0, .int .i64 0, .int .i64 0, .int .i64 0, .int .i64 0] 73)).rowIs (w.heap.size + 2) 73 8 (fun _ => .int .i64 0) := by
    refine ⟨_, by simpa using heap_alloc_new ((w.alloc (.cells #[.int .i64 e0, .int .i64 e1, .int .i64 b0, .int .i64 b1] 72)).alloc (.cells #[.int .i64 f0, .int .i64 f1, .int .i64 g0, .int .i64 g1] 72)) (.cells #[.int .i64 0, .int .i64 0, .int .i64 0, .int .i64 0, .int .i64 0, .int .i64 0, .int .i64 0, .int .i64 0] 73), rfl, fun i hi => ?_⟩
    rcases (by omega : i = 0 ∨ i = 1 ∨ i = 2 ∨ i = 3 ∨ i = 4 ∨ i = 5 ∨ i = 6 ∨ i = 7) with rfl | rfl | rfl | rfl | rfl | rfl | rfl | rfl <;> rfl
  have hbw : Below w.heap.size w (((w.alloc (.cells #[.int .i64 e0, .int .i64 e1, .int .i64 b0, .int .i64 b1] 72)).alloc (.cells #[.int .i64 f0, .int .i64 f1, .int .i64 g0, .int .i64 g1] 72)).alloc (.cells #[.int .i64 0, .int .i64 0, .int .i64 0, .int .i64 0, .int .i64 0, .int .i64 0, .int .i64 0, .int .i64 0] 73)) := by go_grown
  have hle : w.heap.size ≤ w.heap.size + 2 := by omega
  generalize ((w.alloc (.cells #[.int .i64 e0, .int .i64 e1, .int .i64 b0, .int .i64 b1] 72)).alloc (.cells #[.int .i64 f0, .int .i64 f1, .int .i64 g0, .int .i64 g1] 72)).alloc (.cells #[.int .i64 0, .int .i64 0, .int .i64 0, .int .i64 0, .int .i64 0, .int .i64 0, .int .i64 0, .int .i64 0] 73) = w0 at K2 K3 hr hbw ⊢
  refine wp_region_held_drew (S := (fun u => Box4 u w.heap.size e0 e1 b0 b1 ∧ Box4 u (w.heap.size + 1) f0 f1 g0 g1)) (by kernel_rfl) ?_ (fun hHeld => ?_)
  · exact ⟨K2.later (Below.refl _ _).drew, K3.later (Below.refl _ _).drew⟩
  replace hr := rowIs_later hr (Below.refl w0.heap.size w0).drew hr.lt
  replace hbw := hbw.trans ((Below.refl w.heap.size w0).drew)
  generalize w0.drew = w1 at hHeld hr hbw ⊢
  refine wpAnyH_take (i := 0) (oi := { dst := some 5, op := Op.fieldAddr 72 (Operand.tmp 2) 0, type := 0, pos := "l10_pairs.go:181", after := #[], guard := none }) (v := ?v2yx0) rfl (by kernel_rfl) (by kernel_rfl) (by kernel_rfl) (fun _ _ _ h => h) (Or.inl ⟨by rfl, ?hy2yx0⟩) (by with_reducible assumption) ?rest2yx0
  case hy2yx0 => (intro wS hSw; (try dsimp only at hSw); have z0 := hSw.1.c0; have z1 := hSw.1.c1; have z2 := hSw.1.c2; have z3 := hSw.1.c3; have z4 := hSw.2.c0; have z5 := hSw.2.c1; have z6 := hSw.2.c2; have z7 := hSw.2.c3; clear hSw; go_simp; try with_reducible rfl)
  case' rest2yx0 => (try simp only [Act.put, List.setIfInBounds_toArray, List.set_cons_zero, List.set_cons_succ])
  refine wpAnyH_take (i := 1) (oi := { dst := some 6, op := Op.load 26 (Operand.tmp 5), type := 26, pos := "l10_pairs.go:181", after := #[{ on := 0, ground := Ground.data }], guard := none }) (v := ?v3yx1) rfl (by kernel_rfl) (by kernel_rfl) (by kernel_rfl) (fun _ _ _ h => h) (Or.inl ⟨by rfl, ?hy3yx1⟩) (by with_reducible assumption) ?rest3yx1
  case hy3yx1 => (intro wS hSw; (try dsimp only at hSw); have z0 := hSw.1.c0; have z1 := hSw.1.c1; have z2 := hSw.1.c2; have z3 := hSw.1.c3; have z4 := hSw.2.c0; have z5 := hSw.2.c1; have z6 := hSw.2.c2; have z7 := hSw.2.c3; clear hSw; go_simp; try with_reducible rfl)
  case' rest3yx1 => (try simp only [Act.put, List.setIfInBounds_toArray, List.set_cons_zero, List.set_cons_succ])
  refine wpAnyH_take (i := 2) (oi := { dst := some 7, op := Op.fieldAddr 72 (Operand.tmp 2) 1, type := 0, pos := "l10_pairs.go:181", after := #[], guard := none }) (v := ?v4yx2) rfl (by kernel_rfl) (by kernel_rfl) (by kernel_rfl) (fun _ _ _ h => h) (Or.inl ⟨by rfl, ?hy4yx2⟩) (by with_reducible assumption) ?rest4yx2
  case hy4yx2 => (intro wS hSw; (try dsimp only at hSw); have z0 := hSw.1.c0; have z1 := hSw.1.c1; have z2 := hSw.1.c2; have z3 := hSw.1.c3; have z4 := hSw.2.c0; have z5 := hSw.2.c1; have z6 := hSw.2.c2; have z7 := hSw.2.c3; clear hSw; go_simp; try with_reducible rfl)
  case' rest4yx2 => (try simp only [Act.put, List.setIfInBounds_toArray, List.set_cons_zero, List.set_cons_succ])
  refine wpAnyH_take (i := 3) (oi := { dst := some 8, op := Op.load 26 (Operand.tmp 7), type := 26, pos := "l10_pairs.go:181", after := #[{ on := 2, ground := Ground.data }], guard := none }) (v := ?v5yx3) rfl (by kernel_rfl) (by kernel_rfl) (by kernel_rfl) (fun _ _ _ h => h) (Or.inl ⟨by rfl, ?hy5yx3⟩) (by with_reducible assumption) ?rest5yx3
  case hy5yx3 => (intro wS hSw; (try dsimp only at hSw); have z0 := hSw.1.c0; have z1 := hSw.1.c1; have z2 := hSw.1.c2; have z3 := hSw.1.c3; have z4 := hSw.2.c0; have z5 := hSw.2.c1; have z6 := hSw.2.c2; have z7 := hSw.2.c3; clear hSw; go_simp; try with_reducible rfl)
  case' rest5yx3 => (try simp only [Act.put, List.setIfInBounds_toArray, List.set_cons_zero, List.set_cons_succ])
  refine wpAnyH_take (i := 4) (oi := { dst := some 9, op := Op.fieldAddr 72 (Operand.tmp 3) 0, type := 0, pos := "l10_pairs.go:181", after := #[], guard := none }) (v := ?v6yx4) rfl (by kernel_rfl) (by kernel_rfl) (by kernel_rfl) (fun _ _ _ h => h) (Or.inl ⟨by rfl, ?hy6yx4⟩) (by with_reducible assumption) ?rest6yx4
  case hy6yx4 => (intro wS hSw; (try dsimp only at hSw); have z0 := hSw.1.c0; have z1 := hSw.1.c1; have z2 := hSw.1.c2; have z3 := hSw.1.c3; have z4 := hSw.2.c0; have z5 := hSw.2.c1; have z6 := hSw.2.c2; have z7 := hSw.2.c3; clear hSw; go_simp; try with_reducible rfl)
  case' rest6yx4 => (try simp only [Act.put, List.setIfInBounds_toArray, List.set_cons_zero, List.set_cons_succ])
  refine wpAnyH_take (i := 5) (oi := { dst := some 10, op := Op.load 26 (Operand.tmp 9), type := 26, pos := "l10_pairs.go:181", after := #[{ on := 4, ground := Ground.data }], guard := none }) (v := ?v7yx5) rfl (by kernel_rfl) (by kernel_rfl) (by kernel_rfl) (fun _ _ _ h => h) (Or.inl ⟨by rfl, ?hy7yx5⟩) (by with_reducible assumption) ?rest7yx5
  case hy7yx5 => (intro wS hSw; (try dsimp only at hSw); have z0 := hSw.1.c0; have z1 := hSw.1.c1; have z2 := hSw.1.c2; have z3 := hSw.1.c3; have z4 := hSw.2.c0; have z5 := hSw.2.c1; have z6 := hSw.2.c2; have z7 := hSw.2.c3; clear hSw; go_simp; try with_reducible rfl)
  case' rest7yx5 => (try simp only [Act.put, List.setIfInBounds_toArray, List.set_cons_zero, List.set_cons_succ])
  refine wpAnyH_take (i := 7) (oi := { dst := some 12, op := Op.fieldAddr 72 (Operand.tmp 3) 1, type := 0, pos := "l10_pairs.go:181", after := #[], guard := none }) (v := ?v8yx7) rfl (by kernel_rfl) (by kernel_rfl) (by kernel_rfl) (fun _ _ _ h => h) (Or.inl ⟨by rfl, ?hy8yx7⟩) (by with_reducible assumption) ?rest8yx7
  case hy8yx7 => (intro wS hSw; (try dsimp only at hSw); have z0 := hSw.1.c0; have z1 := hSw.1.c1; have z2 := hSw.1.c2; have z3 := hSw.1.c3; have z4 := hSw.2.c0; have z5 := hSw.2.c1; have z6 := hSw.2.c2; have z7 := hSw.2.c3; clear hSw; go_simp; try with_reducible rfl)
  case' rest8yx7 => (try simp only [Act.put, List.setIfInBounds_toArray, List.set_cons_zero, List.set_cons_succ])
  refine wpAnyH_take (i := 8) (oi := { dst := some 13, op := Op.load 26 (Operand.tmp 12), type := 26, pos := "l10_pairs.go:181", after := #[{ on := 7, ground := Ground.data }], guard := none }) (v := ?v9yx8) rfl (by kernel_rfl) (by kernel_rfl) (by kernel_rfl) (fun _ _ _ h => h) (Or.inl ⟨by rfl, ?hy9yx8⟩) (by with_reducible assumption) ?rest9yx8
  case hy9yx8 => (intro wS hSw; (try dsimp only at hSw); have z0 := hSw.1.c0; have z1 := hSw.1.c1; have z2 := hSw.1.c2; have z3 := hSw.1.c3; have z4 := hSw.2.c0; have z5 := hSw.2.c1; have z6 := hSw.2.c2; have z7 := hSw.2.c3; clear hSw; go_simp; try with_reducible rfl)
  case' rest9yx8 => (try simp only [Act.put, List.setIfInBounds_toArray, List.set_cons_zero, List.set_cons_succ])
  refine wpAnyH_ready (rs := [6]) (by kernel_rfl) (by simp) ?_
  refine AllReadyH.cons (o := { dst := some 11, op := Op.call { callee := Callee.value (Operand.func 60), args := #[Operand.tmp 10], argTypes := #[26] }, type := 26, pos := "l10_pairs.go:181", after := #[{ on := 5, ground := Ground.data }], guard := none }) rfl (fun K hK => ?_) AllReadyH.nil
  go_simp
  refine (opposite_q _ _ _ _ _ HF.out HP.out).mono ?_
  rintro e v1 ⟨rfl, hb⟩
  go_wp2_with fail
  refine hK.out _ _ ?_ (fun hHeld2 => ?_)
  · exact ⟨hHeld.1.later hb, hHeld.2.later hb⟩
  clear hHeld
  have hHeld := hHeld2
  clear hHeld2
  replace hr := rowIs_later hr hb hr.lt
  replace hbw := grew hbw hb
  clear hb
  clear hK K
  try simp only [Act.put, List.setIfInBounds_toArray, List.set_cons_zero, List.set_cons_succ]
  refine wpAnyH_ready (rs := [9]) (by kernel_rfl) (by simp) ?_
  refine AllReadyH.cons (o := { dst := some 14, op := Op.call { callee := Callee.value (Operand.func 60), args := #[Operand.tmp 13], argTypes := #[26] }, type := 26, pos := "l10_pairs.go:181", after := #[{ on := 8, ground := Ground.data }, { on := 6, ground := Ground.chain }], guard := none }) rfl (fun K hK => ?_) AllReadyH.nil
  go_simp
  refine (opposite_q _ _ _ _ _ HG.out HQ.out).mono ?_
  rintro e v2 ⟨rfl, hb⟩
  go_wp2_with fail
  refine hK.out _ _ ?_ (fun hHeld2 => ?_)
  · exact ⟨hHeld.1.later hb, hHeld.2.later hb⟩
  clear hHeld
  have hHeld := hHeld2
  clear hHeld2
  replace hr := rowIs_later hr hb hr.lt
  replace hbw := grew hbw hb
  clear hb
  clear hK K
  try simp only [Act.put, List.setIfInBounds_toArray, List.set_cons_zero, List.set_cons_succ]
  refine wpAnyH_take (i := 10) (oi := { dst := some 15, op := Op.build 73 #[(0, Operand.tmp 6), (1, Operand.tmp 8), (2, Operand.tmp 11), (3, Operand.tmp 14)], type := 73, pos := "l10_pairs.go:181", after := #[{ on := 1, ground := Ground.data }, { on := 3, ground := Ground.data }, { on := 6, ground := Ground.data }, { on := 9, ground := Ground.data }], guard := none }) (v := ?v10yx10) rfl (by kernel_rfl) (by kernel_rfl) (by kernel_rfl) (fun _ _ _ h => h) (Or.inl ⟨by rfl, ?hy10yx10⟩) (by with_reducible assumption) ?rest10yx10
  case hy10yx10 => (intro wS hSw; (try dsimp only at hSw); have z0 := hSw.1.c0; have z1 := hSw.1.c1; have z2 := hSw.1.c2; have z3 := hSw.1.c3; have z4 := hSw.2.c0; have z5 := hSw.2.c1; have z6 := hSw.2.c2; have z7 := hSw.2.c3; clear hSw; go_simp; try with_reducible rfl)
  case' rest10yx10 => (try simp only [Act.put, List.setIfInBounds_toArray, List.set_cons_zero, List.set_cons_succ])
  refine wpAnyH_ready (rs := [11]) (by kernel_rfl) (by simp) ?_
  refine AllReadyH.cons (o := { dst := none, op := Op.store 73 (Operand.tmp 4) (Operand.tmp 15), type := 0, pos := "l10_pairs.go:181", after := #[{ on := 10, ground := Ground.data }, { on := 9, ground := Ground.chain }, { on := 0, ground := Ground.phase }, { on := 1, ground := Ground.phase }, { on := 2, ground := Ground.phase }, { on := 3, ground := Ground.phase }, { on := 4, ground := Ground.phase }, { on := 5, ground := Ground.phase }, { on := 6, ground := Ground.phase }, { on := 7, ground := Ground.phase }, { on := 8, ground := Ground.phase }, { on := 9, ground := Ground.phase }, { on := 10, ground := Ground.phase }], guard := none }) rfl (fun K hK => ?_) AllReadyH.nil
  have c0 := hr.cell (i := 0) (by omega)
  have c1 := hr.cell (i := 1) (by omega)
  have c2 := hr.cell (i := 2) (by omega)
  have c3 := hr.cell (i := 3) (by omega)
  have c4 := hr.cell (i := 4) (by omega)
  have c5 := hr.cell (i := 5) (by omega)
  have c6 := hr.cell (i := 6) (by omega)
  have c7 := hr.cell (i := 7) (by omega)
  have f0z := hr.frozen 0
  have f1z := hr.frozen 1
  have f2z := hr.frozen 2
  have f3z := hr.frozen 3
  have f4z := hr.frozen 4
  have f5z := hr.frozen 5
  have f6z := hr.frozen 6
  have f7z := hr.frozen 7
  go_simp
  refine hK.out _ _ ?_ (fun hHeld2 => ?_)
  · exact ⟨((((((((hHeld.1.other (i := 0) (B' := w.heap.size + 2) (by omega) _).other (i := 1) (B' := w.heap.size + 2) (by omega) _).other (i := 2) (B' := w.heap.size + 2) (by omega) _).other (i := 3) (B' := w.heap.size + 2) (by omega) _).other (i := 4) (B' := w.heap.size + 2) (by omega) _).other (i := 5) (B' := w.heap.size + 2) (by omega) _).other (i := 6) (B' := w.heap.size + 2) (by omega) _).other (i := 7) (B' := w.heap.size + 2) (by omega) _), ((((((((hHeld.2.other (i := 0) (B' := w.heap.size + 2) (by omega) _).other (i := 1) (B' := w.heap.size + 2) (by omega) _).other (i := 2) (B' := w.heap.size + 2) (by omega) _).other (i := 3) (B' := w.heap.size + 2) (by omega) _).other (i := 4) (B' := w.heap.size + 2) (by omega) _).other (i := 5) (B' := w.heap.size + 2) (by omega) _).other (i := 6) (B' := w.heap.size + 2) (by omega) _).other (i := 7) (B' := w.heap.size + 2) (by omega) _)⟩
  clear hK K
  try simp only [Act.put, List.setIfInBounds_toArray, List.set_cons_zero, List.set_cons_succ]
  refine wpAnyH_done (by kernel_rfl) ?_ _
  have hr8 := ((((((((hr.set 0 (.int .i64 e0)).set 1 (.int .i64 e1)).set 2 (.int .i64 b0)).set 3 (.int .i64 b1)).set 4 (.int .i64 p0)).set 5 (.int .i64 p1)).set 6 (.int .i64 q0)).set 7 (.int .i64 q1))
  have hb8 := ((((((((hbw.setCell (p := ⟨w.heap.size + 2, 0, none⟩) hle (.int .i64 e0)).setCell (p := ⟨w.heap.size + 2, 1, none⟩) hle (.int .i64 e1)).setCell (p := ⟨w.heap.size + 2, 2, none⟩) hle (.int .i64 b0)).setCell (p := ⟨w.heap.size + 2, 3, none⟩) hle (.int .i64 b1)).setCell (p := ⟨w.heap.size + 2, 4, none⟩) hle (.int .i64 p0)).setCell (p := ⟨w.heap.size + 2, 5, none⟩) hle (.int .i64 p1)).setCell (p := ⟨w.heap.size + 2, 6, none⟩) hle (.int .i64 q0)).setCell (p := ⟨w.heap.size + 2, 7, none⟩) hle (.int .i64 q1))
  generalize ((((((((v2.setCell ⟨w.heap.size + 2, 0, none⟩ (.int .i64 e0)).setCell ⟨w.heap.size + 2, 1, none⟩ (.int .i64 e1)).setCell ⟨w.heap.size + 2, 2, none⟩ (.int .i64 b0)).setCell ⟨w.heap.size + 2, 3, none⟩ (.int .i64 b1)).setCell ⟨w.heap.size + 2, 4, none⟩ (.int .i64 p0)).setCell ⟨w.heap.size + 2, 5, none⟩ (.int .i64 p1)).setCell ⟨w.heap.size + 2, 6, none⟩ (.int .i64 q0)).setCell ⟨w.heap.size + 2, 7, none⟩ (.int .i64 q1)) = wz at hr8 hb8 ⊢
  have r0 := hr8.cell (i := 0) (by omega)
  have r1 := hr8.cell (i := 1) (by omega)
  have r2 := hr8.cell (i := 2) (by omega)
  have r3 := hr8.cell (i := 3) (by omega)
  have r4 := hr8.cell (i := 4) (by omega)
  have r5 := hr8.cell (i := 5) (by omega)
  have r6 := hr8.cell (i := 6) (by omega)
  have r7 := hr8.cell (i := 7) (by omega)
  rw [if_neg (by omega), if_neg (by omega), if_neg (by omega), if_neg (by omega), if_neg (by omega), if_neg (by omega), if_neg (by omega), if_pos rfl] at r0
  rw [if_neg (by omega), if_neg (by omega), if_neg (by omega), if_neg (by omega), if_neg (by omega), if_neg (by omega), if_pos rfl] at r1
  rw [if_neg (by omega), if_neg (by omega), if_neg (by omega), if_neg (by omega), if_neg (by omega), if_pos rfl] at r2
  rw [if_neg (by omega), if_neg (by omega), if_neg (by omega), if_neg (by omega), if_pos rfl] at r3
  rw [if_neg (by omega), if_neg (by omega), if_neg (by omega), if_pos rfl] at r4
  rw [if_neg (by omega), if_neg (by omega), if_pos rfl] at r5
  rw [if_neg (by omega), if_pos rfl] at r6
  rw [if_pos rfl] at r7
  go_wp2
  refine bodyPost_ret (v := .agg #[.int .i64 e0, .int .i64 e1, .int .i64 b0, .int .i64 b1, .int .i64 p0, .int .i64 p1, .int .i64 q0, .int .i64 q1]) (by simp [results, Tryd.results58, go_sem, r0, r1, r2, r3, r4, r5, r6, r7]) rfl ?_
  exact ⟨rfl, hb8⟩
end Go.Proofs.YtipiamhnngmjmaaDoor
