/-
  The first two of a set, taken into two places of their own (contracts for the walks).
  Conditions: as each theorem states them.
-/
import Derived.Test.YtipiamhnngmjmaaDoorNr1
import Derived.Test.YtipiamhnngmjmaaDoorHBeyond
import Derived.Deep.RegionHeld3
import Derived.Deep.DeepCutAuto
namespace Go.Proofs.YtipiamhnngmjmaaDoor
open Go.RowKit Go.Shelf
set_option linter.unusedVariables false
set_option maxRecDepth 8000
set_option maxRecDepth 100000 in
set_option maxHeartbeats 2000000 in
theorem firstTwoImpl (b off len cap : Nat) (h2 : 2 ≤ len) (x0 y0 x1 y1 : Int) (t1 t2 t3 t4 t5 t6 t7 t8 t9 t10 t11 t12 t13 t14 t15 t16 t17 t18 t19 t20 t21 t22 t23 t24 t25 t26 t27 t28 t29 t30 t31 t32 t33 t34 t35 t36 t37 t38 t39 t40 t41 t42 t43 t44 t45 t46 t47 t48 t49 t50 t51 t52 t53 t54 t55 t56 t57 t58 t59 t60 : Value) (Q : Exit → Act → World → Prop) (w : World) (q0 : w.cell? ⟨b, off, none⟩ = some (.int .i64 x0)) (q1 : w.cell? ⟨b, off + 1, none⟩ = some (.int .i64 y0)) (q2 : w.cell? ⟨b, off + 2, none⟩ = some (.int .i64 x1)) (q3 : w.cell? ⟨b, off + 2 + 1, none⟩ = some (.int .i64 y1))
    (hQp : ∀ c (a : Act) (d : Nat) v w, Q (.panic c) (a.put (some d) v) w → Q (.panic c) a w)
    (hQ : ∀ (B7 B8 : Nat) (w3 : World), w.heap.size ≤ B7 → w.heap.size ≤ B8 → B7 ≠ B8 → BoxP w3 B7 (x0, y0) → BoxP w3 B8 (x1, y1) → Below w.heap.size w w3 → Q .normal { tmps := #[.slice (some ⟨b, off, none⟩) len cap, t1, t2, t3, t4, t5, t6, .pointer (some ⟨B7, 0, none⟩), .pointer (some ⟨B8, 0, none⟩), t9, t10, t11, t12, t13, t14, t15, t16, t17, t18, t19, t20, t21, t22, .slice (some ⟨b, off, none⟩) len cap, .pointer (some ⟨b, off, none⟩), .agg #[.int .i64 x0, .int .i64 y0], .slice (some ⟨b, off, none⟩) len cap, .pointer (some ⟨b, off + 2, none⟩), .agg #[.int .i64 x1, .int .i64 y1], t29, t30, t31, t32, t33, t34, t35, t36, t37, t38, t39, t40, t41, t42, t43, t44, t45, t46, t47, t48, t49, t50, t51, t52, t53, t54, t55, t56, t57, t58, t59, t60], defers := [] } w3) :
    (Code.region 3 #[{ dst := some 23, op := Op.move (Operand.tmp 0), type := 33, pos := "l10_pairs.go:115", after := #[], guard := none },
{ dst := some 24, op := Op.indexAddr 33 (Operand.tmp 23) (Operand.const (Value.int IntKind.i64 0)), type := 0, pos := "l10_pairs.go:115", after := #[{ on := 0, ground := Ground.data }], guard := none },
{ dst := some 25, op := Op.load 26 (Operand.tmp 24), type := 26, pos := "l10_pairs.go:115", after := #[{ on := 1, ground := Ground.data }], guard := none },
{ dst := some 26, op := Op.move (Operand.tmp 0), type := 33, pos := "l10_pairs.go:115", after := #[{ on := 8, ground := Ground.gcOnly Departure.lateStores }], guard := none },
{ dst := some 27, op := Op.indexAddr 33 (Operand.tmp 26) (Operand.const (Value.int IntKind.i64 1)), type := 0, pos := "l10_pairs.go:115", after := #[{ on := 3, ground := Ground.data }, { on := 8, ground := Ground.gcOnly Departure.lateStores }], guard := none },
{ dst := some 28, op := Op.load 26 (Operand.tmp 27), type := 26, pos := "l10_pairs.go:115", after := #[{ on := 4, ground := Ground.data }, { on := 8, ground := Ground.gcOnly Departure.lateStores }], guard := none },
{ dst := some 7, op := Op.alloc 26, type := 0, pos := "l10_pairs.go:115", after := #[], guard := none },
{ dst := some 8, op := Op.alloc 26, type := 0, pos := "l10_pairs.go:115", after := #[], guard := none },
{ dst := none, op := Op.store 26 (Operand.tmp 7) (Operand.tmp 25), type := 0, pos := "l10_pairs.go:115", after := #[{ on := 6, ground := Ground.data }, { on := 2, ground := Ground.data }, { on := 0, ground := Ground.phase }, { on := 1, ground := Ground.phase }, { on := 2, ground := Ground.phase }, { on := 3, ground := Ground.textOnly Departure.lateStores }, { on := 4, ground := Ground.textOnly Departure.lateStores }, { on := 5, ground := Ground.textOnly Departure.lateStores }, { on := 6, ground := Ground.phase }, { on := 7, ground := Ground.phase }], guard := none },
{ dst := none, op := Op.store 26 (Operand.tmp 8) (Operand.tmp 28), type := 0, pos := "l10_pairs.go:115", after := #[{ on := 7, ground := Ground.data }, { on := 5, ground := Ground.data }, { on := 8, ground := Ground.chain }, { on := 0, ground := Ground.phase }, { on := 1, ground := Ground.phase }, { on := 2, ground := Ground.phase }, { on := 3, ground := Ground.phase }, { on := 4, ground := Ground.phase }, { on := 5, ground := Ground.phase }, { on := 6, ground := Ground.phase }, { on := 7, ground := Ground.phase }, { on := 8, ground := Ground.phase }], guard := none }] true).wp Tryd.prog Q { tmps := #[.slice (some ⟨b, off, none⟩) len cap, t1, t2, t3, t4, t5, t6, t7, t8, t9, t10, t11, t12, t13, t14, t15, t16, t17, t18, t19, t20, t21, t22, t23, t24, t25, t26, t27, t28, t29, t30, t31, t32, t33, t34, t35, t36, t37, t38, t39, t40, t41, t42, t43, t44, t45, t46, t47, t48, t49, t50, t51, t52, t53, t54, t55, t56, t57, t58, t59, t60], defers := [] } w := by
  have k0 : (0 : Int) < (len : Int) := by omega
  have k1 : (1 : Int) < (len : Int) := by omega
  have k2 : 0 < len := by omega
  have k3 : 1 < len := by omega
  refine wp_region_held_drew (S := (fun u => Below w.heap.size w u)) (by kernel_rfl) ?_ (fun hHeld => ?_)
  · exact (Below.refl _ _).drew
  generalize w.drew = wd at hHeld ⊢
  refine wpAnyH_take (i := 0) (oi := { dst := some 23, op := Op.move (Operand.tmp 0), type := 33, pos := "l10_pairs.go:115", after := #[], guard := none }) (v := ?v1bx0) rfl (by kernel_rfl) (by kernel_rfl) (by kernel_rfl) (fun c a w h => hQp c a _ _ w h) (Or.inl ⟨by rfl, ?hy1bx0⟩) (by with_reducible assumption) ?rest1bx0
  case hy1bx0 => (intro wS hSw; (try dsimp only at hSw); have z0 := cell_later hSw q0; have z1 := cell_later hSw q1; have z2 := cell_later hSw q2; have z3 := cell_later hSw q3; clear hSw; go_simp; try with_reducible rfl)
  case' rest1bx0 => (try simp only [Act.put, List.setIfInBounds_toArray, List.set_cons_zero, List.set_cons_succ])
  refine wpAnyH_take (i := 1) (oi := { dst := some 24, op := Op.indexAddr 33 (Operand.tmp 23) (Operand.const (Value.int IntKind.i64 0)), type := 0, pos := "l10_pairs.go:115", after := #[{ on := 0, ground := Ground.data }], guard := none }) (v := ?v1bx1) rfl (by kernel_rfl) (by kernel_rfl) (by kernel_rfl) (fun c a w h => hQp c a _ _ w h) (Or.inl ⟨by rfl, ?hy1bx1⟩) (by with_reducible assumption) ?rest1bx1
  case hy1bx1 => (intro wS hSw; (try dsimp only at hSw); have z0 := cell_later hSw q0; have z1 := cell_later hSw q1; have z2 := cell_later hSw q2; have z3 := cell_later hSw q3; clear hSw; go_simp; try with_reducible rfl)
  case' rest1bx1 => (try simp only [Act.put, List.setIfInBounds_toArray, List.set_cons_zero, List.set_cons_succ])
  refine wpAnyH_take (i := 2) (oi := { dst := some 25, op := Op.load 26 (Operand.tmp 24), type := 26, pos := "l10_pairs.go:115", after := #[{ on := 1, ground := Ground.data }], guard := none }) (v := ?v1bx2) rfl (by kernel_rfl) (by kernel_rfl) (by kernel_rfl) (fun c a w h => hQp c a _ _ w h) (Or.inl ⟨by rfl, ?hy1bx2⟩) (by with_reducible assumption) ?rest1bx2
  case hy1bx2 => (intro wS hSw; (try dsimp only at hSw); have z0 := cell_later hSw q0; have z1 := cell_later hSw q1; have z2 := cell_later hSw q2; have z3 := cell_later hSw q3; clear hSw; go_simp; try with_reducible rfl)
  case' rest1bx2 => (try simp only [Act.put, List.setIfInBounds_toArray, List.set_cons_zero, List.set_cons_succ])
  refine wpAnyH_take (i := 3) (oi := { dst := some 26, op := Op.move (Operand.tmp 0), type := 33, pos := "l10_pairs.go:115", after := #[{ on := 8, ground := Ground.gcOnly Departure.lateStores }], guard := none }) (v := ?v1bx3) rfl (by kernel_rfl) (by kernel_rfl) (by kernel_rfl) (fun c a w h => hQp c a _ _ w h) (Or.inl ⟨by rfl, ?hy1bx3⟩) (by with_reducible assumption) ?rest1bx3
  case hy1bx3 => (intro wS hSw; (try dsimp only at hSw); have z0 := cell_later hSw q0; have z1 := cell_later hSw q1; have z2 := cell_later hSw q2; have z3 := cell_later hSw q3; clear hSw; go_simp; try with_reducible rfl)
  case' rest1bx3 => (try simp only [Act.put, List.setIfInBounds_toArray, List.set_cons_zero, List.set_cons_succ])
  refine wpAnyH_take (i := 4) (oi := { dst := some 27, op := Op.indexAddr 33 (Operand.tmp 26) (Operand.const (Value.int IntKind.i64 1)), type := 0, pos := "l10_pairs.go:115", after := #[{ on := 3, ground := Ground.data }, { on := 8, ground := Ground.gcOnly Departure.lateStores }], guard := none }) (v := ?v1bx4) rfl (by kernel_rfl) (by kernel_rfl) (by kernel_rfl) (fun c a w h => hQp c a _ _ w h) (Or.inl ⟨by rfl, ?hy1bx4⟩) (by with_reducible assumption) ?rest1bx4
  case hy1bx4 => (intro wS hSw; (try dsimp only at hSw); have z0 := cell_later hSw q0; have z1 := cell_later hSw q1; have z2 := cell_later hSw q2; have z3 := cell_later hSw q3; clear hSw; go_simp; try with_reducible rfl)
  case' rest1bx4 => (try simp only [Act.put, List.setIfInBounds_toArray, List.set_cons_zero, List.set_cons_succ])
  refine wpAnyH_take (i := 5) (oi := { dst := some 28, op := Op.load 26 (Operand.tmp 27), type := 26, pos := "l10_pairs.go:115", after := #[{ on := 4, ground := Ground.data }, { on := 8, ground := Ground.gcOnly Departure.lateStores }], guard := none }) (v := ?v1bx5) rfl (by kernel_rfl) (by kernel_rfl) (by kernel_rfl) (fun c a w h => hQp c a _ _ w h) (Or.inl ⟨by rfl, ?hy1bx5⟩) (by with_reducible assumption) ?rest1bx5
  case hy1bx5 => (intro wS hSw; (try dsimp only at hSw); have z0 := cell_later hSw q0; have z1 := cell_later hSw q1; have z2 := cell_later hSw q2; have z3 := cell_later hSw q3; clear hSw; go_simp; try with_reducible rfl)
  case' rest1bx5 => (try simp only [Act.put, List.setIfInBounds_toArray, List.set_cons_zero, List.set_cons_succ])
  refine wpAnyH_ready (rs := [6, 7]) (by kernel_rfl) (by simp) ?_
  refine AllReadyH.cons (o := { dst := some 7, op := Op.alloc 26, type := 0, pos := "l10_pairs.go:115", after := #[], guard := none }) rfl (fun K hK => ?_) (AllReadyH.cons (o := { dst := some 8, op := Op.alloc 26, type := 0, pos := "l10_pairs.go:115", after := #[], guard := none }) rfl (fun K hK => ?_) AllReadyH.nil)
  · go_simp
    refine hK.out _ _ ?_ (fun hH1 => ?_)
    · exact hHeld.alloc hHeld.size _
    clear hK K
    try simp only [Act.put, List.setIfInBounds_toArray, List.set_cons_zero, List.set_cons_succ]
    have F := BoxP.new wd 0 0
    have hle := hHeld.size
    generalize wd.alloc (.cells #[.int .i64 0, .int .i64 0] 26) = u1 at F hH1 ⊢
    generalize wd.heap.size = Ba at F hle ⊢
    have flt := F.lt
    refine wpAnyH_ready (rs := [7]) (by kernel_rfl) (by simp) ?_
    refine AllReadyH.cons (o := { dst := some 8, op := Op.alloc 26, type := 0, pos := "l10_pairs.go:115", after := #[], guard := none }) rfl (fun K hK => ?_) AllReadyH.nil
    go_simp
    refine hK.out _ _ ?_ (fun hH2 => ?_)
    · exact hH1.alloc hH1.size _
    clear hK K
    try simp only [Act.put, List.setIfInBounds_toArray, List.set_cons_zero, List.set_cons_succ]
    have G := BoxP.new u1 0 0
    replace F := F.later ((Below.refl _ u1).alloc (Nat.le_refl _) (.cells #[.int .i64 0, .int .i64 0] 26))
    have hle2 := hH1.size
    generalize u1.alloc (.cells #[.int .i64 0, .int .i64 0] 26) = u2 at F G hH2 ⊢
    generalize u1.heap.size = Bb at G hle2 flt ⊢
    have hab : Ba ≠ Bb := by omega
    have c0 := F.c0
    have c1 := F.c1
    have f0 := F.f 0
    have f1 := F.f 1
    refine wpAnyH_ready (rs := [8]) (by kernel_rfl) (by simp) ?_
    refine AllReadyH.cons (o := { dst := none, op := Op.store 26 (Operand.tmp 7) (Operand.tmp 25), type := 0, pos := "l10_pairs.go:115", after := #[{ on := 6, ground := Ground.data }, { on := 2, ground := Ground.data }, { on := 0, ground := Ground.phase }, { on := 1, ground := Ground.phase }, { on := 2, ground := Ground.phase }, { on := 3, ground := Ground.textOnly Departure.lateStores }, { on := 4, ground := Ground.textOnly Departure.lateStores }, { on := 5, ground := Ground.textOnly Departure.lateStores }, { on := 6, ground := Ground.phase }, { on := 7, ground := Ground.phase }], guard := none }) rfl (fun K hK => ?_) AllReadyH.nil
    go_simp
    refine hK.out _ _ ?_ (fun hH3 => ?_)
    · exact (hH2.setCell (p := ⟨Ba, 0, none⟩) hle _).setCell (p := ⟨Ba, 1, none⟩) hle _
    clear hK K c0 c1 f0 f1
    try simp only [Act.put, List.setIfInBounds_toArray, List.set_cons_zero, List.set_cons_succ]
    replace F := F.set x0 y0
    replace G := (G.other (i := 0) (hab.symm) (.int .i64 x0)).other (i := 1) (B' := Ba) (hab.symm) (.int .i64 y0)
    generalize (u2.setCell ⟨Ba, 0, none⟩ (.int .i64 x0)).setCell ⟨Ba, 1, none⟩ (.int .i64 y0) = u3 at F G hH3 ⊢
    have c0 := G.c0
    have c1 := G.c1
    have f0 := G.f 0
    have f1 := G.f 1
    refine wpAnyH_ready (rs := [9]) (by kernel_rfl) (by simp) ?_
    refine AllReadyH.cons (o := { dst := none, op := Op.store 26 (Operand.tmp 8) (Operand.tmp 28), type := 0, pos := "l10_pairs.go:115", after := #[{ on := 7, ground := Ground.data }, { on := 5, ground := Ground.data }, { on := 8, ground := Ground.chain }, { on := 0, ground := Ground.phase }, { on := 1, ground := Ground.phase }, { on := 2, ground := Ground.phase }, { on := 3, ground := Ground.phase }, { on := 4, ground := Ground.phase }, { on := 5, ground := Ground.phase }, { on := 6, ground := Ground.phase }, { on := 7, ground := Ground.phase }, { on := 8, ground := Ground.phase }], guard := none }) rfl (fun K hK => ?_) AllReadyH.nil
    go_simp
    refine hK.out _ _ ?_ (fun hH4 => ?_)
    · exact (hH3.setCell (p := ⟨Bb, 0, none⟩) hle2 _).setCell (p := ⟨Bb, 1, none⟩) hle2 _
    clear hK K c0 c1 f0 f1
    try simp only [Act.put, List.setIfInBounds_toArray, List.set_cons_zero, List.set_cons_succ]
    replace G := G.set x1 y1
    replace F := (F.other (i := 0) (hab) (.int .i64 x1)).other (i := 1) (B' := Bb) (hab) (.int .i64 y1)
    generalize (u3.setCell ⟨Bb, 0, none⟩ (.int .i64 x1)).setCell ⟨Bb, 1, none⟩ (.int .i64 y1) = u4 at F G hH4 ⊢
    refine wpAnyH_done (by kernel_rfl) ?_ _
    exact hQ _ _ _ hle hle2 (hab) F G hH4
  · go_simp
    refine hK.out _ _ ?_ (fun hH1 => ?_)
    · exact hHeld.alloc hHeld.size _
    clear hK K
    try simp only [Act.put, List.setIfInBounds_toArray, List.set_cons_zero, List.set_cons_succ]
    have F := BoxP.new wd 0 0
    have hle := hHeld.size
    generalize wd.alloc (.cells #[.int .i64 0, .int .i64 0] 26) = u1 at F hH1 ⊢
    generalize wd.heap.size = Ba at F hle ⊢
    have flt := F.lt
    refine wpAnyH_ready (rs := [6]) (by kernel_rfl) (by simp) ?_
    refine AllReadyH.cons (o := { dst := some 7, op := Op.alloc 26, type := 0, pos := "l10_pairs.go:115", after := #[], guard := none }) rfl (fun K hK => ?_) AllReadyH.nil
    go_simp
    refine hK.out _ _ ?_ (fun hH2 => ?_)
    · exact hH1.alloc hH1.size _
    clear hK K
    try simp only [Act.put, List.setIfInBounds_toArray, List.set_cons_zero, List.set_cons_succ]
    have G := BoxP.new u1 0 0
    replace F := F.later ((Below.refl _ u1).alloc (Nat.le_refl _) (.cells #[.int .i64 0, .int .i64 0] 26))
    have hle2 := hH1.size
    generalize u1.alloc (.cells #[.int .i64 0, .int .i64 0] 26) = u2 at F G hH2 ⊢
    generalize u1.heap.size = Bb at G hle2 flt ⊢
    have hab : Ba ≠ Bb := by omega
    have c0 := G.c0
    have c1 := G.c1
    have f0 := G.f 0
    have f1 := G.f 1
    refine wpAnyH_ready (rs := [8]) (by kernel_rfl) (by simp) ?_
    refine AllReadyH.cons (o := { dst := none, op := Op.store 26 (Operand.tmp 7) (Operand.tmp 25), type := 0, pos := "l10_pairs.go:115", after := #[{ on := 6, ground := Ground.data }, { on := 2, ground := Ground.data }, { on := 0, ground := Ground.phase }, { on := 1, ground := Ground.phase }, { on := 2, ground := Ground.phase }, { on := 3, ground := Ground.textOnly Departure.lateStores }, { on := 4, ground := Ground.textOnly Departure.lateStores }, { on := 5, ground := Ground.textOnly Departure.lateStores }, { on := 6, ground := Ground.phase }, { on := 7, ground := Ground.phase }], guard := none }) rfl (fun K hK => ?_) AllReadyH.nil
    go_simp
    refine hK.out _ _ ?_ (fun hH3 => ?_)
    · exact (hH2.setCell (p := ⟨Bb, 0, none⟩) hle2 _).setCell (p := ⟨Bb, 1, none⟩) hle2 _
    clear hK K c0 c1 f0 f1
    try simp only [Act.put, List.setIfInBounds_toArray, List.set_cons_zero, List.set_cons_succ]
    replace G := G.set x0 y0
    replace F := (F.other (i := 0) (hab) (.int .i64 x0)).other (i := 1) (B' := Bb) (hab) (.int .i64 y0)
    generalize (u2.setCell ⟨Bb, 0, none⟩ (.int .i64 x0)).setCell ⟨Bb, 1, none⟩ (.int .i64 y0) = u3 at F G hH3 ⊢
    have c0 := F.c0
    have c1 := F.c1
    have f0 := F.f 0
    have f1 := F.f 1
    refine wpAnyH_ready (rs := [9]) (by kernel_rfl) (by simp) ?_
    refine AllReadyH.cons (o := { dst := none, op := Op.store 26 (Operand.tmp 8) (Operand.tmp 28), type := 0, pos := "l10_pairs.go:115", after := #[{ on := 7, ground := Ground.data }, { on := 5, ground := Ground.data }, { on := 8, ground := Ground.chain }, { on := 0, ground := Ground.phase }, { on := 1, ground := Ground.phase }, { on := 2, ground := Ground.phase }, { on := 3, ground := Ground.phase }, { on := 4, ground := Ground.phase }, { on := 5, ground := Ground.phase }, { on := 6, ground := Ground.phase }, { on := 7, ground := Ground.phase }, { on := 8, ground := Ground.phase }], guard := none }) rfl (fun K hK => ?_) AllReadyH.nil
    go_simp
    refine hK.out _ _ ?_ (fun hH4 => ?_)
    · exact (hH3.setCell (p := ⟨Ba, 0, none⟩) hle _).setCell (p := ⟨Ba, 1, none⟩) hle _
    clear hK K c0 c1 f0 f1
    try simp only [Act.put, List.setIfInBounds_toArray, List.set_cons_zero, List.set_cons_succ]
    replace F := F.set x1 y1
    replace G := (G.other (i := 0) (hab.symm) (.int .i64 x1)).other (i := 1) (B' := Ba) (hab.symm) (.int .i64 y1)
    generalize (u3.setCell ⟨Ba, 0, none⟩ (.int .i64 x1)).setCell ⟨Ba, 1, none⟩ (.int .i64 y1) = u4 at F G hH4 ⊢
    refine wpAnyH_done (by kernel_rfl) ?_ _
    exact hQ _ _ _ hle2 hle (hab.symm) G F hH4
set_option maxRecDepth 100000 in
set_option maxHeartbeats 2000000 in
theorem firstTwoSpec (b off len cap : Nat) (h2 : 2 ≤ len) (x0 y0 x1 y1 : Int) (t1 t2 t3 t4 t5 t6 t7 t8 t9 t10 t11 t12 t13 t14 t15 t16 t17 t18 t19 t20 t21 t22 t23 t24 t25 t26 t27 t28 t29 t30 t31 t32 t33 t34 t35 t36 t37 t38 t39 t40 t41 t42 t43 t44 t45 t46 t47 t48 t49 t50 t51 t52 t53 t54 t55 t56 t57 t58 t59 t60 : Value) (Q : Exit → Act → World → Prop) (w : World) (q0 : w.cell? ⟨b, off, none⟩ = some (.int .i64 x0)) (q1 : w.cell? ⟨b, off + 1, none⟩ = some (.int .i64 y0)) (q2 : w.cell? ⟨b, off + 2, none⟩ = some (.int .i64 x1)) (q3 : w.cell? ⟨b, off + 2 + 1, none⟩ = some (.int .i64 y1))
    (hQp : ∀ c (a : Act) (d : Nat) v w, Q (.panic c) (a.put (some d) v) w → Q (.panic c) a w)
    (hQ : ∀ (B7 B8 : Nat) (w3 : World), w.heap.size ≤ B7 → w.heap.size ≤ B8 → B7 ≠ B8 → BoxP w3 B7 (x0, y0) → BoxP w3 B8 (x1, y1) → Below w.heap.size w w3 → Q .normal { tmps := #[.slice (some ⟨b, off, none⟩) len cap, t1, t2, t3, t4, t5, t6, .pointer (some ⟨B7, 0, none⟩), .pointer (some ⟨B8, 0, none⟩), t9, t10, t11, t12, t13, t14, t15, t16, t17, t18, t19, t20, t21, t22, .slice (some ⟨b, off, none⟩) len cap, .pointer (some ⟨b, off, none⟩), .agg #[.int .i64 x0, .int .i64 y0], .slice (some ⟨b, off, none⟩) len cap, .pointer (some ⟨b, off + 2, none⟩), .agg #[.int .i64 x1, .int .i64 y1], t29, t30, t31, t32, t33, t34, t35, t36, t37, t38, t39, t40, t41, t42, t43, t44, t45, t46, t47, t48, t49, t50, t51, t52, t53, t54, t55, t56, t57, t58, t59, t60], defers := [] } w3) :
    (Code.region 3 #[{ dst := some 23, op := Op.move (Operand.tmp 0), type := 33, pos := "l10_pairs.go:22", after := #[], guard := none },
{ dst := some 24, op := Op.indexAddr 33 (Operand.tmp 23) (Operand.const (Value.int IntKind.i64 0)), type := 0, pos := "l10_pairs.go:22", after := #[{ on := 0, ground := Ground.data }], guard := none },
{ dst := some 25, op := Op.load 26 (Operand.tmp 24), type := 26, pos := "l10_pairs.go:22", after := #[{ on := 1, ground := Ground.data }], guard := none },
{ dst := some 26, op := Op.move (Operand.tmp 0), type := 33, pos := "l10_pairs.go:22", after := #[{ on := 8, ground := Ground.gcOnly Departure.lateStores }], guard := none },
{ dst := some 27, op := Op.indexAddr 33 (Operand.tmp 26) (Operand.const (Value.int IntKind.i64 1)), type := 0, pos := "l10_pairs.go:22", after := #[{ on := 3, ground := Ground.data }, { on := 8, ground := Ground.gcOnly Departure.lateStores }], guard := none },
{ dst := some 28, op := Op.load 26 (Operand.tmp 27), type := 26, pos := "l10_pairs.go:22", after := #[{ on := 4, ground := Ground.data }, { on := 8, ground := Ground.gcOnly Departure.lateStores }], guard := none },
{ dst := some 7, op := Op.alloc 26, type := 0, pos := "l10_pairs.go:22", after := #[], guard := none },
{ dst := some 8, op := Op.alloc 26, type := 0, pos := "l10_pairs.go:22", after := #[], guard := none },
{ dst := none, op := Op.store 26 (Operand.tmp 7) (Operand.tmp 25), type := 0, pos := "l10_pairs.go:22", after := #[{ on := 6, ground := Ground.data }, { on := 2, ground := Ground.data }, { on := 0, ground := Ground.phase }, { on := 1, ground := Ground.phase }, { on := 2, ground := Ground.phase }, { on := 3, ground := Ground.textOnly Departure.lateStores }, { on := 4, ground := Ground.textOnly Departure.lateStores }, { on := 5, ground := Ground.textOnly Departure.lateStores }, { on := 6, ground := Ground.phase }, { on := 7, ground := Ground.phase }], guard := none },
{ dst := none, op := Op.store 26 (Operand.tmp 8) (Operand.tmp 28), type := 0, pos := "l10_pairs.go:22", after := #[{ on := 7, ground := Ground.data }, { on := 5, ground := Ground.data }, { on := 8, ground := Ground.chain }, { on := 0, ground := Ground.phase }, { on := 1, ground := Ground.phase }, { on := 2, ground := Ground.phase }, { on := 3, ground := Ground.phase }, { on := 4, ground := Ground.phase }, { on := 5, ground := Ground.phase }, { on := 6, ground := Ground.phase }, { on := 7, ground := Ground.phase }, { on := 8, ground := Ground.phase }], guard := none }] true).wp Tryd.prog Q { tmps := #[.slice (some ⟨b, off, none⟩) len cap, t1, t2, t3, t4, t5, t6, t7, t8, t9, t10, t11, t12, t13, t14, t15, t16, t17, t18, t19, t20, t21, t22, t23, t24, t25, t26, t27, t28, t29, t30, t31, t32, t33, t34, t35, t36, t37, t38, t39, t40, t41, t42, t43, t44, t45, t46, t47, t48, t49, t50, t51, t52, t53, t54, t55, t56, t57, t58, t59, t60], defers := [] } w := by
  have k0 : (0 : Int) < (len : Int) := by omega
  have k1 : (1 : Int) < (len : Int) := by omega
  have k2 : 0 < len := by omega
  have k3 : 1 < len := by omega
  refine wp_region_held_drew (S := (fun u => Below w.heap.size w u)) (by kernel_rfl) ?_ (fun hHeld => ?_)
  · exact (Below.refl _ _).drew
  generalize w.drew = wd at hHeld ⊢
  refine wpAnyH_take (i := 0) (oi := { dst := some 23, op := Op.move (Operand.tmp 0), type := 33, pos := "l10_pairs.go:22", after := #[], guard := none }) (v := ?v2bx0) rfl (by kernel_rfl) (by kernel_rfl) (by kernel_rfl) (fun c a w h => hQp c a _ _ w h) (Or.inl ⟨by rfl, ?hy2bx0⟩) (by with_reducible assumption) ?rest2bx0
  case hy2bx0 => (intro wS hSw; (try dsimp only at hSw); have z0 := cell_later hSw q0; have z1 := cell_later hSw q1; have z2 := cell_later hSw q2; have z3 := cell_later hSw q3; clear hSw; go_simp; try with_reducible rfl)
  case' rest2bx0 => (try simp only [Act.put, List.setIfInBounds_toArray, List.set_cons_zero, List.set_cons_succ])
  refine wpAnyH_take (i := 1) (oi := { dst := some 24, op := Op.indexAddr 33 (Operand.tmp 23) (Operand.const (Value.int IntKind.i64 0)), type := 0, pos := "l10_pairs.go:22", after := #[{ on := 0, ground := Ground.data }], guard := none }) (v := ?v2bx1) rfl (by kernel_rfl) (by kernel_rfl) (by kernel_rfl) (fun c a w h => hQp c a _ _ w h) (Or.inl ⟨by rfl, ?hy2bx1⟩) (by with_reducible assumption) ?rest2bx1
  case hy2bx1 => (intro wS hSw; (try dsimp only at hSw); have z0 := cell_later hSw q0; have z1 := cell_later hSw q1; have z2 := cell_later hSw q2; have z3 := cell_later hSw q3; clear hSw; go_simp; try with_reducible rfl)
  case' rest2bx1 => (try simp only [Act.put, List.setIfInBounds_toArray, List.set_cons_zero, List.set_cons_succ])
  refine wpAnyH_take (i := 2) (oi := { dst := some 25, op := Op.load 26 (Operand.tmp 24), type := 26, pos := "l10_pairs.go:22", after := #[{ on := 1, ground := Ground.data }], guard := none }) (v := ?v2bx2) rfl (by kernel_rfl) (by kernel_rfl) (by kernel_rfl) (fun c a w h => hQp c a _ _ w h) (Or.inl ⟨by rfl, ?hy2bx2⟩) (by with_reducible assumption) ?rest2bx2
  case hy2bx2 => (intro wS hSw; (try dsimp only at hSw); have z0 := cell_later hSw q0; have z1 := cell_later hSw q1; have z2 := cell_later hSw q2; have z3 := cell_later hSw q3; clear hSw; go_simp; try with_reducible rfl)
  case' rest2bx2 => (try simp only [Act.put, List.setIfInBounds_toArray, List.set_cons_zero, List.set_cons_succ])
  refine wpAnyH_take (i := 3) (oi := { dst := some 26, op := Op.move (Operand.tmp 0), type := 33, pos := "l10_pairs.go:22", after := #[{ on := 8, ground := Ground.gcOnly Departure.lateStores }], guard := none }) (v := ?v2bx3) rfl (by kernel_rfl) (by kernel_rfl) (by kernel_rfl) (fun c a w h => hQp c a _ _ w h) (Or.inl ⟨by rfl, ?hy2bx3⟩) (by with_reducible assumption) ?rest2bx3
  case hy2bx3 => (intro wS hSw; (try dsimp only at hSw); have z0 := cell_later hSw q0; have z1 := cell_later hSw q1; have z2 := cell_later hSw q2; have z3 := cell_later hSw q3; clear hSw; go_simp; try with_reducible rfl)
  case' rest2bx3 => (try simp only [Act.put, List.setIfInBounds_toArray, List.set_cons_zero, List.set_cons_succ])
  refine wpAnyH_take (i := 4) (oi := { dst := some 27, op := Op.indexAddr 33 (Operand.tmp 26) (Operand.const (Value.int IntKind.i64 1)), type := 0, pos := "l10_pairs.go:22", after := #[{ on := 3, ground := Ground.data }, { on := 8, ground := Ground.gcOnly Departure.lateStores }], guard := none }) (v := ?v2bx4) rfl (by kernel_rfl) (by kernel_rfl) (by kernel_rfl) (fun c a w h => hQp c a _ _ w h) (Or.inl ⟨by rfl, ?hy2bx4⟩) (by with_reducible assumption) ?rest2bx4
  case hy2bx4 => (intro wS hSw; (try dsimp only at hSw); have z0 := cell_later hSw q0; have z1 := cell_later hSw q1; have z2 := cell_later hSw q2; have z3 := cell_later hSw q3; clear hSw; go_simp; try with_reducible rfl)
  case' rest2bx4 => (try simp only [Act.put, List.setIfInBounds_toArray, List.set_cons_zero, List.set_cons_succ])
  refine wpAnyH_take (i := 5) (oi := { dst := some 28, op := Op.load 26 (Operand.tmp 27), type := 26, pos := "l10_pairs.go:22", after := #[{ on := 4, ground := Ground.data }, { on := 8, ground := Ground.gcOnly Departure.lateStores }], guard := none }) (v := ?v2bx5) rfl (by kernel_rfl) (by kernel_rfl) (by kernel_rfl) (fun c a w h => hQp c a _ _ w h) (Or.inl ⟨by rfl, ?hy2bx5⟩) (by with_reducible assumption) ?rest2bx5
  case hy2bx5 => (intro wS hSw; (try dsimp only at hSw); have z0 := cell_later hSw q0; have z1 := cell_later hSw q1; have z2 := cell_later hSw q2; have z3 := cell_later hSw q3; clear hSw; go_simp; try with_reducible rfl)
  case' rest2bx5 => (try simp only [Act.put, List.setIfInBounds_toArray, List.set_cons_zero, List.set_cons_succ])
  refine wpAnyH_ready (rs := [6, 7]) (by kernel_rfl) (by simp) ?_
  refine AllReadyH.cons (o := { dst := some 7, op := Op.alloc 26, type := 0, pos := "l10_pairs.go:22", after := #[], guard := none }) rfl (fun K hK => ?_) (AllReadyH.cons (o := { dst := some 8, op := Op.alloc 26, type := 0, pos := "l10_pairs.go:22", after := #[], guard := none }) rfl (fun K hK => ?_) AllReadyH.nil)
  · go_simp
    refine hK.out _ _ ?_ (fun hH1 => ?_)
    · exact hHeld.alloc hHeld.size _
    clear hK K
    try simp only [Act.put, List.setIfInBounds_toArray, List.set_cons_zero, List.set_cons_succ]
    have F := BoxP.new wd 0 0
    have hle := hHeld.size
    generalize wd.alloc (.cells #[.int .i64 0, .int .i64 0] 26) = u1 at F hH1 ⊢
    generalize wd.heap.size = Ba at F hle ⊢
    have flt := F.lt
    refine wpAnyH_ready (rs := [7]) (by kernel_rfl) (by simp) ?_
    refine AllReadyH.cons (o := { dst := some 8, op := Op.alloc 26, type := 0, pos := "l10_pairs.go:22", after := #[], guard := none }) rfl (fun K hK => ?_) AllReadyH.nil
    go_simp
    refine hK.out _ _ ?_ (fun hH2 => ?_)
    · exact hH1.alloc hH1.size _
    clear hK K
    try simp only [Act.put, List.setIfInBounds_toArray, List.set_cons_zero, List.set_cons_succ]
    have G := BoxP.new u1 0 0
    replace F := F.later ((Below.refl _ u1).alloc (Nat.le_refl _) (.cells #[.int .i64 0, .int .i64 0] 26))
    have hle2 := hH1.size
    generalize u1.alloc (.cells #[.int .i64 0, .int .i64 0] 26) = u2 at F G hH2 ⊢
    generalize u1.heap.size = Bb at G hle2 flt ⊢
    have hab : Ba ≠ Bb := by omega
    have c0 := F.c0
    have c1 := F.c1
    have f0 := F.f 0
    have f1 := F.f 1
    refine wpAnyH_ready (rs := [8]) (by kernel_rfl) (by simp) ?_
    refine AllReadyH.cons (o := { dst := none, op := Op.store 26 (Operand.tmp 7) (Operand.tmp 25), type := 0, pos := "l10_pairs.go:22", after := #[{ on := 6, ground := Ground.data }, { on := 2, ground := Ground.data }, { on := 0, ground := Ground.phase }, { on := 1, ground := Ground.phase }, { on := 2, ground := Ground.phase }, { on := 3, ground := Ground.textOnly Departure.lateStores }, { on := 4, ground := Ground.textOnly Departure.lateStores }, { on := 5, ground := Ground.textOnly Departure.lateStores }, { on := 6, ground := Ground.phase }, { on := 7, ground := Ground.phase }], guard := none }) rfl (fun K hK => ?_) AllReadyH.nil
    go_simp
    refine hK.out _ _ ?_ (fun hH3 => ?_)
    · exact (hH2.setCell (p := ⟨Ba, 0, none⟩) hle _).setCell (p := ⟨Ba, 1, none⟩) hle _
    clear hK K c0 c1 f0 f1
    try simp only [Act.put, List.setIfInBounds_toArray, List.set_cons_zero, List.set_cons_succ]
    replace F := F.set x0 y0
    replace G := (G.other (i := 0) (hab.symm) (.int .i64 x0)).other (i := 1) (B' := Ba) (hab.symm) (.int .i64 y0)
    generalize (u2.setCell ⟨Ba, 0, none⟩ (.int .i64 x0)).setCell ⟨Ba, 1, none⟩ (.int .i64 y0) = u3 at F G hH3 ⊢
    have c0 := G.c0
    have c1 := G.c1
    have f0 := G.f 0
    have f1 := G.f 1
    refine wpAnyH_ready (rs := [9]) (by kernel_rfl) (by simp) ?_
    refine AllReadyH.cons (o := { dst := none, op := Op.store 26 (Operand.tmp 8) (Operand.tmp 28), type := 0, pos := "l10_pairs.go:22", after := #[{ on := 7, ground := Ground.data }, { on := 5, ground := Ground.data }, { on := 8, ground := Ground.chain }, { on := 0, ground := Ground.phase }, { on := 1, ground := Ground.phase }, { on := 2, ground := Ground.phase }, { on := 3, ground := Ground.phase }, { on := 4, ground := Ground.phase }, { on := 5, ground := Ground.phase }, { on := 6, ground := Ground.phase }, { on := 7, ground := Ground.phase }, { on := 8, ground := Ground.phase }], guard := none }) rfl (fun K hK => ?_) AllReadyH.nil
    go_simp
    refine hK.out _ _ ?_ (fun hH4 => ?_)
    · exact (hH3.setCell (p := ⟨Bb, 0, none⟩) hle2 _).setCell (p := ⟨Bb, 1, none⟩) hle2 _
    clear hK K c0 c1 f0 f1
    try simp only [Act.put, List.setIfInBounds_toArray, List.set_cons_zero, List.set_cons_succ]
    replace G := G.set x1 y1
    replace F := (F.other (i := 0) (hab) (.int .i64 x1)).other (i := 1) (B' := Bb) (hab) (.int .i64 y1)
    generalize (u3.setCell ⟨Bb, 0, none⟩ (.int .i64 x1)).setCell ⟨Bb, 1, none⟩ (.int .i64 y1) = u4 at F G hH4 ⊢
    refine wpAnyH_done (by kernel_rfl) ?_ _
    exact hQ _ _ _ hle hle2 (hab) F G hH4
  · go_simp
    refine hK.out _ _ ?_ (fun hH1 => ?_)
    · exact hHeld.alloc hHeld.size _
    clear hK K
    try simp only [Act.put, List.setIfInBounds_toArray, List.set_cons_zero, List.set_cons_succ]
    have F := BoxP.new wd 0 0
    have hle := hHeld.size
    generalize wd.alloc (.cells #[.int .i64 0, .int .i64 0] 26) = u1 at F hH1 ⊢
    generalize wd.heap.size = Ba at F hle ⊢
    have flt := F.lt
    refine wpAnyH_ready (rs := [6]) (by kernel_rfl) (by simp) ?_
    refine AllReadyH.cons (o := { dst := some 7, op := Op.alloc 26, type := 0, pos := "l10_pairs.go:22", after := #[], guard := none }) rfl (fun K hK => ?_) AllReadyH.nil
    go_simp
    refine hK.out _ _ ?_ (fun hH2 => ?_)
    · exact hH1.alloc hH1.size _
    clear hK K
    try simp only [Act.put, List.setIfInBounds_toArray, List.set_cons_zero, List.set_cons_succ]
    have G := BoxP.new u1 0 0
    replace F := F.later ((Below.refl _ u1).alloc (Nat.le_refl _) (.cells #[.int .i64 0, .int .i64 0] 26))
    have hle2 := hH1.size
    generalize u1.alloc (.cells #[.int .i64 0, .int .i64 0] 26) = u2 at F G hH2 ⊢
    generalize u1.heap.size = Bb at G hle2 flt ⊢
    have hab : Ba ≠ Bb := by omega
    have c0 := G.c0
    have c1 := G.c1
    have f0 := G.f 0
    have f1 := G.f 1
    refine wpAnyH_ready (rs := [8]) (by kernel_rfl) (by simp) ?_
    refine AllReadyH.cons (o := { dst := none, op := Op.store 26 (Operand.tmp 7) (Operand.tmp 25), type := 0, pos := "l10_pairs.go:22", after := #[{ on := 6, ground := Ground.data }, { on := 2, ground := Ground.data }, { on := 0, ground := Ground.phase }, { on := 1, ground := Ground.phase }, { on := 2, ground := Ground.phase }, { on := 3, ground := Ground.textOnly Departure.lateStores }, { on := 4, ground := Ground.textOnly Departure.lateStores }, { on := 5, ground := Ground.textOnly Departure.lateStores }, { on := 6, ground := Ground.phase }, { on := 7, ground := Ground.phase }], guard := none }) rfl (fun K hK => ?_) AllReadyH.nil
    go_simp
    refine hK.out _ _ ?_ (fun hH3 => ?_)
    · exact (hH2.setCell (p := ⟨Bb, 0, none⟩) hle2 _).setCell (p := ⟨Bb, 1, none⟩) hle2 _
    clear hK K c0 c1 f0 f1
    try simp only [Act.put, List.setIfInBounds_toArray, List.set_cons_zero, List.set_cons_succ]
    replace G := G.set x0 y0
    replace F := (F.other (i := 0) (hab) (.int .i64 x0)).other (i := 1) (B' := Bb) (hab) (.int .i64 y0)
    generalize (u2.setCell ⟨Bb, 0, none⟩ (.int .i64 x0)).setCell ⟨Bb, 1, none⟩ (.int .i64 y0) = u3 at F G hH3 ⊢
    have c0 := F.c0
    have c1 := F.c1
    have f0 := F.f 0
    have f1 := F.f 1
    refine wpAnyH_ready (rs := [9]) (by kernel_rfl) (by simp) ?_
    refine AllReadyH.cons (o := { dst := none, op := Op.store 26 (Operand.tmp 8) (Operand.tmp 28), type := 0, pos := "l10_pairs.go:22", after := #[{ on := 7, ground := Ground.data }, { on := 5, ground := Ground.data }, { on := 8, ground := Ground.chain }, { on := 0, ground := Ground.phase }, { on := 1, ground := Ground.phase }, { on := 2, ground := Ground.phase }, { on := 3, ground := Ground.phase }, { on := 4, ground := Ground.phase }, { on := 5, ground := Ground.phase }, { on := 6, ground := Ground.phase }, { on := 7, ground := Ground.phase }, { on := 8, ground := Ground.phase }], guard := none }) rfl (fun K hK => ?_) AllReadyH.nil
    go_simp
    refine hK.out _ _ ?_ (fun hH4 => ?_)
    · exact (hH3.setCell (p := ⟨Ba, 0, none⟩) hle _).setCell (p := ⟨Ba, 1, none⟩) hle _
    clear hK K c0 c1 f0 f1
    try simp only [Act.put, List.setIfInBounds_toArray, List.set_cons_zero, List.set_cons_succ]
    replace F := F.set x1 y1
    replace G := (G.other (i := 0) (hab.symm) (.int .i64 x1)).other (i := 1) (B' := Ba) (hab.symm) (.int .i64 y1)
    generalize (u3.setCell ⟨Ba, 0, none⟩ (.int .i64 x1)).setCell ⟨Ba, 1, none⟩ (.int .i64 y1) = u4 at F G hH4 ⊢
    refine wpAnyH_done (by kernel_rfl) ?_ _
    exact hQ _ _ _ hle2 hle (hab.symm) G F hH4
set_option maxRecDepth 100000 in
set_option maxHeartbeats 2000000 in
theorem swapTwo (N S1 S2 E1 E2 : Nat) (x0 y0 x1 y1 : Int) (p q : Int × Int) (t0 t1 t2 t3 t4 t5 t6 t9 t11 t13 t14 t15 t16 t17 t18 t19 t20 t21 t22 t23 t24 t25 t26 t27 t28 t29 t30 t31 t32 t33 t34 t35 t36 t37 t38 t39 t40 t41 t42 t43 t44 t45 t46 t47 t48 t49 t50 t51 t52 t53 t54 t55 t56 t57 t58 t59 t60 : Value) (Q : Exit → Act → World → Prop) (w : World) (K1 : BoxP w S1 (x0, y0)) (K2 : BoxP w S2 (x1, y1)) (D1 : BoxP w E1 p) (D2 : BoxP w E2 q)
    (h12 : E1 ≠ E2) (n11 : S1 ≠ E1) (n12 : S1 ≠ E2) (n21 : S2 ≠ E1) (n22 : S2 ≠ E2) (m1 : N ≤ E1) (m2 : N ≤ E2)
    (hQp : ∀ c (a : Act) (d : Nat) v w, Q (.panic c) (a.put (some d) v) w → Q (.panic c) a w)
    (hQ : ∀ (w3 : World), BoxP w3 E1 (x0, y0) → BoxP w3 E2 (x1, y1) → (∀ (B : Nat) (p : Int × Int), B ≠ E1 → B ≠ E2 → BoxP w B p → BoxP w3 B p) → Below N w w3 → Q .normal { tmps := #[t0, t1, t2, t3, t4, t5, t6, .pointer (some ⟨E1, 0, none⟩), .pointer (some ⟨E2, 0, none⟩), t9, .pointer (some ⟨S1, 0, none⟩), t11, .pointer (some ⟨S2, 0, none⟩), t13, t14, t15, t16, t17, t18, t19, t20, t21, t22, t23, t24, t25, t26, t27, t28, t29, t30, t31, t32, t33, t34, t35, t36, t37, t38, t39, t40, t41, t42, t43, t44, t45, t46, t47, t48, t49, t50, t51, t52, t53, t54, .agg #[.int .i64 x0, .int .i64 y0], .agg #[.int .i64 x1, .int .i64 y1], t57, t58, t59, t60], defers := [] } w3) :
    (Code.region 11 #[{ dst := some 55, op := Op.load 26 (Operand.tmp 10), type := 26, pos := "l10_pairs.go:119", after := #[], guard := none },
{ dst := some 56, op := Op.load 26 (Operand.tmp 12), type := 26, pos := "l10_pairs.go:119", after := #[{ on := 2, ground := Ground.gcOnly Departure.lateStores }], guard := none },
{ dst := none, op := Op.store 26 (Operand.tmp 7) (Operand.tmp 55), type := 0, pos := "l10_pairs.go:119", after := #[{ on := 0, ground := Ground.data }, { on := 0, ground := Ground.phase }, { on := 1, ground := Ground.textOnly Departure.lateStores }], guard := none },
{ dst := none, op := Op.store 26 (Operand.tmp 8) (Operand.tmp 56), type := 0, pos := "l10_pairs.go:119", after := #[{ on := 1, ground := Ground.data }, { on := 2, ground := Ground.chain }, { on := 0, ground := Ground.phase }, { on := 1, ground := Ground.phase }, { on := 2, ground := Ground.phase }], guard := none }] true).wp Tryd.prog Q { tmps := #[t0, t1, t2, t3, t4, t5, t6, .pointer (some ⟨E1, 0, none⟩), .pointer (some ⟨E2, 0, none⟩), t9, .pointer (some ⟨S1, 0, none⟩), t11, .pointer (some ⟨S2, 0, none⟩), t13, t14, t15, t16, t17, t18, t19, t20, t21, t22, t23, t24, t25, t26, t27, t28, t29, t30, t31, t32, t33, t34, t35, t36, t37, t38, t39, t40, t41, t42, t43, t44, t45, t46, t47, t48, t49, t50, t51, t52, t53, t54, t55, t56, t57, t58, t59, t60], defers := [] } w := by
  refine wp_region_held_drew (S := (fun u => BoxP u S1 (x0, y0) ∧ BoxP u S2 (x1, y1))) (by kernel_rfl) ?_ (fun hHeld => ?_)
  · exact ⟨K1.later (Below.refl _ _).drew, K2.later (Below.refl _ _).drew⟩
  replace D1 := D1.later (Below.refl _ _).drew
  replace D2 := D2.later (Below.refl _ _).drew
  have hbd : Below N w w.drew := (Below.refl _ _).drew
  have hO : ∀ (B : Nat) (p : Int × Int), BoxP w B p → BoxP w.drew B p := fun B p h => h.later (Below.refl _ _).drew
  generalize w.drew = u0 at hHeld D1 D2 hbd hO ⊢
  refine wpAnyH_take (i := 0) (oi := { dst := some 55, op := Op.load 26 (Operand.tmp 10), type := 26, pos := "l10_pairs.go:119", after := #[], guard := none }) (v := ?v3mx0) rfl (by kernel_rfl) (by kernel_rfl) (by kernel_rfl) (fun c a w h => hQp c a _ _ w h) (Or.inl ⟨by rfl, ?hy3mx0⟩) (by with_reducible assumption) ?rest3mx0
  case hy3mx0 => (intro wS hSw; (try dsimp only at hSw); have z0 := hSw.1.c0; have z1 := hSw.1.c1; have z2 := hSw.2.c0; have z3 := hSw.2.c1; clear hSw; go_simp; try with_reducible rfl)
  case' rest3mx0 => (try simp only [Act.put, List.setIfInBounds_toArray, List.set_cons_zero, List.set_cons_succ])
  refine wpAnyH_take (i := 1) (oi := { dst := some 56, op := Op.load 26 (Operand.tmp 12), type := 26, pos := "l10_pairs.go:119", after := #[{ on := 2, ground := Ground.gcOnly Departure.lateStores }], guard := none }) (v := ?v3mx1) rfl (by kernel_rfl) (by kernel_rfl) (by kernel_rfl) (fun c a w h => hQp c a _ _ w h) (Or.inl ⟨by rfl, ?hy3mx1⟩) (by with_reducible assumption) ?rest3mx1
  case hy3mx1 => (intro wS hSw; (try dsimp only at hSw); have z0 := hSw.1.c0; have z1 := hSw.1.c1; have z2 := hSw.2.c0; have z3 := hSw.2.c1; clear hSw; go_simp; try with_reducible rfl)
  case' rest3mx1 => (try simp only [Act.put, List.setIfInBounds_toArray, List.set_cons_zero, List.set_cons_succ])
  have c0 := D1.c0
  have c1 := D1.c1
  have f0 := D1.f 0
  have f1 := D1.f 1
  refine wpAnyH_ready (rs := [2]) (by kernel_rfl) (by simp) ?_
  refine AllReadyH.cons (o := { dst := none, op := Op.store 26 (Operand.tmp 7) (Operand.tmp 55), type := 0, pos := "l10_pairs.go:119", after := #[{ on := 0, ground := Ground.data }, { on := 0, ground := Ground.phase }, { on := 1, ground := Ground.textOnly Departure.lateStores }], guard := none }) rfl (fun K hK => ?_) AllReadyH.nil
  go_simp
  refine hK.out _ _ ?_ (fun hHeld2 => ?_)
  · exact ⟨(hHeld.1.other (i := 0) (B' := E1) n11 _).other (i := 1) (B' := E1) n11 _, (hHeld.2.other (i := 0) (B' := E1) n21 _).other (i := 1) (B' := E1) n21 _⟩
  clear hK K c0 c1 f0 f1 hHeld
  have hHeld := hHeld2
  clear hHeld2
  try simp only [Act.put, List.setIfInBounds_toArray, List.set_cons_zero, List.set_cons_succ]
  replace D1 := D1.set x0 y0
  replace D2 := (D2.other (i := 0) (B' := E1) (h12.symm) (.int .i64 x0)).other (i := 1) (B' := E1) (h12.symm) (.int .i64 y0)
  replace hO : ∀ (B : Nat) (p : Int × Int), B ≠ E1 → B ≠ E2 → BoxP w B p → BoxP (((u0.setCell ⟨E1, 0, none⟩ (.int .i64 x0)).setCell ⟨E1, 1, none⟩ (.int .i64 y0))) B p := fun B p e1 e2 h => ((hO B p h).other (i := 0) (B' := E1) e1 _).other (i := 1) (B' := E1) e1 _
  replace hbd := (hbd.setCell (p := ⟨E1, 0, none⟩) m1 (.int .i64 x0)).setCell (p := ⟨E1, 1, none⟩) m1 (.int .i64 y0)
  generalize (u0.setCell ⟨E1, 0, none⟩ (.int .i64 x0)).setCell ⟨E1, 1, none⟩ (.int .i64 y0) = u1 at D1 D2 hbd hO hHeld ⊢
  have c0 := D2.c0
  have c1 := D2.c1
  have f0 := D2.f 0
  have f1 := D2.f 1
  refine wpAnyH_ready (rs := [3]) (by kernel_rfl) (by simp) ?_
  refine AllReadyH.cons (o := { dst := none, op := Op.store 26 (Operand.tmp 8) (Operand.tmp 56), type := 0, pos := "l10_pairs.go:119", after := #[{ on := 1, ground := Ground.data }, { on := 2, ground := Ground.chain }, { on := 0, ground := Ground.phase }, { on := 1, ground := Ground.phase }, { on := 2, ground := Ground.phase }], guard := none }) rfl (fun K hK => ?_) AllReadyH.nil
  go_simp
  refine hK.out _ _ ?_ (fun hHeld2 => ?_)
  · exact ⟨(hHeld.1.other (i := 0) (B' := E2) n12 _).other (i := 1) (B' := E2) n12 _, (hHeld.2.other (i := 0) (B' := E2) n22 _).other (i := 1) (B' := E2) n22 _⟩
  clear hK K c0 c1 f0 f1 hHeld
  have hHeld := hHeld2
  clear hHeld2
  try simp only [Act.put, List.setIfInBounds_toArray, List.set_cons_zero, List.set_cons_succ]
  replace D2 := D2.set x1 y1
  replace D1 := (D1.other (i := 0) (B' := E2) (h12) (.int .i64 x1)).other (i := 1) (B' := E2) (h12) (.int .i64 y1)
  replace hO : ∀ (B : Nat) (p : Int × Int), B ≠ E1 → B ≠ E2 → BoxP w B p → BoxP (((u1.setCell ⟨E2, 0, none⟩ (.int .i64 x1)).setCell ⟨E2, 1, none⟩ (.int .i64 y1))) B p := fun B p e1 e2 h => ((hO B p e1 e2 h).other (i := 0) (B' := E2) e2 _).other (i := 1) (B' := E2) e2 _
  replace hbd := (hbd.setCell (p := ⟨E2, 0, none⟩) m2 (.int .i64 x1)).setCell (p := ⟨E2, 1, none⟩) m2 (.int .i64 y1)
  generalize (u1.setCell ⟨E2, 0, none⟩ (.int .i64 x1)).setCell ⟨E2, 1, none⟩ (.int .i64 y1) = u2 at D1 D2 hbd hO hHeld ⊢
  refine wpAnyH_done (by kernel_rfl) ?_ _
  exact hQ _ D1 D2 hO hbd
set_option maxRecDepth 100000 in
set_option maxHeartbeats 2000000 in
theorem tellTwoImpl (N S1 S2 E1 E2 : Nat) (x0 y0 x1 y1 : Int) (p q : Int × Int) (t0 t1 t2 t3 t6 t9 t10 t11 t12 t13 t14 t15 t16 t17 t18 t19 t20 t21 t22 t23 t24 t25 t26 t27 t28 t29 t30 t31 t32 t33 t34 t35 t36 t37 t38 t39 t40 t41 t42 t43 t44 t45 t46 t47 t48 t49 t50 t51 t52 t53 t54 t55 t56 t57 t58 t59 t60 : Value) (Q : Exit → Act → World → Prop) (w : World) (K1 : BoxP w S1 (x0, y0)) (K2 : BoxP w S2 (x1, y1)) (D1 : BoxP w E1 p) (D2 : BoxP w E2 q)
    (h12 : E1 ≠ E2) (n11 : S1 ≠ E1) (n12 : S1 ≠ E2) (n21 : S2 ≠ E1) (n22 : S2 ≠ E2) (m1 : N ≤ E1) (m2 : N ≤ E2)
    (hQp : ∀ c (a : Act) (d : Nat) v w, Q (.panic c) (a.put (some d) v) w → Q (.panic c) a w)
    (hQ : ∀ (w3 : World), BoxP w3 E1 (x0, y0) → BoxP w3 E2 (x1, y1) → (∀ (B : Nat) (p : Int × Int), B ≠ E1 → B ≠ E2 → BoxP w B p → BoxP w3 B p) → Below N w w3 → Q .normal { tmps := #[t0, t1, t2, t3, .pointer (some ⟨E1, 0, none⟩), .pointer (some ⟨E2, 0, none⟩), .bool true, .pointer (some ⟨S1, 0, none⟩), .pointer (some ⟨S2, 0, none⟩), t9, t10, t11, t12, t13, t14, t15, t16, t17, t18, t19, t20, t21, t22, t23, t24, t25, t26, t27, t28, t29, t30, t31, t32, t33, t34, t35, t36, t37, t38, t39, t40, t41, t42, t43, t44, t45, t46, t47, t48, t49, t50, t51, t52, t53, t54, t55, t56, t57, t58, .agg #[.int .i64 x0, .int .i64 y0], .agg #[.int .i64 x1, .int .i64 y1]], defers := [] } w3) :
    (Code.region 14 #[{ dst := some 59, op := Op.load 26 (Operand.tmp 7), type := 26, pos := "l10_pairs.go:123", after := #[], guard := none },
{ dst := some 60, op := Op.load 26 (Operand.tmp 8), type := 26, pos := "l10_pairs.go:123", after := #[{ on := 2, ground := Ground.gcOnly Departure.lateStores }], guard := none },
{ dst := none, op := Op.store 26 (Operand.tmp 4) (Operand.tmp 59), type := 0, pos := "l10_pairs.go:123", after := #[{ on := 0, ground := Ground.data }, { on := 0, ground := Ground.phase }, { on := 1, ground := Ground.textOnly Departure.lateStores }], guard := none },
{ dst := none, op := Op.store 26 (Operand.tmp 5) (Operand.tmp 60), type := 0, pos := "l10_pairs.go:123", after := #[{ on := 1, ground := Ground.data }, { on := 2, ground := Ground.chain }, { on := 0, ground := Ground.phase }, { on := 1, ground := Ground.phase }, { on := 2, ground := Ground.phase }], guard := none },
{ dst := some 6, op := Op.assign (Operand.const (Value.bool true)), type := 4, pos := "l10_pairs.go:123", after := #[{ on := 3, ground := Ground.chain }, { on := 0, ground := Ground.phase }, { on := 1, ground := Ground.phase }, { on := 2, ground := Ground.phase }, { on := 3, ground := Ground.phase }], guard := none }] true).wp Tryd.prog Q { tmps := #[t0, t1, t2, t3, .pointer (some ⟨E1, 0, none⟩), .pointer (some ⟨E2, 0, none⟩), t6, .pointer (some ⟨S1, 0, none⟩), .pointer (some ⟨S2, 0, none⟩), t9, t10, t11, t12, t13, t14, t15, t16, t17, t18, t19, t20, t21, t22, t23, t24, t25, t26, t27, t28, t29, t30, t31, t32, t33, t34, t35, t36, t37, t38, t39, t40, t41, t42, t43, t44, t45, t46, t47, t48, t49, t50, t51, t52, t53, t54, t55, t56, t57, t58, t59, t60], defers := [] } w := by
  refine wp_region_held_drew (S := (fun u => BoxP u S1 (x0, y0) ∧ BoxP u S2 (x1, y1))) (by kernel_rfl) ?_ (fun hHeld => ?_)
  · exact ⟨K1.later (Below.refl _ _).drew, K2.later (Below.refl _ _).drew⟩
  replace D1 := D1.later (Below.refl _ _).drew
  replace D2 := D2.later (Below.refl _ _).drew
  have hbd : Below N w w.drew := (Below.refl _ _).drew
  have hO : ∀ (B : Nat) (p : Int × Int), BoxP w B p → BoxP w.drew B p := fun B p h => h.later (Below.refl _ _).drew
  generalize w.drew = u0 at hHeld D1 D2 hbd hO ⊢
  refine wpAnyH_take (i := 0) (oi := { dst := some 59, op := Op.load 26 (Operand.tmp 7), type := 26, pos := "l10_pairs.go:123", after := #[], guard := none }) (v := ?v4mx0) rfl (by kernel_rfl) (by kernel_rfl) (by kernel_rfl) (fun c a w h => hQp c a _ _ w h) (Or.inl ⟨by rfl, ?hy4mx0⟩) (by with_reducible assumption) ?rest4mx0
  case hy4mx0 => (intro wS hSw; (try dsimp only at hSw); have z0 := hSw.1.c0; have z1 := hSw.1.c1; have z2 := hSw.2.c0; have z3 := hSw.2.c1; clear hSw; go_simp; try with_reducible rfl)
  case' rest4mx0 => (try simp only [Act.put, List.setIfInBounds_toArray, List.set_cons_zero, List.set_cons_succ])
  refine wpAnyH_take (i := 1) (oi := { dst := some 60, op := Op.load 26 (Operand.tmp 8), type := 26, pos := "l10_pairs.go:123", after := #[{ on := 2, ground := Ground.gcOnly Departure.lateStores }], guard := none }) (v := ?v4mx1) rfl (by kernel_rfl) (by kernel_rfl) (by kernel_rfl) (fun c a w h => hQp c a _ _ w h) (Or.inl ⟨by rfl, ?hy4mx1⟩) (by with_reducible assumption) ?rest4mx1
  case hy4mx1 => (intro wS hSw; (try dsimp only at hSw); have z0 := hSw.1.c0; have z1 := hSw.1.c1; have z2 := hSw.2.c0; have z3 := hSw.2.c1; clear hSw; go_simp; try with_reducible rfl)
  case' rest4mx1 => (try simp only [Act.put, List.setIfInBounds_toArray, List.set_cons_zero, List.set_cons_succ])
  have c0 := D1.c0
  have c1 := D1.c1
  have f0 := D1.f 0
  have f1 := D1.f 1
  refine wpAnyH_ready (rs := [2]) (by kernel_rfl) (by simp) ?_
  refine AllReadyH.cons (o := { dst := none, op := Op.store 26 (Operand.tmp 4) (Operand.tmp 59), type := 0, pos := "l10_pairs.go:123", after := #[{ on := 0, ground := Ground.data }, { on := 0, ground := Ground.phase }, { on := 1, ground := Ground.textOnly Departure.lateStores }], guard := none }) rfl (fun K hK => ?_) AllReadyH.nil
  go_simp
  refine hK.out _ _ ?_ (fun hHeld2 => ?_)
  · exact ⟨(hHeld.1.other (i := 0) (B' := E1) n11 _).other (i := 1) (B' := E1) n11 _, (hHeld.2.other (i := 0) (B' := E1) n21 _).other (i := 1) (B' := E1) n21 _⟩
  clear hK K c0 c1 f0 f1 hHeld
  have hHeld := hHeld2
  clear hHeld2
  try simp only [Act.put, List.setIfInBounds_toArray, List.set_cons_zero, List.set_cons_succ]
  replace D1 := D1.set x0 y0
  replace D2 := (D2.other (i := 0) (B' := E1) (h12.symm) (.int .i64 x0)).other (i := 1) (B' := E1) (h12.symm) (.int .i64 y0)
  replace hO : ∀ (B : Nat) (p : Int × Int), B ≠ E1 → B ≠ E2 → BoxP w B p → BoxP (((u0.setCell ⟨E1, 0, none⟩ (.int .i64 x0)).setCell ⟨E1, 1, none⟩ (.int .i64 y0))) B p := fun B p e1 e2 h => ((hO B p h).other (i := 0) (B' := E1) e1 _).other (i := 1) (B' := E1) e1 _
  replace hbd := (hbd.setCell (p := ⟨E1, 0, none⟩) m1 (.int .i64 x0)).setCell (p := ⟨E1, 1, none⟩) m1 (.int .i64 y0)
  generalize (u0.setCell ⟨E1, 0, none⟩ (.int .i64 x0)).setCell ⟨E1, 1, none⟩ (.int .i64 y0) = u1 at D1 D2 hbd hO hHeld ⊢
  have c0 := D2.c0
  have c1 := D2.c1
  have f0 := D2.f 0
  have f1 := D2.f 1
  refine wpAnyH_ready (rs := [3]) (by kernel_rfl) (by simp) ?_
  refine AllReadyH.cons (o := { dst := none, op := Op.store 26 (Operand.tmp 5) (Operand.tmp 60), type := 0, pos := "l10_pairs.go:123", after := #[{ on := 1, ground := Ground.data }, { on := 2, ground := Ground.chain }, { on := 0, ground := Ground.phase }, { on := 1, ground := Ground.phase }, { on := 2, ground := Ground.phase }], guard := none }) rfl (fun K hK => ?_) AllReadyH.nil
  go_simp
  refine hK.out _ _ ?_ (fun hHeld2 => ?_)
  · exact ⟨(hHeld.1.other (i := 0) (B' := E2) n12 _).other (i := 1) (B' := E2) n12 _, (hHeld.2.other (i := 0) (B' := E2) n22 _).other (i := 1) (B' := E2) n22 _⟩
  clear hK K c0 c1 f0 f1 hHeld
  have hHeld := hHeld2
  clear hHeld2
  try simp only [Act.put, List.setIfInBounds_toArray, List.set_cons_zero, List.set_cons_succ]
  replace D2 := D2.set x1 y1
  replace D1 := (D1.other (i := 0) (B' := E2) (h12) (.int .i64 x1)).other (i := 1) (B' := E2) (h12) (.int .i64 y1)
  replace hO : ∀ (B : Nat) (p : Int × Int), B ≠ E1 → B ≠ E2 → BoxP w B p → BoxP (((u1.setCell ⟨E2, 0, none⟩ (.int .i64 x1)).setCell ⟨E2, 1, none⟩ (.int .i64 y1))) B p := fun B p e1 e2 h => ((hO B p e1 e2 h).other (i := 0) (B' := E2) e2 _).other (i := 1) (B' := E2) e2 _
  replace hbd := (hbd.setCell (p := ⟨E2, 0, none⟩) m2 (.int .i64 x1)).setCell (p := ⟨E2, 1, none⟩) m2 (.int .i64 y1)
  generalize (u1.setCell ⟨E2, 0, none⟩ (.int .i64 x1)).setCell ⟨E2, 1, none⟩ (.int .i64 y1) = u2 at D1 D2 hbd hO hHeld ⊢
  refine wpAnyH_ready (rs := [4]) (by kernel_rfl) (by simp) ?_
  refine AllReadyH.cons (o := { dst := some 6, op := Op.assign (Operand.const (Value.bool true)), type := 4, pos := "l10_pairs.go:123", after := #[{ on := 3, ground := Ground.chain }, { on := 0, ground := Ground.phase }, { on := 1, ground := Ground.phase }, { on := 2, ground := Ground.phase }, { on := 3, ground := Ground.phase }], guard := none }) rfl (fun K hK => ?_) AllReadyH.nil
  go_simp
  refine hK.out _ _ ?_ (fun hHeld2 => ?_)
  · exact hHeld
  clear hK K hHeld2
  try simp only [Act.put, List.setIfInBounds_toArray, List.set_cons_zero, List.set_cons_succ]
  refine wpAnyH_done (by kernel_rfl) ?_ _
  exact hQ _ D1 D2 hO hbd
set_option maxRecDepth 100000 in
set_option maxHeartbeats 2000000 in
theorem tellTwoSpec (N S1 S2 E1 E2 : Nat) (x0 y0 x1 y1 : Int) (p q : Int × Int) (t0 t1 t2 t3 t6 t9 t10 t11 t12 t13 t14 t15 t16 t17 t18 t19 t20 t21 t22 t23 t24 t25 t26 t27 t28 t29 t30 t31 t32 t33 t34 t35 t36 t37 t38 t39 t40 t41 t42 t43 t44 t45 t46 t47 t48 t49 t50 t51 t52 t53 t54 t55 t56 t57 t58 t59 t60 : Value) (Q : Exit → Act → World → Prop) (w : World) (K1 : BoxP w S1 (x0, y0)) (K2 : BoxP w S2 (x1, y1)) (D1 : BoxP w E1 p) (D2 : BoxP w E2 q)
    (h12 : E1 ≠ E2) (n11 : S1 ≠ E1) (n12 : S1 ≠ E2) (n21 : S2 ≠ E1) (n22 : S2 ≠ E2) (m1 : N ≤ E1) (m2 : N ≤ E2)
    (hQp : ∀ c (a : Act) (d : Nat) v w, Q (.panic c) (a.put (some d) v) w → Q (.panic c) a w)
    (hQ : ∀ (w3 : World), BoxP w3 E1 (x0, y0) → BoxP w3 E2 (x1, y1) → (∀ (B : Nat) (p : Int × Int), B ≠ E1 → B ≠ E2 → BoxP w B p → BoxP w3 B p) → Below N w w3 → Q .normal { tmps := #[t0, t1, t2, t3, .pointer (some ⟨E1, 0, none⟩), .pointer (some ⟨E2, 0, none⟩), .bool true, .pointer (some ⟨S1, 0, none⟩), .pointer (some ⟨S2, 0, none⟩), t9, t10, t11, t12, t13, t14, t15, t16, t17, t18, t19, t20, t21, t22, t23, t24, t25, t26, t27, t28, t29, t30, t31, t32, t33, t34, t35, t36, t37, t38, t39, t40, t41, t42, t43, t44, t45, t46, t47, t48, t49, t50, t51, t52, t53, t54, t55, t56, t57, t58, .agg #[.int .i64 x0, .int .i64 y0], .agg #[.int .i64 x1, .int .i64 y1]], defers := [] } w3) :
    (Code.region 15 #[{ dst := some 59, op := Op.load 26 (Operand.tmp 7), type := 26, pos := "l10_pairs.go:31", after := #[], guard := none },
{ dst := some 60, op := Op.load 26 (Operand.tmp 8), type := 26, pos := "l10_pairs.go:31", after := #[{ on := 2, ground := Ground.gcOnly Departure.lateStores }], guard := none },
{ dst := none, op := Op.store 26 (Operand.tmp 4) (Operand.tmp 59), type := 0, pos := "l10_pairs.go:31", after := #[{ on := 0, ground := Ground.data }, { on := 0, ground := Ground.phase }, { on := 1, ground := Ground.textOnly Departure.lateStores }], guard := none },
{ dst := none, op := Op.store 26 (Operand.tmp 5) (Operand.tmp 60), type := 0, pos := "l10_pairs.go:31", after := #[{ on := 1, ground := Ground.data }, { on := 2, ground := Ground.chain }, { on := 0, ground := Ground.phase }, { on := 1, ground := Ground.phase }, { on := 2, ground := Ground.phase }], guard := none },
{ dst := some 6, op := Op.assign (Operand.const (Value.bool true)), type := 4, pos := "l10_pairs.go:31", after := #[{ on := 3, ground := Ground.chain }, { on := 0, ground := Ground.phase }, { on := 1, ground := Ground.phase }, { on := 2, ground := Ground.phase }, { on := 3, ground := Ground.phase }], guard := none }] true).wp Tryd.prog Q { tmps := #[t0, t1, t2, t3, .pointer (some ⟨E1, 0, none⟩), .pointer (some ⟨E2, 0, none⟩), t6, .pointer (some ⟨S1, 0, none⟩), .pointer (some ⟨S2, 0, none⟩), t9, t10, t11, t12, t13, t14, t15, t16, t17, t18, t19, t20, t21, t22, t23, t24, t25, t26, t27, t28, t29, t30, t31, t32, t33, t34, t35, t36, t37, t38, t39, t40, t41, t42, t43, t44, t45, t46, t47, t48, t49, t50, t51, t52, t53, t54, t55, t56, t57, t58, t59, t60], defers := [] } w := by
  refine wp_region_held_drew (S := (fun u => BoxP u S1 (x0, y0) ∧ BoxP u S2 (x1, y1))) (by kernel_rfl) ?_ (fun hHeld => ?_)
  · exact ⟨K1.later (Below.refl _ _).drew, K2.later (Below.refl _ _).drew⟩
  replace D1 := D1.later (Below.refl _ _).drew
  replace D2 := D2.later (Below.refl _ _).drew
  have hbd : Below N w w.drew := (Below.refl _ _).drew
  have hO : ∀ (B : Nat) (p : Int × Int), BoxP w B p → BoxP w.drew B p := fun B p h => h.later (Below.refl _ _).drew
  generalize w.drew = u0 at hHeld D1 D2 hbd hO ⊢
  refine wpAnyH_take (i := 0) (oi := { dst := some 59, op := Op.load 26 (Operand.tmp 7), type := 26, pos := "l10_pairs.go:31", after := #[], guard := none }) (v := ?v5mx0) rfl (by kernel_rfl) (by kernel_rfl) (by kernel_rfl) (fun c a w h => hQp c a _ _ w h) (Or.inl ⟨by rfl, ?hy5mx0⟩) (by with_reducible assumption) ?rest5mx0
  case hy5mx0 => (intro wS hSw; (try dsimp only at hSw); have z0 := hSw.1.c0; have z1 := hSw.1.c1; have z2 := hSw.2.c0; have z3 := hSw.2.c1; clear hSw; go_simp; try with_reducible rfl)
  case' rest5mx0 => (try simp only [Act.put, List.setIfInBounds_toArray, List.set_cons_zero, List.set_cons_succ])
  refine wpAnyH_take (i := 1) (oi := { dst := some 60, op := Op.load 26 (Operand.tmp 8), type := 26, pos := "l10_pairs.go:31", after := #[{ on := 2, ground := Ground.gcOnly Departure.lateStores }], guard := none }) (v := ?v5mx1) rfl (by kernel_rfl) (by kernel_rfl) (by kernel_rfl) (fun c a w h => hQp c a _ _ w h) (Or.inl ⟨by rfl, ?hy5mx1⟩) (by with_reducible assumption) ?rest5mx1
  case hy5mx1 => (intro wS hSw; (try dsimp only at hSw); have z0 := hSw.1.c0; have z1 := hSw.1.c1; have z2 := hSw.2.c0; have z3 := hSw.2.c1; clear hSw; go_simp; try with_reducible rfl)
  case' rest5mx1 => (try simp only [Act.put, List.setIfInBounds_toArray, List.set_cons_zero, List.set_cons_succ])
  have c0 := D1.c0
  have c1 := D1.c1
  have f0 := D1.f 0
  have f1 := D1.f 1
  refine wpAnyH_ready (rs := [2]) (by kernel_rfl) (by simp) ?_
  refine AllReadyH.cons (o := { dst := none, op := Op.store 26 (Operand.tmp 4) (Operand.tmp 59), type := 0, pos := "l10_pairs.go:31", after := #[{ on := 0, ground := Ground.data }, { on := 0, ground := Ground.phase }, { on := 1, ground := Ground.textOnly Departure.lateStores }], guard := none }) rfl (fun K hK => ?_) AllReadyH.nil
  go_simp
  refine hK.out _ _ ?_ (fun hHeld2 => ?_)
  · exact ⟨(hHeld.1.other (i := 0) (B' := E1) n11 _).other (i := 1) (B' := E1) n11 _, (hHeld.2.other (i := 0) (B' := E1) n21 _).other (i := 1) (B' := E1) n21 _⟩
  clear hK K c0 c1 f0 f1 hHeld
  have hHeld := hHeld2
  clear hHeld2
  try simp only [Act.put, List.setIfInBounds_toArray, List.set_cons_zero, List.set_cons_succ]
  replace D1 := D1.set x0 y0
  replace D2 := (D2.other (i := 0) (B' := E1) (h12.symm) (.int .i64 x0)).other (i := 1) (B' := E1) (h12.symm) (.int .i64 y0)
  replace hO : ∀ (B : Nat) (p : Int × Int), B ≠ E1 → B ≠ E2 → BoxP w B p → BoxP (((u0.setCell ⟨E1, 0, none⟩ (.int .i64 x0)).setCell ⟨E1, 1, none⟩ (.int .i64 y0))) B p := fun B p e1 e2 h => ((hO B p h).other (i := 0) (B' := E1) e1 _).other (i := 1) (B' := E1) e1 _
  replace hbd := (hbd.setCell (p := ⟨E1, 0, none⟩) m1 (.int .i64 x0)).setCell (p := ⟨E1, 1, none⟩) m1 (.int .i64 y0)
  generalize (u0.setCell ⟨E1, 0, none⟩ (.int .i64 x0)).setCell ⟨E1, 1, none⟩ (.int .i64 y0) = u1 at D1 D2 hbd hO hHeld ⊢
  have c0 := D2.c0
  have c1 := D2.c1
  have f0 := D2.f 0
  have f1 := D2.f 1
  refine wpAnyH_ready (rs := [3]) (by kernel_rfl) (by simp) ?_
  refine AllReadyH.cons (o := { dst := none, op := Op.store 26 (Operand.tmp 5) (Operand.tmp 60), type := 0, pos := "l10_pairs.go:31", after := #[{ on := 1, ground := Ground.data }, { on := 2, ground := Ground.chain }, { on := 0, ground := Ground.phase }, { on := 1, ground := Ground.phase }, { on := 2, ground := Ground.phase }], guard := none }) rfl (fun K hK => ?_) AllReadyH.nil
  go_simp
  refine hK.out _ _ ?_ (fun hHeld2 => ?_)
  · exact ⟨(hHeld.1.other (i := 0) (B' := E2) n12 _).other (i := 1) (B' := E2) n12 _, (hHeld.2.other (i := 0) (B' := E2) n22 _).other (i := 1) (B' := E2) n22 _⟩
  clear hK K c0 c1 f0 f1 hHeld
  have hHeld := hHeld2
  clear hHeld2
  try simp only [Act.put, List.setIfInBounds_toArray, List.set_cons_zero, List.set_cons_succ]
  replace D2 := D2.set x1 y1
  replace D1 := (D1.other (i := 0) (B' := E2) (h12) (.int .i64 x1)).other (i := 1) (B' := E2) (h12) (.int .i64 y1)
  replace hO : ∀ (B : Nat) (p : Int × Int), B ≠ E1 → B ≠ E2 → BoxP w B p → BoxP (((u1.setCell ⟨E2, 0, none⟩ (.int .i64 x1)).setCell ⟨E2, 1, none⟩ (.int .i64 y1))) B p := fun B p e1 e2 h => ((hO B p e1 e2 h).other (i := 0) (B' := E2) e2 _).other (i := 1) (B' := E2) e2 _
  replace hbd := (hbd.setCell (p := ⟨E2, 0, none⟩) m2 (.int .i64 x1)).setCell (p := ⟨E2, 1, none⟩) m2 (.int .i64 y1)
  generalize (u1.setCell ⟨E2, 0, none⟩ (.int .i64 x1)).setCell ⟨E2, 1, none⟩ (.int .i64 y1) = u2 at D1 D2 hbd hO hHeld ⊢
  refine wpAnyH_ready (rs := [4]) (by kernel_rfl) (by simp) ?_
  refine AllReadyH.cons (o := { dst := some 6, op := Op.assign (Operand.const (Value.bool true)), type := 4, pos := "l10_pairs.go:31", after := #[{ on := 3, ground := Ground.chain }, { on := 0, ground := Ground.phase }, { on := 1, ground := Ground.phase }, { on := 2, ground := Ground.phase }, { on := 3, ground := Ground.phase }], guard := none }) rfl (fun K hK => ?_) AllReadyH.nil
  go_simp
  refine hK.out _ _ ?_ (fun hHeld2 => ?_)
  · exact hHeld
  clear hK K hHeld2
  try simp only [Act.put, List.setIfInBounds_toArray, List.set_cons_zero, List.set_cons_succ]
  refine wpAnyH_done (by kernel_rfl) ?_ _
  exact hQ _ D1 D2 hO hbd
end Go.Proofs.YtipiamhnngmjmaaDoor
