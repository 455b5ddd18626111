/-
  Sides of a hull, turns, and what is held at a corner, as the specification has them (contracts for the walks).
  Conditions: as each theorem states them.
-/
import Derived.Test.YtipiamhnngmjmaaDoorAcMath
import Derived.Test.YtipiamhnngmjmaaDoorNr1
import Derived.Test.YtipiamhnngmjmaaDoorHBeyond
import Derived.Deep.RegionHeld3
import Derived.Deep.DeepCutAuto
namespace Go.Proofs.YtipiamhnngmjmaaDoor
open Go.RowKit Go.Shelf
set_option linter.unusedVariables false
set_option maxRecDepth 8000
/-- A direction of a good hull, or its opposite. -/
def dirB (d : Int × Int) : Prop := (-2000000 ≤ d.1 ∧ d.1 ≤ 2000000) ∧ (-2000000 ≤ d.2 ∧ d.2 ≤ 2000000)
theorem dirB.ng {d : Int × Int} (h : dirB d) : dirB (ng d) := by
  unfold dirB at *; unfold Go.Proofs.YtipiamhnngmjmaaDoor.ng; simp only; omega
theorem dirB.vec {a b : Int × Int} (ha : gp a) (hb : gp b) : dirB (vec a b) := by
  have h1 := goodB_r ha
  have h2 := goodB_r hb
  unfold dirB Go.Proofs.YtipiamhnngmjmaaDoor.vec; simp only; omega
theorem sid_dir {l : List (Int × Int)} (H : allG l) (h0 : 0 < l.length) {k : Nat} (hk : k < l.length) : dirB (sid l k) := dirB.vec (H _ (pt_mem hk)) (H _ (pt_mem (Nat.mod_lt _ h0)))
theorem sidE_dir {l : List (Int × Int)} (H : allG l) (h0 : 0 < l.length) (k : Nat) : dirB (sidE l k) := sid_dir H h0 (Nat.mod_lt _ h0)
theorem mulB {x y : Int} (hx : -2000000 ≤ x ∧ x ≤ 2000000) (hy : -2000000 ≤ y ∧ y ≤ 2000000) : -4000000000000 ≤ x * y ∧ x * y ≤ 4000000000000 := by
  have a1 : 0 ≤ (2000000 - x) * (2000000 - y) := Int.mul_nonneg (by omega) (by omega)
  have a2 : 0 ≤ (2000000 + x) * (2000000 + y) := Int.mul_nonneg (by omega) (by omega)
  have a3 : 0 ≤ (2000000 - x) * (2000000 + y) := Int.mul_nonneg (by omega) (by omega)
  have a4 : 0 ≤ (2000000 + x) * (2000000 - y) := Int.mul_nonneg (by omega) (by omega)
  have e1 : (2000000 - x) * (2000000 - y) = 4000000000000 - 2000000 * x - 2000000 * y + x * y := by grind
  have e2 : (2000000 + x) * (2000000 + y) = 4000000000000 + 2000000 * x + 2000000 * y + x * y := by grind
  have e3 : (2000000 - x) * (2000000 + y) = 4000000000000 - 2000000 * x + 2000000 * y - x * y := by grind
  have e4 : (2000000 + x) * (2000000 - y) = 4000000000000 + 2000000 * x - 2000000 * y - x * y := by grind
  omega
theorem signSpec_q (n q : Int) (w : World) (e : sg n = q) : Calls Tryd.prog 117 #[.int .i64 n] w fun e w' => e = .returned (.int .i64 q) ∧ w = w' := by
  rw [← e]; exact signSpec_c _ _
set_option maxHeartbeats 2000000 in
theorem turnS_q (a0 a1 b0 b1 q : Int) (w : World) (ha : dirB (a0, a1)) (hb : dirB (b0, b1)) (e : sg (cx (a0, a1) (b0, b1)) = q) : Calls Tryd.prog 104 #[.agg #[.int .i64 a0, .int .i64 a1], .agg #[.int .i64 b0, .int .i64 b1]] w fun e w' => e = .returned (.int .i64 q) ∧ Below w.heap.size w w' := by
  have m1 := mulB ha.1 hb.2
  have m2 := mulB ha.2 hb.1
  simp only at m1 m2
  have h1 : wrap64 (a0 * b1) = a0 * b1 := wrap_in (by omega) (by omega)
  have h2 : wrap64 (a1 * b0) = a1 * b0 := wrap_in (by omega) (by omega)
  have h3 : wrap64 (a0 * b1 - a1 * b0) = a0 * b1 - a1 * b0 := by clear h1 h2; exact wrap_in (by omega) (by omega)
  have HE := hid (show sg (wrap64 (wrap64 (a0 * b1) - wrap64 (a1 * b0))) = q by rw [h1, h2, h3]; exact e)
  clear h1 h2 h3 m1 m2 e
  go_enter Tryd.func104, Tryd.ntmps104
  go_wp2_with (go_at_call 117; refine (signSpec_q _ _ _ HE.out).mono ?_; rintro e w1 ⟨rfl, rfl⟩)
  go_ret
  exact ⟨rfl, by go_grown⟩
set_option maxRecDepth 100000 in
set_option maxHeartbeats 2000000 in
theorem sideTwo (b off len cap j1 j2 : Nat) (k k1 x0 y0 x1 y1 : Int) (hk1 : IntKind.i64.wrap (k + 1) = k1) (hm1 : k.tmod (len : Int) = (j1 : Int)) (hm2 : k1.tmod (len : Int) = (j2 : Int)) (hj1 : j1 < len) (hj2 : j2 < len) (hn0 : 0 < len) (t2 t3 t4 t5 t6 t7 t8 t9 t10 t11 t12 t13 t14 t15 t16 t17 t18 t19 t20 t21 t22 t23 t24 t25 t26 t27 t28 t29 t30 t31 t32 : Value) (Q : Exit → Act → World → Prop) (w : World) (q0 : w.cell? ⟨b, off + j1 * 2, none⟩ = some (.int .i64 x0)) (q1 : w.cell? ⟨b, off + j1 * 2 + 1, none⟩ = some (.int .i64 y0)) (q2 : w.cell? ⟨b, off + j2 * 2, none⟩ = some (.int .i64 x1)) (q3 : w.cell? ⟨b, off + j2 * 2 + 1, none⟩ = some (.int .i64 y1))
    (hQp : ∀ c (a : Act) (d : Nat) v w, Q (.panic c) (a.put (some d) v) w → Q (.panic c) a w)
    (hQ : ∀ (B7 B8 : Nat) (w3 : World), w.heap.size ≤ B7 → w.heap.size ≤ B8 → B7 ≠ B8 → BoxP w3 B7 (x0, y0) → BoxP w3 B8 (x1, y1) → Below w.heap.size w w3 → Q .normal { tmps := #[.slice (some ⟨b, off, none⟩) len cap, .int .i64 k, t2, t3, t4, .pointer (some ⟨B7, 0, none⟩), .pointer (some ⟨B8, 0, none⟩), .slice (some ⟨b, off, none⟩) len cap, .int .i64 k, .slice (some ⟨b, off, none⟩) len cap, .int .i64 (len : Int), .int .i64 (j1 : Int), .pointer (some ⟨b, off + j1 * 2, none⟩), .agg #[.int .i64 x0, .int .i64 y0], .slice (some ⟨b, off, none⟩) len cap, .int .i64 k, .int .i64 k1, .slice (some ⟨b, off, none⟩) len cap, .int .i64 (len : Int), .int .i64 (j2 : Int), .pointer (some ⟨b, off + j2 * 2, none⟩), .agg #[.int .i64 x1, .int .i64 y1], t22, t23, t24, t25, t26, t27, t28, t29, t30, t31, t32], defers := [] } w3) :
    (Code.region 1 #[{ dst := some 7, op := Op.move (Operand.tmp 0), type := 33, pos := "l10_pairs.go:76", after := #[], guard := none },
{ dst := some 8, op := Op.move (Operand.tmp 1), type := 3, pos := "l10_pairs.go:76", after := #[], guard := none },
{ dst := some 9, op := Op.move (Operand.tmp 0), type := 33, pos := "l10_pairs.go:76", after := #[], guard := none },
{ dst := some 10, op := Op.call { callee := Callee.builtin Builtin.len, args := #[Operand.tmp 9], argTypes := #[33] }, type := 3, pos := "l10_pairs.go:76", after := #[{ on := 2, ground := Ground.data }], guard := none },
{ dst := some 11, op := Op.binOp BinOp.rem 3 (Operand.tmp 8) (Operand.tmp 10) 3, type := 3, pos := "l10_pairs.go:76", after := #[{ on := 1, ground := Ground.data }, { on := 3, ground := Ground.data }], guard := none },
{ dst := some 12, op := Op.indexAddr 33 (Operand.tmp 7) (Operand.tmp 11), type := 0, pos := "l10_pairs.go:76", after := #[{ on := 0, ground := Ground.data }, { on := 4, ground := Ground.data }], guard := none },
{ dst := some 13, op := Op.load 26 (Operand.tmp 12), type := 26, pos := "l10_pairs.go:76", after := #[{ on := 5, ground := Ground.data }], guard := none },
{ dst := some 14, op := Op.move (Operand.tmp 0), type := 33, pos := "l10_pairs.go:76", after := #[{ on := 17, ground := Ground.gcOnly Departure.lateStores }], guard := none },
{ dst := some 15, op := Op.move (Operand.tmp 1), type := 3, pos := "l10_pairs.go:76", after := #[{ on := 17, ground := Ground.gcOnly Departure.lateStores }], guard := none },
{ dst := some 16, op := Op.binOp BinOp.add 3 (Operand.tmp 15) (Operand.const (Value.int IntKind.i64 1)) 3, type := 3, pos := "l10_pairs.go:76", after := #[{ on := 8, ground := Ground.data }, { on := 17, ground := Ground.gcOnly Departure.lateStores }], guard := none },
{ dst := some 17, op := Op.move (Operand.tmp 0), type := 33, pos := "l10_pairs.go:76", after := #[], guard := none },
{ dst := some 18, op := Op.call { callee := Callee.builtin Builtin.len, args := #[Operand.tmp 17], argTypes := #[33] }, type := 3, pos := "l10_pairs.go:76", after := #[{ on := 10, ground := Ground.data }], guard := none },
{ dst := some 19, op := Op.binOp BinOp.rem 3 (Operand.tmp 16) (Operand.tmp 18) 3, type := 3, pos := "l10_pairs.go:76", after := #[{ on := 9, ground := Ground.data }, { on := 11, ground := Ground.data }, { on := 17, ground := Ground.gcOnly Departure.lateStores }], guard := none },
{ dst := some 20, op := Op.indexAddr 33 (Operand.tmp 14) (Operand.tmp 19), type := 0, pos := "l10_pairs.go:76", after := #[{ on := 7, ground := Ground.data }, { on := 12, ground := Ground.data }, { on := 17, ground := Ground.gcOnly Departure.lateStores }], guard := none },
{ dst := some 21, op := Op.load 26 (Operand.tmp 20), type := 26, pos := "l10_pairs.go:76", after := #[{ on := 13, ground := Ground.data }, { on := 17, ground := Ground.gcOnly Departure.lateStores }], guard := none },
{ dst := some 5, op := Op.alloc 26, type := 0, pos := "l10_pairs.go:76", after := #[], guard := none },
{ dst := some 6, op := Op.alloc 26, type := 0, pos := "l10_pairs.go:76", after := #[], guard := none },
{ dst := none, op := Op.store 26 (Operand.tmp 5) (Operand.tmp 13), type := 0, pos := "l10_pairs.go:76", after := #[{ on := 15, ground := Ground.data }, { on := 6, ground := Ground.data }, { on := 0, ground := Ground.phase }, { on := 1, ground := Ground.phase }, { on := 2, ground := Ground.phase }, { on := 3, ground := Ground.phase }, { on := 4, ground := Ground.phase }, { on := 5, ground := Ground.phase }, { on := 6, ground := Ground.phase }, { on := 7, ground := Ground.textOnly Departure.lateStores }, { on := 8, ground := Ground.textOnly Departure.lateStores }, { on := 9, ground := Ground.textOnly Departure.lateStores }, { on := 10, ground := Ground.textOnly Departure.lateStores }, { on := 11, ground := Ground.textOnly Departure.lateStoresUnsure }, { on := 12, ground := Ground.textOnly Departure.lateStores }, { on := 13, ground := Ground.textOnly Departure.lateStores }, { on := 14, ground := Ground.textOnly Departure.lateStores }, { on := 15, ground := Ground.phase }, { on := 16, ground := Ground.phase }], guard := none },
{ dst := none, op := Op.store 26 (Operand.tmp 6) (Operand.tmp 21), type := 0, pos := "l10_pairs.go:76", after := #[{ on := 16, ground := Ground.data }, { on := 14, ground := Ground.data }, { on := 17, ground := Ground.chain }, { on := 0, ground := Ground.phase }, { on := 1, ground := Ground.phase }, { on := 2, ground := Ground.phase }, { on := 3, ground := Ground.phase }, { on := 4, ground := Ground.phase }, { on := 5, ground := Ground.phase }, { on := 6, ground := Ground.phase }, { on := 7, ground := Ground.phase }, { on := 8, ground := Ground.phase }, { on := 9, ground := Ground.phase }, { on := 10, ground := Ground.phase }, { on := 11, ground := Ground.phase }, { on := 12, ground := Ground.phase }, { on := 13, ground := Ground.phase }, { on := 14, ground := Ground.phase }, { on := 15, ground := Ground.phase }, { on := 16, ground := Ground.phase }, { on := 17, ground := Ground.phase }], guard := none }] true).wp Tryd.prog Q { tmps := #[.slice (some ⟨b, off, none⟩) len cap, .int .i64 k, t2, t3, t4, t5, t6, t7, t8, t9, t10, t11, t12, t13, t14, t15, t16, t17, t18, t19, t20, t21, t22, t23, t24, t25, t26, t27, t28, t29, t30, t31, t32], defers := [] } w := by
  have i0 : (0 : Int) ≤ (j1 : Int) := by omega
  have i1 : (j1 : Int) < (len : Int) := by omega
  have i2 : (0 : Int) ≤ (j2 : Int) := by omega
  have i3 : (j2 : Int) < (len : Int) := by omega
  have i4 : ¬ (len : Int) = 0 := by omega
  have i5 : ((len : Int) == 0) = false := by rw [beq_eq_false_iff_ne]; exact i4
  have i6 : ¬ len = 0 := by omega
  refine wp_region_held_drew (S := (fun u => Below w.heap.size w u)) (by kernel_rfl) ?_ (fun hHeld => ?_)
  · exact (Below.refl _ _).drew
  generalize w.drew = wd at hHeld ⊢
  refine wpAnyH_take (i := 0) (oi := { dst := some 7, op := Op.move (Operand.tmp 0), type := 33, pos := "l10_pairs.go:76", after := #[], guard := none }) (v := ?v1bx0) rfl (by kernel_rfl) (by kernel_rfl) (by kernel_rfl) (fun c a w h => hQp c a _ _ w h) (Or.inl ⟨by rfl, ?hy1bx0⟩) (by with_reducible assumption) ?rest1bx0
  case hy1bx0 => (intro wS hSw; (try dsimp only at hSw); have z0 := cell_later hSw q0; have z1 := cell_later hSw q1; have z2 := cell_later hSw q2; have z3 := cell_later hSw q3; clear hSw; go_simp; try with_reducible rfl)
  case' rest1bx0 => (try simp only [Act.put, List.setIfInBounds_toArray, List.set_cons_zero, List.set_cons_succ])
  refine wpAnyH_take (i := 1) (oi := { dst := some 8, op := Op.move (Operand.tmp 1), type := 3, pos := "l10_pairs.go:76", after := #[], guard := none }) (v := ?v1bx1) rfl (by kernel_rfl) (by kernel_rfl) (by kernel_rfl) (fun c a w h => hQp c a _ _ w h) (Or.inl ⟨by rfl, ?hy1bx1⟩) (by with_reducible assumption) ?rest1bx1
  case hy1bx1 => (intro wS hSw; (try dsimp only at hSw); have z0 := cell_later hSw q0; have z1 := cell_later hSw q1; have z2 := cell_later hSw q2; have z3 := cell_later hSw q3; clear hSw; go_simp; try with_reducible rfl)
  case' rest1bx1 => (try simp only [Act.put, List.setIfInBounds_toArray, List.set_cons_zero, List.set_cons_succ])
  refine wpAnyH_take (i := 2) (oi := { dst := some 9, op := Op.move (Operand.tmp 0), type := 33, pos := "l10_pairs.go:76", after := #[], guard := none }) (v := ?v1bx2) rfl (by kernel_rfl) (by kernel_rfl) (by kernel_rfl) (fun c a w h => hQp c a _ _ w h) (Or.inl ⟨by rfl, ?hy1bx2⟩) (by with_reducible assumption) ?rest1bx2
  case hy1bx2 => (intro wS hSw; (try dsimp only at hSw); have z0 := cell_later hSw q0; have z1 := cell_later hSw q1; have z2 := cell_later hSw q2; have z3 := cell_later hSw q3; clear hSw; go_simp; try with_reducible rfl)
  case' rest1bx2 => (try simp only [Act.put, List.setIfInBounds_toArray, List.set_cons_zero, List.set_cons_succ])
  refine wpAnyH_take (i := 3) (oi := { dst := some 10, op := Op.call { callee := Callee.builtin Builtin.len, args := #[Operand.tmp 9], argTypes := #[33] }, type := 3, pos := "l10_pairs.go:76", after := #[{ on := 2, ground := Ground.data }], guard := none }) (v := ?v1bx3) rfl (by kernel_rfl) (by kernel_rfl) (by kernel_rfl) (fun c a w h => hQp c a _ _ w h) (Or.inl ⟨by rfl, ?hy1bx3⟩) (by with_reducible assumption) ?rest1bx3
  case hy1bx3 => (intro wS hSw; (try dsimp only at hSw); have z0 := cell_later hSw q0; have z1 := cell_later hSw q1; have z2 := cell_later hSw q2; have z3 := cell_later hSw q3; clear hSw; go_simp; try with_reducible rfl)
  case' rest1bx3 => (try simp only [Act.put, List.setIfInBounds_toArray, List.set_cons_zero, List.set_cons_succ])
  refine wpAnyH_take (i := 4) (oi := { dst := some 11, op := Op.binOp BinOp.rem 3 (Operand.tmp 8) (Operand.tmp 10) 3, type := 3, pos := "l10_pairs.go:76", after := #[{ on := 1, ground := Ground.data }, { on := 3, ground := Ground.data }], guard := none }) (v := ?v1bx4) rfl (by kernel_rfl) (by kernel_rfl) (by kernel_rfl) (fun c a w h => hQp c a _ _ w h) (Or.inl ⟨by rfl, ?hy1bx4⟩) (by with_reducible assumption) ?rest1bx4
  case hy1bx4 => (intro wS hSw; (try dsimp only at hSw); have z0 := cell_later hSw q0; have z1 := cell_later hSw q1; have z2 := cell_later hSw q2; have z3 := cell_later hSw q3; clear hSw; go_simp; try with_reducible rfl)
  case' rest1bx4 => (try simp only [Act.put, List.setIfInBounds_toArray, List.set_cons_zero, List.set_cons_succ])
  refine wpAnyH_take (i := 5) (oi := { dst := some 12, op := Op.indexAddr 33 (Operand.tmp 7) (Operand.tmp 11), type := 0, pos := "l10_pairs.go:76", after := #[{ on := 0, ground := Ground.data }, { on := 4, ground := Ground.data }], guard := none }) (v := ?v1bx5) rfl (by kernel_rfl) (by kernel_rfl) (by kernel_rfl) (fun c a w h => hQp c a _ _ w h) (Or.inl ⟨by rfl, ?hy1bx5⟩) (by with_reducible assumption) ?rest1bx5
  case hy1bx5 => (intro wS hSw; (try dsimp only at hSw); have z0 := cell_later hSw q0; have z1 := cell_later hSw q1; have z2 := cell_later hSw q2; have z3 := cell_later hSw q3; clear hSw; go_simp; try with_reducible rfl)
  case' rest1bx5 => (try simp only [Act.put, List.setIfInBounds_toArray, List.set_cons_zero, List.set_cons_succ])
  refine wpAnyH_take (i := 6) (oi := { dst := some 13, op := Op.load 26 (Operand.tmp 12), type := 26, pos := "l10_pairs.go:76", after := #[{ on := 5, ground := Ground.data }], guard := none }) (v := ?v1bx6) rfl (by kernel_rfl) (by kernel_rfl) (by kernel_rfl) (fun c a w h => hQp c a _ _ w h) (Or.inl ⟨by rfl, ?hy1bx6⟩) (by with_reducible assumption) ?rest1bx6
  case hy1bx6 => (intro wS hSw; (try dsimp only at hSw); have z0 := cell_later hSw q0; have z1 := cell_later hSw q1; have z2 := cell_later hSw q2; have z3 := cell_later hSw q3; clear hSw; go_simp; try with_reducible rfl)
  case' rest1bx6 => (try simp only [Act.put, List.setIfInBounds_toArray, List.set_cons_zero, List.set_cons_succ])
  refine wpAnyH_take (i := 7) (oi := { dst := some 14, op := Op.move (Operand.tmp 0), type := 33, pos := "l10_pairs.go:76", after := #[{ on := 17, ground := Ground.gcOnly Departure.lateStores }], guard := none }) (v := ?v1bx7) rfl (by kernel_rfl) (by kernel_rfl) (by kernel_rfl) (fun c a w h => hQp c a _ _ w h) (Or.inl ⟨by rfl, ?hy1bx7⟩) (by with_reducible assumption) ?rest1bx7
  case hy1bx7 => (intro wS hSw; (try dsimp only at hSw); have z0 := cell_later hSw q0; have z1 := cell_later hSw q1; have z2 := cell_later hSw q2; have z3 := cell_later hSw q3; clear hSw; go_simp; try with_reducible rfl)
  case' rest1bx7 => (try simp only [Act.put, List.setIfInBounds_toArray, List.set_cons_zero, List.set_cons_succ])
  refine wpAnyH_take (i := 8) (oi := { dst := some 15, op := Op.move (Operand.tmp 1), type := 3, pos := "l10_pairs.go:76", after := #[{ on := 17, ground := Ground.gcOnly Departure.lateStores }], guard := none }) (v := ?v1bx8) rfl (by kernel_rfl) (by kernel_rfl) (by kernel_rfl) (fun c a w h => hQp c a _ _ w h) (Or.inl ⟨by rfl, ?hy1bx8⟩) (by with_reducible assumption) ?rest1bx8
  case hy1bx8 => (intro wS hSw; (try dsimp only at hSw); have z0 := cell_later hSw q0; have z1 := cell_later hSw q1; have z2 := cell_later hSw q2; have z3 := cell_later hSw q3; clear hSw; go_simp; try with_reducible rfl)
  case' rest1bx8 => (try simp only [Act.put, List.setIfInBounds_toArray, List.set_cons_zero, List.set_cons_succ])
  refine wpAnyH_take (i := 9) (oi := { dst := some 16, op := Op.binOp BinOp.add 3 (Operand.tmp 15) (Operand.const (Value.int IntKind.i64 1)) 3, type := 3, pos := "l10_pairs.go:76", after := #[{ on := 8, ground := Ground.data }, { on := 17, ground := Ground.gcOnly Departure.lateStores }], guard := none }) (v := ?v1bx9) rfl (by kernel_rfl) (by kernel_rfl) (by kernel_rfl) (fun c a w h => hQp c a _ _ w h) (Or.inl ⟨by rfl, ?hy1bx9⟩) (by with_reducible assumption) ?rest1bx9
  case hy1bx9 => (intro wS hSw; (try dsimp only at hSw); have z0 := cell_later hSw q0; have z1 := cell_later hSw q1; have z2 := cell_later hSw q2; have z3 := cell_later hSw q3; clear hSw; go_simp; try with_reducible rfl)
  case' rest1bx9 => (try simp only [Act.put, List.setIfInBounds_toArray, List.set_cons_zero, List.set_cons_succ])
  refine wpAnyH_take (i := 10) (oi := { dst := some 17, op := Op.move (Operand.tmp 0), type := 33, pos := "l10_pairs.go:76", after := #[], guard := none }) (v := ?v1bx10) rfl (by kernel_rfl) (by kernel_rfl) (by kernel_rfl) (fun c a w h => hQp c a _ _ w h) (Or.inl ⟨by rfl, ?hy1bx10⟩) (by with_reducible assumption) ?rest1bx10
  case hy1bx10 => (intro wS hSw; (try dsimp only at hSw); have z0 := cell_later hSw q0; have z1 := cell_later hSw q1; have z2 := cell_later hSw q2; have z3 := cell_later hSw q3; clear hSw; go_simp; try with_reducible rfl)
  case' rest1bx10 => (try simp only [Act.put, List.setIfInBounds_toArray, List.set_cons_zero, List.set_cons_succ])
  refine wpAnyH_take (i := 11) (oi := { dst := some 18, op := Op.call { callee := Callee.builtin Builtin.len, args := #[Operand.tmp 17], argTypes := #[33] }, type := 3, pos := "l10_pairs.go:76", after := #[{ on := 10, ground := Ground.data }], guard := none }) (v := ?v1bx11) rfl (by kernel_rfl) (by kernel_rfl) (by kernel_rfl) (fun c a w h => hQp c a _ _ w h) (Or.inl ⟨by rfl, ?hy1bx11⟩) (by with_reducible assumption) ?rest1bx11
  case hy1bx11 => (intro wS hSw; (try dsimp only at hSw); have z0 := cell_later hSw q0; have z1 := cell_later hSw q1; have z2 := cell_later hSw q2; have z3 := cell_later hSw q3; clear hSw; go_simp; try with_reducible rfl)
  case' rest1bx11 => (try simp only [Act.put, List.setIfInBounds_toArray, List.set_cons_zero, List.set_cons_succ])
  refine wpAnyH_take (i := 12) (oi := { dst := some 19, op := Op.binOp BinOp.rem 3 (Operand.tmp 16) (Operand.tmp 18) 3, type := 3, pos := "l10_pairs.go:76", after := #[{ on := 9, ground := Ground.data }, { on := 11, ground := Ground.data }, { on := 17, ground := Ground.gcOnly Departure.lateStores }], guard := none }) (v := ?v1bx12) rfl (by kernel_rfl) (by kernel_rfl) (by kernel_rfl) (fun c a w h => hQp c a _ _ w h) (Or.inl ⟨by rfl, ?hy1bx12⟩) (by with_reducible assumption) ?rest1bx12
  case hy1bx12 => (intro wS hSw; (try dsimp only at hSw); have z0 := cell_later hSw q0; have z1 := cell_later hSw q1; have z2 := cell_later hSw q2; have z3 := cell_later hSw q3; clear hSw; go_simp; try with_reducible rfl)
  case' rest1bx12 => (try simp only [Act.put, List.setIfInBounds_toArray, List.set_cons_zero, List.set_cons_succ])
  refine wpAnyH_take (i := 13) (oi := { dst := some 20, op := Op.indexAddr 33 (Operand.tmp 14) (Operand.tmp 19), type := 0, pos := "l10_pairs.go:76", after := #[{ on := 7, ground := Ground.data }, { on := 12, ground := Ground.data }, { on := 17, ground := Ground.gcOnly Departure.lateStores }], guard := none }) (v := ?v1bx13) rfl (by kernel_rfl) (by kernel_rfl) (by kernel_rfl) (fun c a w h => hQp c a _ _ w h) (Or.inl ⟨by rfl, ?hy1bx13⟩) (by with_reducible assumption) ?rest1bx13
  case hy1bx13 => (intro wS hSw; (try dsimp only at hSw); have z0 := cell_later hSw q0; have z1 := cell_later hSw q1; have z2 := cell_later hSw q2; have z3 := cell_later hSw q3; clear hSw; go_simp; try with_reducible rfl)
  case' rest1bx13 => (try simp only [Act.put, List.setIfInBounds_toArray, List.set_cons_zero, List.set_cons_succ])
  refine wpAnyH_take (i := 14) (oi := { dst := some 21, op := Op.load 26 (Operand.tmp 20), type := 26, pos := "l10_pairs.go:76", after := #[{ on := 13, ground := Ground.data }, { on := 17, ground := Ground.gcOnly Departure.lateStores }], guard := none }) (v := ?v1bx14) rfl (by kernel_rfl) (by kernel_rfl) (by kernel_rfl) (fun c a w h => hQp c a _ _ w h) (Or.inl ⟨by rfl, ?hy1bx14⟩) (by with_reducible assumption) ?rest1bx14
  case hy1bx14 => (intro wS hSw; (try dsimp only at hSw); have z0 := cell_later hSw q0; have z1 := cell_later hSw q1; have z2 := cell_later hSw q2; have z3 := cell_later hSw q3; clear hSw; go_simp; try with_reducible rfl)
  case' rest1bx14 => (try simp only [Act.put, List.setIfInBounds_toArray, List.set_cons_zero, List.set_cons_succ])
  refine wpAnyH_ready (rs := [15, 16]) (by kernel_rfl) (by simp) ?_
  refine AllReadyH.cons (o := { dst := some 5, op := Op.alloc 26, type := 0, pos := "l10_pairs.go:76", after := #[], guard := none }) rfl (fun K hK => ?_) (AllReadyH.cons (o := { dst := some 6, op := Op.alloc 26, type := 0, pos := "l10_pairs.go:76", after := #[], guard := none }) rfl (fun K hK => ?_) AllReadyH.nil)
  · go_simp
    refine hK.out _ _ ?_ (fun hH1 => ?_)
    · exact hHeld.alloc hHeld.size _
    clear hK K
    try simp only [Act.put, List.setIfInBounds_toArray, List.set_cons_zero, List.set_cons_succ]
    have F := BoxP.new wd 0 0
    have hle := hHeld.size
    generalize wd.alloc (.cells #[.int .i64 0, .int .i64 0] 26) = u1 at F hH1 ⊢
    generalize wd.heap.size = Ba at F hle ⊢
    have flt := F.lt
    refine wpAnyH_ready (rs := [16]) (by kernel_rfl) (by simp) ?_
    refine AllReadyH.cons (o := { dst := some 6, op := Op.alloc 26, type := 0, pos := "l10_pairs.go:76", after := #[], guard := none }) rfl (fun K hK => ?_) AllReadyH.nil
    go_simp
    refine hK.out _ _ ?_ (fun hH2 => ?_)
    · exact hH1.alloc hH1.size _
    clear hK K
    try simp only [Act.put, List.setIfInBounds_toArray, List.set_cons_zero, List.set_cons_succ]
    have G := BoxP.new u1 0 0
    replace F := F.later ((Below.refl _ u1).alloc (Nat.le_refl _) (.cells #[.int .i64 0, .int .i64 0] 26))
    have hle2 := hH1.size
    generalize u1.alloc (.cells #[.int .i64 0, .int .i64 0] 26) = u2 at F G hH2 ⊢
    generalize u1.heap.size = Bb at G hle2 flt ⊢
    have hab : Ba ≠ Bb := by omega
    have c0 := F.c0
    have c1 := F.c1
    have f0 := F.f 0
    have f1 := F.f 1
    refine wpAnyH_ready (rs := [17]) (by kernel_rfl) (by simp) ?_
    refine AllReadyH.cons (o := { dst := none, op := Op.store 26 (Operand.tmp 5) (Operand.tmp 13), type := 0, pos := "l10_pairs.go:76", after := #[{ on := 15, ground := Ground.data }, { on := 6, ground := Ground.data }, { on := 0, ground := Ground.phase }, { on := 1, ground := Ground.phase }, { on := 2, ground := Ground.phase }, { on := 3, ground := Ground.phase }, { on := 4, ground := Ground.phase }, { on := 5, ground := Ground.phase }, { on := 6, ground := Ground.phase }, { on := 7, ground := Ground.textOnly Departure.lateStores }, { on := 8, ground := Ground.textOnly Departure.lateStores }, { on := 9, ground := Ground.textOnly Departure.lateStores }, { on := 10, ground := Ground.textOnly Departure.lateStores }, { on := 11, ground := Ground.textOnly Departure.lateStoresUnsure }, { on := 12, ground := Ground.textOnly Departure.lateStores }, { on := 13, ground := Ground.textOnly Departure.lateStores }, { on := 14, ground := Ground.textOnly Departure.lateStores }, { on := 15, ground := Ground.phase }, { on := 16, ground := Ground.phase }], guard := none }) rfl (fun K hK => ?_) AllReadyH.nil
    go_simp
    refine hK.out _ _ ?_ (fun hH3 => ?_)
    · exact (hH2.setCell (p := ⟨Ba, 0, none⟩) hle _).setCell (p := ⟨Ba, 1, none⟩) hle _
    clear hK K c0 c1 f0 f1
    try simp only [Act.put, List.setIfInBounds_toArray, List.set_cons_zero, List.set_cons_succ]
    replace F := F.set x0 y0
    replace G := (G.other (i := 0) (hab.symm) (.int .i64 x0)).other (i := 1) (B' := Ba) (hab.symm) (.int .i64 y0)
    generalize (u2.setCell ⟨Ba, 0, none⟩ (.int .i64 x0)).setCell ⟨Ba, 1, none⟩ (.int .i64 y0) = u3 at F G hH3 ⊢
    have c0 := G.c0
    have c1 := G.c1
    have f0 := G.f 0
    have f1 := G.f 1
    refine wpAnyH_ready (rs := [18]) (by kernel_rfl) (by simp) ?_
    refine AllReadyH.cons (o := { dst := none, op := Op.store 26 (Operand.tmp 6) (Operand.tmp 21), type := 0, pos := "l10_pairs.go:76", after := #[{ on := 16, ground := Ground.data }, { on := 14, ground := Ground.data }, { on := 17, ground := Ground.chain }, { on := 0, ground := Ground.phase }, { on := 1, ground := Ground.phase }, { on := 2, ground := Ground.phase }, { on := 3, ground := Ground.phase }, { on := 4, ground := Ground.phase }, { on := 5, ground := Ground.phase }, { on := 6, ground := Ground.phase }, { on := 7, ground := Ground.phase }, { on := 8, ground := Ground.phase }, { on := 9, ground := Ground.phase }, { on := 10, ground := Ground.phase }, { on := 11, ground := Ground.phase }, { on := 12, ground := Ground.phase }, { on := 13, ground := Ground.phase }, { on := 14, ground := Ground.phase }, { on := 15, ground := Ground.phase }, { on := 16, ground := Ground.phase }, { on := 17, ground := Ground.phase }], guard := none }) rfl (fun K hK => ?_) AllReadyH.nil
    go_simp
    refine hK.out _ _ ?_ (fun hH4 => ?_)
    · exact (hH3.setCell (p := ⟨Bb, 0, none⟩) hle2 _).setCell (p := ⟨Bb, 1, none⟩) hle2 _
    clear hK K c0 c1 f0 f1
    try simp only [Act.put, List.setIfInBounds_toArray, List.set_cons_zero, List.set_cons_succ]
    replace G := G.set x1 y1
    replace F := (F.other (i := 0) (hab) (.int .i64 x1)).other (i := 1) (B' := Bb) (hab) (.int .i64 y1)
    generalize (u3.setCell ⟨Bb, 0, none⟩ (.int .i64 x1)).setCell ⟨Bb, 1, none⟩ (.int .i64 y1) = u4 at F G hH4 ⊢
    refine wpAnyH_done (by kernel_rfl) ?_ _
    exact hQ _ _ _ hle hle2 (hab) F G hH4
  · go_simp
    refine hK.out _ _ ?_ (fun hH1 => ?_)
    · exact hHeld.alloc hHeld.size _
    clear hK K
    try simp only [Act.put, List.setIfInBounds_toArray, List.set_cons_zero, List.set_cons_succ]
    have F := BoxP.new wd 0 0
    have hle := hHeld.size
    generalize wd.alloc (.cells #[.int .i64 0, .int .i64 0] 26) = u1 at F hH1 ⊢
    generalize wd.heap.size = Ba at F hle ⊢
    have flt := F.lt
    refine wpAnyH_ready (rs := [15]) (by kernel_rfl) (by simp) ?_
    refine AllReadyH.cons (o := { dst := some 5, op := Op.alloc 26, type := 0, pos := "l10_pairs.go:76", after := #[], guard := none }) rfl (fun K hK => ?_) AllReadyH.nil
    go_simp
    refine hK.out _ _ ?_ (fun hH2 => ?_)
    · exact hH1.alloc hH1.size _
    clear hK K
    try simp only [Act.put, List.setIfInBounds_toArray, List.set_cons_zero, List.set_cons_succ]
    have G := BoxP.new u1 0 0
    replace F := F.later ((Below.refl _ u1).alloc (Nat.le_refl _) (.cells #[.int .i64 0, .int .i64 0] 26))
    have hle2 := hH1.size
    generalize u1.alloc (.cells #[.int .i64 0, .int .i64 0] 26) = u2 at F G hH2 ⊢
    generalize u1.heap.size = Bb at G hle2 flt ⊢
    have hab : Ba ≠ Bb := by omega
    have c0 := G.c0
    have c1 := G.c1
    have f0 := G.f 0
    have f1 := G.f 1
    refine wpAnyH_ready (rs := [17]) (by kernel_rfl) (by simp) ?_
    refine AllReadyH.cons (o := { dst := none, op := Op.store 26 (Operand.tmp 5) (Operand.tmp 13), type := 0, pos := "l10_pairs.go:76", after := #[{ on := 15, ground := Ground.data }, { on := 6, ground := Ground.data }, { on := 0, ground := Ground.phase }, { on := 1, ground := Ground.phase }, { on := 2, ground := Ground.phase }, { on := 3, ground := Ground.phase }, { on := 4, ground := Ground.phase }, { on := 5, ground := Ground.phase }, { on := 6, ground := Ground.phase }, { on := 7, ground := Ground.textOnly Departure.lateStores }, { on := 8, ground := Ground.textOnly Departure.lateStores }, { on := 9, ground := Ground.textOnly Departure.lateStores }, { on := 10, ground := Ground.textOnly Departure.lateStores }, { on := 11, ground := Ground.textOnly Departure.lateStoresUnsure }, { on := 12, ground := Ground.textOnly Departure.lateStores }, { on := 13, ground := Ground.textOnly Departure.lateStores }, { on := 14, ground := Ground.textOnly Departure.lateStores }, { on := 15, ground := Ground.phase }, { on := 16, ground := Ground.phase }], guard := none }) rfl (fun K hK => ?_) AllReadyH.nil
    go_simp
    refine hK.out _ _ ?_ (fun hH3 => ?_)
    · exact (hH2.setCell (p := ⟨Bb, 0, none⟩) hle2 _).setCell (p := ⟨Bb, 1, none⟩) hle2 _
    clear hK K c0 c1 f0 f1
    try simp only [Act.put, List.setIfInBounds_toArray, List.set_cons_zero, List.set_cons_succ]
    replace G := G.set x0 y0
    replace F := (F.other (i := 0) (hab) (.int .i64 x0)).other (i := 1) (B' := Bb) (hab) (.int .i64 y0)
    generalize (u2.setCell ⟨Bb, 0, none⟩ (.int .i64 x0)).setCell ⟨Bb, 1, none⟩ (.int .i64 y0) = u3 at F G hH3 ⊢
    have c0 := F.c0
    have c1 := F.c1
    have f0 := F.f 0
    have f1 := F.f 1
    refine wpAnyH_ready (rs := [18]) (by kernel_rfl) (by simp) ?_
    refine AllReadyH.cons (o := { dst := none, op := Op.store 26 (Operand.tmp 6) (Operand.tmp 21), type := 0, pos := "l10_pairs.go:76", after := #[{ on := 16, ground := Ground.data }, { on := 14, ground := Ground.data }, { on := 17, ground := Ground.chain }, { on := 0, ground := Ground.phase }, { on := 1, ground := Ground.phase }, { on := 2, ground := Ground.phase }, { on := 3, ground := Ground.phase }, { on := 4, ground := Ground.phase }, { on := 5, ground := Ground.phase }, { on := 6, ground := Ground.phase }, { on := 7, ground := Ground.phase }, { on := 8, ground := Ground.phase }, { on := 9, ground := Ground.phase }, { on := 10, ground := Ground.phase }, { on := 11, ground := Ground.phase }, { on := 12, ground := Ground.phase }, { on := 13, ground := Ground.phase }, { on := 14, ground := Ground.phase }, { on := 15, ground := Ground.phase }, { on := 16, ground := Ground.phase }, { on := 17, ground := Ground.phase }], guard := none }) rfl (fun K hK => ?_) AllReadyH.nil
    go_simp
    refine hK.out _ _ ?_ (fun hH4 => ?_)
    · exact (hH3.setCell (p := ⟨Ba, 0, none⟩) hle _).setCell (p := ⟨Ba, 1, none⟩) hle _
    clear hK K c0 c1 f0 f1
    try simp only [Act.put, List.setIfInBounds_toArray, List.set_cons_zero, List.set_cons_succ]
    replace F := F.set x1 y1
    replace G := (G.other (i := 0) (hab.symm) (.int .i64 x1)).other (i := 1) (B' := Ba) (hab.symm) (.int .i64 y1)
    generalize (u3.setCell ⟨Ba, 0, none⟩ (.int .i64 x1)).setCell ⟨Ba, 1, none⟩ (.int .i64 y1) = u4 at F G hH4 ⊢
    refine wpAnyH_done (by kernel_rfl) ?_ _
    exact hQ _ _ _ hle2 hle (hab.symm) G F hH4
set_option maxHeartbeats 2000000 in
theorem sideS_c (l : List (Int × Int)) (k : Nat) (e0 e1 : Int) (a : Option Addr) (len cap : Nat) (w : World) (hl : l.length = len) (h1 : len ≤ 1048576) (h0 : 0 < len) (hk : k ≤ 2097152) (hA : At w.heap.size a l w) (HG : allG l) (he : vec (pt l (k % l.length)) (pt l ((k + 1) % l.length)) = (e0, e1)) :
    Calls Tryd.prog 84 #[.slice a len cap, .int .i64 (k : Int)] w fun e w' => e = .returned (.agg #[.int .i64 e0, .int .i64 e1]) ∧ Below w.heap.size w w' := by
  subst hl
  have HA := hid hA
  clear hA
  obtain ⟨j1, hj1⟩ : ∃ j, k % l.length = j := ⟨_, rfl⟩
  obtain ⟨j2, hj2⟩ : ∃ j, (k + 1) % l.length = j := ⟨_, rfl⟩
  have l1 : j1 < l.length := by rw [← hj1]; exact Nat.mod_lt _ h0
  have l2 : j2 < l.length := by rw [← hj2]; exact Nat.mod_lt _ h0
  have hw : IntKind.i64.wrap ((k : Int) + 1) = ((k + 1 : Nat) : Int) := by rw [IntKind.wrap_i64]; omega
  have hm1 : ((k : Nat) : Int).tmod (l.length : Int) = (j1 : Int) := by rw [← hj1, Int.tmod_eq_emod_of_nonneg (by omega)]; exact (Int.natCast_emod _ _).symm
  have hm2 : ((k + 1 : Nat) : Int).tmod (l.length : Int) = (j2 : Int) := by rw [← hj2, Int.tmod_eq_emod_of_nonneg (by omega)]; exact (Int.natCast_emod _ _).symm
  have hg1 := goodB_r (HG _ (pt_mem (l := l) l1))
  have hg2 := goodB_r (HG _ (pt_mem (l := l) l2))
  rw [hj1, hj2] at he
  obtain ⟨b, off, rfl, hbN, g0, g1⟩ := HA.out j1 l1
  obtain ⟨b', off', e2, hbN', g2, g3⟩ := HA.out j2 l2
  cases e2
  simp only [pt] at hg1 hg2 he
  obtain ⟨x0, hx0⟩ : ∃ x, px l j1 = x := ⟨_, rfl⟩
  obtain ⟨y0, hy0⟩ : ∃ x, py l j1 = x := ⟨_, rfl⟩
  obtain ⟨x1, hx1⟩ : ∃ x, px l j2 = x := ⟨_, rfl⟩
  obtain ⟨y1, hy1⟩ : ∃ x, py l j2 = x := ⟨_, rfl⟩
  rw [hx0, hy0] at hg1
  rw [hx1, hy1] at hg2
  rw [hx0, hy0, hx1, hy1] at he
  rw [hx0] at g0
  rw [hy0] at g1
  rw [hx1] at g2
  rw [hy1] at g3
  have hd0 : x1 - x0 = e0 := congrArg Prod.fst he
  have hd1 : y1 - y0 = e1 := congrArg Prod.snd he
  have v0 : IntKind.i64.wrap (x1 - x0) = e0 := by rw [IntKind.wrap_i64]; omega
  have v1 : IntKind.i64.wrap (y1 - y0) = e1 := by rw [IntKind.wrap_i64]; omega
  clear hx0 hy0 hx1 hy1 he hd0 hd1 hg1 hg2 hj1 hj2
  go_enter Tryd.func84, Tryd.ntmps84
  go_upto_region 1 with fail
  have K4 := BoxP.new w 0 0
  have hb : Below w.heap.size w (w.alloc (.cells #[.int .i64 0, .int .i64 0] 26)) := by go_grown
  generalize w.alloc (.cells #[.int .i64 0, .int .i64 0] 26) = w0 at K4 hb ⊢
  refine sideTwo b off l.length cap j1 j2 k ((k + 1 : Nat) : Int) x0 y0 x1 y1 hw hm1 hm2 l1 l2 h0 _ _ _ _ _ _ _ _ _ _ _ _ _ _ _ _ _ _ _ _ _ _ _ _ _ _ _ _ _ _ _ _ _ ((hb.cell hbN).trans g0) ((hb.cell hbN).trans g1) ((hb.cell hbN).trans g2) ((hb.cell hbN).trans g3) (fun _ _ _ _ _ h => h) ?_
  intro B5 B6 w3 m5 m6 n56 K5 K6 hb3
  replace K4 := K4.later hb3
  replace hb := grew hb hb3
  clear g0 g1 g2 g3 hb3 hw hm1 hm2
  have c40 := K4.c0
  have c41 := K4.c1
  have f40 := K4.f 0
  have f41 := K4.f 1
  have c50 := K5.c0
  have c51 := K5.c1
  have c60 := K6.c0
  have c61 := K6.c1
  go_wp2
  have Z := K4.set e0 e1
  have hz := (hb.setCell (p := ⟨w.heap.size, 0, none⟩) (Nat.le_refl _) (.int .i64 e0)).setCell (p := ⟨w.heap.size, 1, none⟩) (Nat.le_refl _) (.int .i64 e1)
  generalize (w3.setCell ⟨w.heap.size, 0, none⟩ (.int .i64 e0)).setCell ⟨w.heap.size, 1, none⟩ (.int .i64 e1) = wz at Z hz ⊢
  have r0 := Z.c0
  have r1 := Z.c1
  refine bodyPost_ret (v := .agg #[.int .i64 e0, .int .i64 e1]) (by simp [results, Tryd.results84, go_sem, r0, r1]) rfl ?_
  exact ⟨rfl, hz⟩
end Go.Proofs.YtipiamhnngmjmaaDoor
