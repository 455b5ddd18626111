/-
  Twice the area, the steps on a side, the points of the rim, as the specification reckons them (contracts for the walks).
  Conditions: as each theorem states them.
-/
import Derived.Test.YtohcllojjmhbcaaDoorArMath
import Derived.Test.YtohcllojjmhbcaaDoorHGood
import Derived.Test.YtohcllojjmhbcaaDoorNxt
import Derived.Deep.QuietTactic
import Derived.Deep.DeepCutAuto
namespace Go.Proofs.YtohcllojjmhbcaaDoor
open Go.RowKit Go.Shelf
set_option linter.unusedVariables false
set_option maxRecDepth 8000
set_option maxHeartbeats 4000000 in
theorem l8Area_c (l : List (Int × Int)) (a : Option Addr) (len cap : Nat) (w : World) (hl : l.length = len) (h60 : len ≤ 60) (hA : At w.heap.size a l w) (hG : allG l) :
    Calls Tryd.prog 57 #[.slice a len cap] w fun e w' => e = .returned (.int .i64 (area8 l)) ∧ Below w.heap.size w w' := by
  subst hl
  have HA := hid hA
  have HG := hid hG
  clear hA hG
  go_enter Tryd.func57, Tryd.ntmps57
  go_wp2
  go_loopw [3, 4] (fun o i wr => ∃ k : Nat, 1 ≤ k ∧ (k = 1 ∨ k + 1 ≤ l.length) ∧ o = .int .i64 (fanA l (k - 1)) ∧ i = .int .i64 (k : Int) ∧ Below w.heap.size w wr) (fun _ i _ => l.length - (intOf i).toNat)
  case atStart => exact ⟨1, Nat.le_refl _, .inl rfl, rfl, rfl, by go_grown⟩
  case round =>
    obtain ⟨k, hk1, hk, rfl, rfl, hbw⟩ := hrel
    have HBW := hid hbw
    by_cases hkl : k + 1 < l.length
    · obtain ⟨b, off, rfl, hbN, g0, g1⟩ := HA.out 0 (by omega)
      obtain ⟨b1, off1, e1, _, g2, g3⟩ := HA.out k (by omega)
      obtain ⟨b2, off2, e2, _, g4, g5⟩ := HA.out (k + 1) (by omega)
      obtain ⟨rfl, rfl⟩ : b = b1 ∧ off = off1 := by simpa using e1
      obtain ⟨rfl, rfl⟩ : b = b2 ∧ off = off2 := by simpa using e2
      clear e1 e2
      simp only [Nat.zero_mul, Nat.add_zero] at g0 g1
      have hs := sd_small (HG.out _ (pt_mem (l := l) (i := 0) (by omega))) (HG.out _ (pt_mem (l := l) (i := k) (by omega))) (HG.out _ (pt_mem (l := l) (i := k + 1) (by omega)))
      have hf := fanA_small HG.out (k - 1) (by omega)
      have HE := hid (crossW_eq (HG.out _ (pt_mem (l := l) (i := 0) (by omega))) (HG.out _ (pt_mem (l := l) (i := k) (by omega))) (HG.out _ (pt_mem (l := l) (i := k + 1) (by omega))))
      have HW : IntKind.i64.wrap (fanA l (k - 1) + crossW (pt l 0).1 (pt l 0).2 (pt l k).1 (pt l k).2 (pt l (k + 1)).1 (pt l (k + 1)).2) = fanA l k := by
        rw [IntKind.wrap_i64, HE.out]
        have : fanA l k = fanA l (k - 1) + sd (pt l 0) (pt l k) (pt l (k + 1)) := by
          obtain ⟨j, rfl⟩ : ∃ j, k = j + 1 := ⟨k - 1, by omega⟩
          rfl
        omega
      clear hs hf HE
      obtain ⟨m, hm⟩ : ∃ m, k + 1 = m := ⟨_, rfl⟩
      have hc : (k : Int) + 1 = (m : Int) := by omega
      rw [hm] at g4 g5 HW hkl
      have m0 : (0 : Int) ≤ (m : Int) := by omega
      have m1 : (m : Int) < (l.length : Int) := by omega
      have k0 : (0 : Int) ≤ (k : Int) := by omega
      have k1 : (k : Int) < (l.length : Int) := by omega
      have hwm : IntKind.i64.wrap (m : Int) = (m : Int) := by rw [IntKind.wrap_i64]; omega
      have n0 : 0 < l.length := by omega
      have nk : k < l.length := by omega
      have q0 := cell_later hbw g0
      have q1 := cell_later hbw g1
      have q2 := cell_later hbw g2
      have q3 := cell_later hbw g3
      have q4 := cell_later hbw g4
      have q5 := cell_later hbw g5
      clear g0 g1 g2 g3 g4 g5 hm
      replace HW := hid HW
      generalize fanA l (k - 1) = F at HW ⊢
      go_upto_region 5 with fail
      refine wp_region_held_drew (S := (fun u => Below wr.heap.size wr u)) (by kernel_rfl) ?_ (fun hHeld => ?_)
      · exact (Below.refl _ _).drew
      refine wpAnyH_take (i := 0) (oi := { dst := some 12, op := Op.move (Operand.tmp 3), type := 3, pos := "l8_area.go:8", after := #[], guard := none }) (v := ?v2yx0) rfl (by kernel_rfl) (by kernel_rfl) (by kernel_rfl) (fun _ _ _ h => h) (Or.inl ⟨by rfl, ?hy2yx0⟩) (by with_reducible assumption) ?rest2yx0
      case hy2yx0 => (intro wS hSw; (try dsimp only at hSw); have z0 := cell_later hSw q0; have z1 := cell_later hSw q1; have z2 := cell_later hSw q2; have z3 := cell_later hSw q3; have z4 := cell_later hSw q4; have z5 := cell_later hSw q5; clear hSw; go_simp; try with_reducible rfl)
      case' rest2yx0 => (try simp only [Act.put, List.setIfInBounds_toArray, List.set_cons_zero, List.set_cons_succ])
      refine wpAnyH_take (i := 1) (oi := { dst := some 13, op := Op.move (Operand.tmp 0), type := 24, pos := "l8_area.go:8", after := #[], guard := none }) (v := ?v3yx1) rfl (by kernel_rfl) (by kernel_rfl) (by kernel_rfl) (fun _ _ _ h => h) (Or.inl ⟨by rfl, ?hy3yx1⟩) (by with_reducible assumption) ?rest3yx1
      case hy3yx1 => (intro wS hSw; (try dsimp only at hSw); have z0 := cell_later hSw q0; have z1 := cell_later hSw q1; have z2 := cell_later hSw q2; have z3 := cell_later hSw q3; have z4 := cell_later hSw q4; have z5 := cell_later hSw q5; clear hSw; go_simp; try with_reducible rfl)
      case' rest3yx1 => (try simp only [Act.put, List.setIfInBounds_toArray, List.set_cons_zero, List.set_cons_succ])
      refine wpAnyH_take (i := 2) (oi := { dst := some 14, op := Op.indexAddr 24 (Operand.tmp 13) (Operand.const (Value.int IntKind.i64 0)), type := 0, pos := "l8_area.go:8", after := #[{ on := 1, ground := Ground.data }], guard := none }) (v := ?v4yx2) rfl (by kernel_rfl) (by kernel_rfl) (by kernel_rfl) (fun _ _ _ h => h) (Or.inl ⟨by rfl, ?hy4yx2⟩) (by with_reducible assumption) ?rest4yx2
      case hy4yx2 => (intro wS hSw; (try dsimp only at hSw); have z0 := cell_later hSw q0; have z1 := cell_later hSw q1; have z2 := cell_later hSw q2; have z3 := cell_later hSw q3; have z4 := cell_later hSw q4; have z5 := cell_later hSw q5; clear hSw; go_simp; try with_reducible rfl)
      case' rest4yx2 => (try simp only [Act.put, List.setIfInBounds_toArray, List.set_cons_zero, List.set_cons_succ])
      refine wpAnyH_take (i := 3) (oi := { dst := some 15, op := Op.load 26 (Operand.tmp 14), type := 26, pos := "l8_area.go:8", after := #[{ on := 2, ground := Ground.data }], guard := none }) (v := ?v5yx3) rfl (by kernel_rfl) (by kernel_rfl) (by kernel_rfl) (fun _ _ _ h => h) (Or.inl ⟨by rfl, ?hy5yx3⟩) (by with_reducible assumption) ?rest5yx3
      case hy5yx3 => (intro wS hSw; (try dsimp only at hSw); have z0 := cell_later hSw q0; have z1 := cell_later hSw q1; have z2 := cell_later hSw q2; have z3 := cell_later hSw q3; have z4 := cell_later hSw q4; have z5 := cell_later hSw q5; clear hSw; go_simp; try with_reducible rfl)
      case' rest5yx3 => (try simp only [Act.put, List.setIfInBounds_toArray, List.set_cons_zero, List.set_cons_succ])
      refine wpAnyH_take (i := 4) (oi := { dst := some 16, op := Op.move (Operand.tmp 0), type := 24, pos := "l8_area.go:8", after := #[], guard := none }) (v := ?v6yx4) rfl (by kernel_rfl) (by kernel_rfl) (by kernel_rfl) (fun _ _ _ h => h) (Or.inl ⟨by rfl, ?hy6yx4⟩) (by with_reducible assumption) ?rest6yx4
      case hy6yx4 => (intro wS hSw; (try dsimp only at hSw); have z0 := cell_later hSw q0; have z1 := cell_later hSw q1; have z2 := cell_later hSw q2; have z3 := cell_later hSw q3; have z4 := cell_later hSw q4; have z5 := cell_later hSw q5; clear hSw; go_simp; try with_reducible rfl)
      case' rest6yx4 => (try simp only [Act.put, List.setIfInBounds_toArray, List.set_cons_zero, List.set_cons_succ])
      refine wpAnyH_take (i := 5) (oi := { dst := some 17, op := Op.move (Operand.tmp 4), type := 3, pos := "l8_area.go:8", after := #[], guard := none }) (v := ?v7yx5) rfl (by kernel_rfl) (by kernel_rfl) (by kernel_rfl) (fun _ _ _ h => h) (Or.inl ⟨by rfl, ?hy7yx5⟩) (by with_reducible assumption) ?rest7yx5
      case hy7yx5 => (intro wS hSw; (try dsimp only at hSw); have z0 := cell_later hSw q0; have z1 := cell_later hSw q1; have z2 := cell_later hSw q2; have z3 := cell_later hSw q3; have z4 := cell_later hSw q4; have z5 := cell_later hSw q5; clear hSw; go_simp; try with_reducible rfl)
      case' rest7yx5 => (try simp only [Act.put, List.setIfInBounds_toArray, List.set_cons_zero, List.set_cons_succ])
      refine wpAnyH_take (i := 6) (oi := { dst := some 18, op := Op.indexAddr 24 (Operand.tmp 16) (Operand.tmp 17), type := 0, pos := "l8_area.go:8", after := #[{ on := 4, ground := Ground.data }, { on := 5, ground := Ground.data }], guard := none }) (v := ?v8yx6) rfl (by kernel_rfl) (by kernel_rfl) (by kernel_rfl) (fun _ _ _ h => h) (Or.inl ⟨by rfl, ?hy8yx6⟩) (by with_reducible assumption) ?rest8yx6
      case hy8yx6 => (intro wS hSw; (try dsimp only at hSw); have z0 := cell_later hSw q0; have z1 := cell_later hSw q1; have z2 := cell_later hSw q2; have z3 := cell_later hSw q3; have z4 := cell_later hSw q4; have z5 := cell_later hSw q5; clear hSw; go_simp; try with_reducible rfl)
      case' rest8yx6 => (try simp only [Act.put, List.setIfInBounds_toArray, List.set_cons_zero, List.set_cons_succ])
      refine wpAnyH_take (i := 7) (oi := { dst := some 19, op := Op.load 26 (Operand.tmp 18), type := 26, pos := "l8_area.go:8", after := #[{ on := 6, ground := Ground.data }], guard := none }) (v := ?v9yx7) rfl (by kernel_rfl) (by kernel_rfl) (by kernel_rfl) (fun _ _ _ h => h) (Or.inl ⟨by rfl, ?hy9yx7⟩) (by with_reducible assumption) ?rest9yx7
      case hy9yx7 => (intro wS hSw; (try dsimp only at hSw); have z0 := cell_later hSw q0; have z1 := cell_later hSw q1; have z2 := cell_later hSw q2; have z3 := cell_later hSw q3; have z4 := cell_later hSw q4; have z5 := cell_later hSw q5; clear hSw; go_simp; try with_reducible rfl)
      case' rest9yx7 => (try simp only [Act.put, List.setIfInBounds_toArray, List.set_cons_zero, List.set_cons_succ])
      refine wpAnyH_take (i := 8) (oi := { dst := some 20, op := Op.move (Operand.tmp 0), type := 24, pos := "l8_area.go:8", after := #[], guard := none }) (v := ?v10yx8) rfl (by kernel_rfl) (by kernel_rfl) (by kernel_rfl) (fun _ _ _ h => h) (Or.inl ⟨by rfl, ?hy10yx8⟩) (by with_reducible assumption) ?rest10yx8
      case hy10yx8 => (intro wS hSw; (try dsimp only at hSw); have z0 := cell_later hSw q0; have z1 := cell_later hSw q1; have z2 := cell_later hSw q2; have z3 := cell_later hSw q3; have z4 := cell_later hSw q4; have z5 := cell_later hSw q5; clear hSw; go_simp; try with_reducible rfl)
      case' rest10yx8 => (try simp only [Act.put, List.setIfInBounds_toArray, List.set_cons_zero, List.set_cons_succ])
      refine wpAnyH_take (i := 9) (oi := { dst := some 21, op := Op.move (Operand.tmp 4), type := 3, pos := "l8_area.go:8", after := #[], guard := none }) (v := ?v11yx9) rfl (by kernel_rfl) (by kernel_rfl) (by kernel_rfl) (fun _ _ _ h => h) (Or.inl ⟨by rfl, ?hy11yx9⟩) (by with_reducible assumption) ?rest11yx9
      case hy11yx9 => (intro wS hSw; (try dsimp only at hSw); have z0 := cell_later hSw q0; have z1 := cell_later hSw q1; have z2 := cell_later hSw q2; have z3 := cell_later hSw q3; have z4 := cell_later hSw q4; have z5 := cell_later hSw q5; clear hSw; go_simp; try with_reducible rfl)
      case' rest11yx9 => (try simp only [Act.put, List.setIfInBounds_toArray, List.set_cons_zero, List.set_cons_succ])
      refine wpAnyH_take (i := 10) (oi := { dst := some 22, op := Op.binOp BinOp.add 3 (Operand.tmp 21) (Operand.const (Value.int IntKind.i64 1)) 3, type := 3, pos := "l8_area.go:8", after := #[{ on := 9, ground := Ground.data }], guard := none }) (v := ?v12yx10) rfl (by kernel_rfl) (by kernel_rfl) (by kernel_rfl) (fun _ _ _ h => h) (Or.inl ⟨by rfl, ?hy12yx10⟩) (by with_reducible assumption) ?rest12yx10
      case hy12yx10 => (intro wS hSw; (try dsimp only at hSw); have z0 := cell_later hSw q0; have z1 := cell_later hSw q1; have z2 := cell_later hSw q2; have z3 := cell_later hSw q3; have z4 := cell_later hSw q4; have z5 := cell_later hSw q5; clear hSw; go_simp; try with_reducible rfl)
      case' rest12yx10 => (try simp only [Act.put, List.setIfInBounds_toArray, List.set_cons_zero, List.set_cons_succ])
      refine wpAnyH_take (i := 11) (oi := { dst := some 23, op := Op.indexAddr 24 (Operand.tmp 20) (Operand.tmp 22), type := 0, pos := "l8_area.go:8", after := #[{ on := 8, ground := Ground.data }, { on := 10, ground := Ground.data }], guard := none }) (v := ?v13yx11) rfl (by kernel_rfl) (by kernel_rfl) (by kernel_rfl) (fun _ _ _ h => h) (Or.inl ⟨by rfl, ?hy13yx11⟩) (by with_reducible assumption) ?rest13yx11
      case hy13yx11 => (intro wS hSw; (try dsimp only at hSw); have z0 := cell_later hSw q0; have z1 := cell_later hSw q1; have z2 := cell_later hSw q2; have z3 := cell_later hSw q3; have z4 := cell_later hSw q4; have z5 := cell_later hSw q5; clear hSw; go_simp; try with_reducible rfl)
      case' rest13yx11 => (try simp only [Act.put, List.setIfInBounds_toArray, List.set_cons_zero, List.set_cons_succ])
      refine wpAnyH_take (i := 12) (oi := { dst := some 24, op := Op.load 26 (Operand.tmp 23), type := 26, pos := "l8_area.go:8", after := #[{ on := 11, ground := Ground.data }], guard := none }) (v := ?v14yx12) rfl (by kernel_rfl) (by kernel_rfl) (by kernel_rfl) (fun _ _ _ h => h) (Or.inl ⟨by rfl, ?hy14yx12⟩) (by with_reducible assumption) ?rest14yx12
      case hy14yx12 => (intro wS hSw; (try dsimp only at hSw); have z0 := cell_later hSw q0; have z1 := cell_later hSw q1; have z2 := cell_later hSw q2; have z3 := cell_later hSw q3; have z4 := cell_later hSw q4; have z5 := cell_later hSw q5; clear hSw; go_simp; try with_reducible rfl)
      case' rest14yx12 => (try simp only [Act.put, List.setIfInBounds_toArray, List.set_cons_zero, List.set_cons_succ])
      refine wpAnyH_ready (rs := [13]) (by kernel_rfl) (by simp) ?_
      refine AllReadyH.cons (o := { dst := some 25, op := Op.call { callee := Callee.value (Operand.func 56), args := #[Operand.tmp 15, Operand.tmp 19, Operand.tmp 24], argTypes := #[26, 26, 26] }, type := 3, pos := "l8_area.go:8", after := #[{ on := 3, ground := Ground.data }, { on := 7, ground := Ground.data }, { on := 12, ground := Ground.data }], guard := none }) rfl (fun K hK => ?_) AllReadyH.nil
      go_simp
      refine (cross_c _ _ _ _ _ _ _).mono ?_
      rintro e w1 ⟨rfl, hb1⟩
      go_wp2_with fail
      refine hK.out _ _ ?_ (fun hHeld => ?_)
      · exact grew (by with_reducible assumption) hb1
      clear hK K
      try simp only [Act.put, List.setIfInBounds_toArray, List.set_cons_zero, List.set_cons_succ]
      refine wpAnyH_take (i := 14) (oi := { dst := some 26, op := Op.binOp BinOp.add 3 (Operand.tmp 12) (Operand.tmp 25) 3, type := 3, pos := "l8_area.go:8", after := #[{ on := 0, ground := Ground.data }, { on := 13, ground := Ground.data }], guard := none }) (v := ?v15yx14) rfl (by kernel_rfl) (by kernel_rfl) (by kernel_rfl) (fun _ _ _ h => h) (Or.inl ⟨by rfl, ?hy15yx14⟩) (by with_reducible assumption) ?rest15yx14
      case hy15yx14 => (intro wS hSw; (try dsimp only at hSw); have z0 := cell_later hSw q0; have z1 := cell_later hSw q1; have z2 := cell_later hSw q2; have z3 := cell_later hSw q3; have z4 := cell_later hSw q4; have z5 := cell_later hSw q5; clear hSw; go_simp; try with_reducible rfl)
      case' rest15yx14 => (try simp only [Act.put, List.setIfInBounds_toArray, List.set_cons_zero, List.set_cons_succ])
      refine wpAnyH_take (i := 15) (oi := { dst := some 3, op := Op.assign (Operand.tmp 26), type := 3, pos := "l8_area.go:8", after := #[{ on := 14, ground := Ground.data }, { on := 13, ground := Ground.chain }, { on := 0, ground := Ground.phase }, { on := 1, ground := Ground.phase }, { on := 2, ground := Ground.phase }, { on := 3, ground := Ground.phase }, { on := 4, ground := Ground.phase }, { on := 5, ground := Ground.phase }, { on := 6, ground := Ground.phase }, { on := 7, ground := Ground.phase }, { on := 8, ground := Ground.phase }, { on := 9, ground := Ground.phase }, { on := 10, ground := Ground.phase }, { on := 11, ground := Ground.phase }, { on := 12, ground := Ground.phase }, { on := 13, ground := Ground.phase }, { on := 14, ground := Ground.phase }], guard := none }) (v := ?v16yx15) rfl (by kernel_rfl) (by kernel_rfl) (by kernel_rfl) (fun _ _ _ h => h) (Or.inl ⟨by rfl, ?hy16yx15⟩) (by with_reducible assumption) ?rest16yx15
      case hy16yx15 => (intro wS hSw; (try dsimp only at hSw); have z0 := cell_later hSw q0; have z1 := cell_later hSw q1; have z2 := cell_later hSw q2; have z3 := cell_later hSw q3; have z4 := cell_later hSw q4; have z5 := cell_later hSw q5; clear hSw; go_simp; try with_reducible rfl)
      case' rest16yx15 => (try simp only [Act.put, List.setIfInBounds_toArray, List.set_cons_zero, List.set_cons_succ])
      refine wpAnyH_done (by kernel_rfl) ?_ _
      go_wp2
      go_roundw
      case rel => exact ⟨k + 1, by omega, .inr (by omega), by rw [Nat.add_sub_cancel, ← HW.out]; rfl, by go_num, grew HBW.out (by with_reducible assumption)⟩
      case measure => simp [intOf]; omega
    · go_wp2
      go_ret
      have e : area8 l = fanA l (k - 1) := by
        unfold area8
        rw [show l.length - 2 = k - 1 by omega]
      exact ⟨ret_int e.symm, HBW.out⟩
theorem int_cases (x : Int) (P : Prop) (h1 : x < 0 → P) (h2 : 0 ≤ x → P) : P := by
  by_cases h : x < 0
  · exact h1 h
  · exact h2 (by omega)
set_option maxHeartbeats 2000000 in
theorem l8Steps_c (ax ay bx b_y : Int) (w : World) (hx : -2000000 ≤ bx - ax ∧ bx - ax ≤ 2000000) (hy : -2000000 ≤ b_y - ay ∧ b_y - ay ≤ 2000000) :
    Calls Tryd.prog 61 #[.agg #[.int .i64 ax, .int .i64 ay], .agg #[.int .i64 bx, .int .i64 b_y]] w fun e w' => e = .returned (.int .i64 (stp (ax, ay) (bx, b_y))) ∧ Below w.heap.size w w' := by
  have HS := hid (show stp (ax, ay) (bx, b_y) = (Int.gcd (bx - ax) (b_y - ay) : Nat) from rfl)
  have w1 : IntKind.i64.wrap (bx - ax) = bx - ax := by rw [IntKind.wrap_i64]; omega
  have w2 : IntKind.i64.wrap (b_y - ay) = b_y - ay := by rw [IntKind.wrap_i64]; omega
  have w3 : IntKind.i64.wrap (-(bx - ax)) = -(bx - ax) := by rw [IntKind.wrap_i64]; omega
  have w4 : IntKind.i64.wrap (-(b_y - ay)) = -(b_y - ay) := by rw [IntKind.wrap_i64]; omega
  generalize stp (ax, ay) (bx, b_y) = S at HS ⊢
  obtain ⟨dx, hdx⟩ : ∃ d, bx - ax = d := ⟨_, rfl⟩
  obtain ⟨dy, hdy⟩ : ∃ d, b_y - ay = d := ⟨_, rfl⟩
  have HS2 := HS.out
  rw [hdx, hdy] at HS2
  rw [hdx] at w1 w3 hx
  rw [hdy] at w2 w4 hy
  have HX := hid hdx
  have HY := hid hdy
  replace HS := hid HS2
  clear HS2
  have W1 : IntKind.i64.wrap (bx - ax) = dx := by rw [hdx]; exact w1
  have W2 : IntKind.i64.wrap (b_y - ay) = dy := by rw [hdy]; exact w2
  clear hdx hdy w1 w2
  have hbw : Below w.heap.size w ((w.alloc (.cells #[.int .i64 ax, .int .i64 ay] 26)).alloc (.cells #[.int .i64 bx, .int .i64 b_y] 26)) := by go_grown
  have HBW := hid hbw
  clear hbw
  by_cases h1 : dx < 0
  · by_cases h2 : dy < 0
    · go_enter Tryd.func61, Tryd.ntmps61
      go_wp2
      go_quiet (fail)
      go_wp2
      go_loopw [5, 6] (fun xx yy wr => ∃ m n : Nat, xx = .int .i64 (m : Int) ∧ yy = .int .i64 (n : Int) ∧ Nat.gcd m n = Int.gcd dx dy ∧ m ≤ 2000000 ∧ n ≤ 2000000 ∧ Below w.heap.size w wr) (fun _ yy _ => (intOf yy).toNat)
      case atStart => exact ⟨dx.natAbs, dy.natAbs, congrArg (Value.int IntKind.i64) (by omega), congrArg (Value.int IntKind.i64) (by omega), rfl, by omega, by omega, grew HBW.out (drewN_below _ _)⟩
      case round =>
        obtain ⟨m, n, rfl, rfl, hg, hm, hn, hbw⟩ := hrel
        by_cases h0 : 0 < n
        · have hr : (m : Int) % (n : Int) = ((m % n : Nat) : Int) := by simp
          have hlt := Nat.mod_lt m h0
          have HG := hid ((gcd_nstep m n h0).trans hg)
          have hle : m % n ≤ 2000000 := by omega
          generalize m % n = r at hr hlt HG hle
          go_wp2
          go_roundw
          case rel => exact ⟨n, r, rfl, by go_num, HG.out, hn, hle, by first | assumption | go_grown⟩
          case measure => simp [intOf]; omega
        · obtain rfl : n = 0 := by omega
          have e : S = (m : Int) := by rw [HS.out, ← hg, Nat.gcd_zero_right]
          go_wp2
          go_ret
          exact ⟨ret_int e.symm, hbw⟩
    · go_enter Tryd.func61, Tryd.ntmps61
      go_wp2
      go_quiet (fail)
      go_wp2
      go_loopw [5, 6] (fun xx yy wr => ∃ m n : Nat, xx = .int .i64 (m : Int) ∧ yy = .int .i64 (n : Int) ∧ Nat.gcd m n = Int.gcd dx dy ∧ m ≤ 2000000 ∧ n ≤ 2000000 ∧ Below w.heap.size w wr) (fun _ yy _ => (intOf yy).toNat)
      case atStart => exact ⟨dx.natAbs, dy.natAbs, congrArg (Value.int IntKind.i64) (by omega), congrArg (Value.int IntKind.i64) (by omega), rfl, by omega, by omega, grew HBW.out (drewN_below _ _)⟩
      case round =>
        obtain ⟨m, n, rfl, rfl, hg, hm, hn, hbw⟩ := hrel
        by_cases h0 : 0 < n
        · have hr : (m : Int) % (n : Int) = ((m % n : Nat) : Int) := by simp
          have hlt := Nat.mod_lt m h0
          have HG := hid ((gcd_nstep m n h0).trans hg)
          have hle : m % n ≤ 2000000 := by omega
          generalize m % n = r at hr hlt HG hle
          go_wp2
          go_roundw
          case rel => exact ⟨n, r, rfl, by go_num, HG.out, hn, hle, by first | assumption | go_grown⟩
          case measure => simp [intOf]; omega
        · obtain rfl : n = 0 := by omega
          have e : S = (m : Int) := by rw [HS.out, ← hg, Nat.gcd_zero_right]
          go_wp2
          go_ret
          exact ⟨ret_int e.symm, hbw⟩
  · by_cases h2 : dy < 0
    · go_enter Tryd.func61, Tryd.ntmps61
      go_wp2
      go_quiet (fail)
      go_wp2
      go_loopw [5, 6] (fun xx yy wr => ∃ m n : Nat, xx = .int .i64 (m : Int) ∧ yy = .int .i64 (n : Int) ∧ Nat.gcd m n = Int.gcd dx dy ∧ m ≤ 2000000 ∧ n ≤ 2000000 ∧ Below w.heap.size w wr) (fun _ yy _ => (intOf yy).toNat)
      case atStart => exact ⟨dx.natAbs, dy.natAbs, congrArg (Value.int IntKind.i64) (by omega), congrArg (Value.int IntKind.i64) (by omega), rfl, by omega, by omega, grew HBW.out (drewN_below _ _)⟩
      case round =>
        obtain ⟨m, n, rfl, rfl, hg, hm, hn, hbw⟩ := hrel
        by_cases h0 : 0 < n
        · have hr : (m : Int) % (n : Int) = ((m % n : Nat) : Int) := by simp
          have hlt := Nat.mod_lt m h0
          have HG := hid ((gcd_nstep m n h0).trans hg)
          have hle : m % n ≤ 2000000 := by omega
          generalize m % n = r at hr hlt HG hle
          go_wp2
          go_roundw
          case rel => exact ⟨n, r, rfl, by go_num, HG.out, hn, hle, by first | assumption | go_grown⟩
          case measure => simp [intOf]; omega
        · obtain rfl : n = 0 := by omega
          have e : S = (m : Int) := by rw [HS.out, ← hg, Nat.gcd_zero_right]
          go_wp2
          go_ret
          exact ⟨ret_int e.symm, hbw⟩
    · go_enter Tryd.func61, Tryd.ntmps61
      go_wp2
      go_quiet (fail)
      go_wp2
      go_loopw [5, 6] (fun xx yy wr => ∃ m n : Nat, xx = .int .i64 (m : Int) ∧ yy = .int .i64 (n : Int) ∧ Nat.gcd m n = Int.gcd dx dy ∧ m ≤ 2000000 ∧ n ≤ 2000000 ∧ Below w.heap.size w wr) (fun _ yy _ => (intOf yy).toNat)
      case atStart => exact ⟨dx.natAbs, dy.natAbs, congrArg (Value.int IntKind.i64) (by omega), congrArg (Value.int IntKind.i64) (by omega), rfl, by omega, by omega, grew HBW.out (drewN_below _ _)⟩
      case round =>
        obtain ⟨m, n, rfl, rfl, hg, hm, hn, hbw⟩ := hrel
        by_cases h0 : 0 < n
        · have hr : (m : Int) % (n : Int) = ((m % n : Nat) : Int) := by simp
          have hlt := Nat.mod_lt m h0
          have HG := hid ((gcd_nstep m n h0).trans hg)
          have hle : m % n ≤ 2000000 := by omega
          generalize m % n = r at hr hlt HG hle
          go_wp2
          go_roundw
          case rel => exact ⟨n, r, rfl, by go_num, HG.out, hn, hle, by first | assumption | go_grown⟩
          case measure => simp [intOf]; omega
        · obtain rfl : n = 0 := by omega
          have e : S = (m : Int) := by rw [HS.out, ← hg, Nat.gcd_zero_right]
          go_wp2
          go_ret
          exact ⟨ret_int e.symm, hbw⟩
theorem stp_d {l : List (Int × Int)} (H : allG l) {i j : Nat} (hi : i < l.length) (hj : j < l.length) : (-2000000 ≤ px l j - px l i ∧ px l j - px l i ≤ 2000000) ∧ (-2000000 ≤ py l j - py l i ∧ py l j - py l i ≤ 2000000) := by
  have h1 := goodB_r (H _ (pt_mem hi))
  have h2 := goodB_r (H _ (pt_mem hj))
  simp only [pt] at h1 h2
  omega
set_option maxHeartbeats 4000000 in
theorem l8Rim_c (l : List (Int × Int)) (a : Option Addr) (len cap : Nat) (w : World) (hl : l.length = len) (h60 : len ≤ 60) (hA : At w.heap.size a l w) (hG : allG l) :
    Calls Tryd.prog 63 #[.slice a len cap] w fun e w' => e = .returned (.int .i64 (rim8 l)) ∧ Below w.heap.size w w' := by
  subst hl
  have HA := hid hA
  have HG := hid hG
  clear hA hG
  by_cases e0 : l.length = 0
  · have e : rim8 l = 0 := by unfold rim8; rw [if_pos e0]
    have z : ((l.length : Int) == 0) = true := by simp [e0]
    have zz : (l.length : Int) = 0 := by omega
    have E := hid e
    clear e e0
    go_enter Tryd.func63, Tryd.ntmps63
    go_wp2
    go_ret
    exact ⟨ret_int (by rw [E.out]), Below.refl _ _⟩
  by_cases e1 : l.length = 1
  · have e : rim8 l = 1 := by unfold rim8; rw [if_neg e0, if_pos e1]
    have z : ((l.length : Int) == 1) = true := by simp [e1]
    have z0 : ((l.length : Int) == 0) = false := by simp [e0]
    have zz : (l.length : Int) = 1 := by omega
    have E := hid e
    have ZZ := hid zz
    clear e e0 e1 zz
    go_enter Tryd.func63, Tryd.ntmps63
    go_wp2
    go_ret
    exact ⟨ret_int (by rw [E.out]; exact ZZ.out), Below.refl _ _⟩
  by_cases e2 : l.length = 2
  · have e : rim8 l = stp (pt l 0) (pt l 1) + 1 := by unfold rim8; rw [if_neg e0, if_neg e1, if_pos e2]
    have z : ((l.length : Int) == 2) = true := by simp [e2]
    have z0 : ((l.length : Int) == 0) = false := by simp [e0]
    have z1 : ((l.length : Int) == 1) = false := by simp; omega
    have E := hid e
    obtain ⟨HD1, HD2⟩ := stp_d HG.out (i := 0) (j := 1) (by omega) (by omega)
    have hs := stp_small (HG.out _ (pt_mem (l := l) (i := 0) (by omega))) (HG.out _ (pt_mem (l := l) (i := 1) (by omega)))
    have hn := stp_nn (pt l 0) (pt l 1)
    have HW := hid (show IntKind.i64.wrap (stp (pt l 0) (pt l 1) + 1) = rim8 l by rw [IntKind.wrap_i64, e]; omega)
    obtain ⟨b, off, rfl, hbN, q0, q1⟩ := HA.out 0 (by omega)
    obtain ⟨b1, off1, ee1, _, q2, q3⟩ := HA.out 1 (by omega)
    obtain ⟨rfl, rfl⟩ : b = b1 ∧ off = off1 := by simpa using ee1
    simp only [Nat.zero_mul, Nat.add_zero, Nat.one_mul] at q0 q1 q2 q3
    have n0 : 0 < l.length := by omega
    have n1 : (1 : Int) < (l.length : Int) := by omega
    clear e e0 e1 e2 hs hn ee1
    go_enter Tryd.func63, Tryd.ntmps63
    go_upto_region 6 with fail
    refine wp_region_held_drew (S := (fun u => Below w.heap.size w u)) (by kernel_rfl) ?_ (fun hHeld => ?_)
    · exact (Below.refl _ _).drew
    refine wpAnyH_take (i := 0) (oi := { dst := some 15, op := Op.move (Operand.tmp 0), type := 24, pos := "l8_area.go:48", after := #[], guard := none }) (v := ?v18yx0) rfl (by kernel_rfl) (by kernel_rfl) (by kernel_rfl) (fun _ _ _ h => h) (Or.inl ⟨by rfl, ?hy18yx0⟩) (by with_reducible assumption) ?rest18yx0
    case hy18yx0 => (intro wS hSw; (try dsimp only at hSw); have z0 := cell_later hSw q0; have z1 := cell_later hSw q1; have z2 := cell_later hSw q2; have z3 := cell_later hSw q3; clear hSw; go_simp; try with_reducible rfl)
    case' rest18yx0 => (try simp only [Act.put, List.setIfInBounds_toArray, List.set_cons_zero, List.set_cons_succ])
    refine wpAnyH_take (i := 1) (oi := { dst := some 16, op := Op.indexAddr 24 (Operand.tmp 15) (Operand.const (Value.int IntKind.i64 0)), type := 0, pos := "l8_area.go:48", after := #[{ on := 0, ground := Ground.data }], guard := none }) (v := ?v19yx1) rfl (by kernel_rfl) (by kernel_rfl) (by kernel_rfl) (fun _ _ _ h => h) (Or.inl ⟨by rfl, ?hy19yx1⟩) (by with_reducible assumption) ?rest19yx1
    case hy19yx1 => (intro wS hSw; (try dsimp only at hSw); have z0 := cell_later hSw q0; have z1 := cell_later hSw q1; have z2 := cell_later hSw q2; have z3 := cell_later hSw q3; clear hSw; go_simp; try with_reducible rfl)
    case' rest19yx1 => (try simp only [Act.put, List.setIfInBounds_toArray, List.set_cons_zero, List.set_cons_succ])
    refine wpAnyH_take (i := 2) (oi := { dst := some 17, op := Op.load 26 (Operand.tmp 16), type := 26, pos := "l8_area.go:48", after := #[{ on := 1, ground := Ground.data }], guard := none }) (v := ?v20yx2) rfl (by kernel_rfl) (by kernel_rfl) (by kernel_rfl) (fun _ _ _ h => h) (Or.inl ⟨by rfl, ?hy20yx2⟩) (by with_reducible assumption) ?rest20yx2
    case hy20yx2 => (intro wS hSw; (try dsimp only at hSw); have z0 := cell_later hSw q0; have z1 := cell_later hSw q1; have z2 := cell_later hSw q2; have z3 := cell_later hSw q3; clear hSw; go_simp; try with_reducible rfl)
    case' rest20yx2 => (try simp only [Act.put, List.setIfInBounds_toArray, List.set_cons_zero, List.set_cons_succ])
    refine wpAnyH_take (i := 3) (oi := { dst := some 18, op := Op.move (Operand.tmp 0), type := 24, pos := "l8_area.go:48", after := #[], guard := none }) (v := ?v21yx3) rfl (by kernel_rfl) (by kernel_rfl) (by kernel_rfl) (fun _ _ _ h => h) (Or.inl ⟨by rfl, ?hy21yx3⟩) (by with_reducible assumption) ?rest21yx3
    case hy21yx3 => (intro wS hSw; (try dsimp only at hSw); have z0 := cell_later hSw q0; have z1 := cell_later hSw q1; have z2 := cell_later hSw q2; have z3 := cell_later hSw q3; clear hSw; go_simp; try with_reducible rfl)
    case' rest21yx3 => (try simp only [Act.put, List.setIfInBounds_toArray, List.set_cons_zero, List.set_cons_succ])
    refine wpAnyH_take (i := 4) (oi := { dst := some 19, op := Op.indexAddr 24 (Operand.tmp 18) (Operand.const (Value.int IntKind.i64 1)), type := 0, pos := "l8_area.go:48", after := #[{ on := 3, ground := Ground.data }], guard := none }) (v := ?v22yx4) rfl (by kernel_rfl) (by kernel_rfl) (by kernel_rfl) (fun _ _ _ h => h) (Or.inl ⟨by rfl, ?hy22yx4⟩) (by with_reducible assumption) ?rest22yx4
    case hy22yx4 => (intro wS hSw; (try dsimp only at hSw); have z0 := cell_later hSw q0; have z1 := cell_later hSw q1; have z2 := cell_later hSw q2; have z3 := cell_later hSw q3; clear hSw; go_simp; try with_reducible rfl)
    case' rest22yx4 => (try simp only [Act.put, List.setIfInBounds_toArray, List.set_cons_zero, List.set_cons_succ])
    refine wpAnyH_take (i := 5) (oi := { dst := some 20, op := Op.load 26 (Operand.tmp 19), type := 26, pos := "l8_area.go:48", after := #[{ on := 4, ground := Ground.data }], guard := none }) (v := ?v23yx5) rfl (by kernel_rfl) (by kernel_rfl) (by kernel_rfl) (fun _ _ _ h => h) (Or.inl ⟨by rfl, ?hy23yx5⟩) (by with_reducible assumption) ?rest23yx5
    case hy23yx5 => (intro wS hSw; (try dsimp only at hSw); have z0 := cell_later hSw q0; have z1 := cell_later hSw q1; have z2 := cell_later hSw q2; have z3 := cell_later hSw q3; clear hSw; go_simp; try with_reducible rfl)
    case' rest23yx5 => (try simp only [Act.put, List.setIfInBounds_toArray, List.set_cons_zero, List.set_cons_succ])
    refine wpAnyH_ready (rs := [6]) (by kernel_rfl) (by simp) ?_
    refine AllReadyH.cons (o := { dst := some 21, op := Op.call { callee := Callee.value (Operand.func 61), args := #[Operand.tmp 17, Operand.tmp 20], argTypes := #[26, 26] }, type := 3, pos := "l8_area.go:48", after := #[{ on := 2, ground := Ground.data }, { on := 5, ground := Ground.data }], guard := none }) rfl (fun K hK => ?_) AllReadyH.nil
    go_simp
    refine (l8Steps_c _ _ _ _ _ HD1 HD2).mono ?_
    rintro e w1 ⟨rfl, hb1⟩
    go_wp2_with fail
    refine hK.out _ _ ?_ (fun hHeld => ?_)
    · exact grew (by with_reducible assumption) hb1
    clear hK K
    try simp only [Act.put, List.setIfInBounds_toArray, List.set_cons_zero, List.set_cons_succ]
    refine wpAnyH_take (i := 7) (oi := { dst := some 22, op := Op.binOp BinOp.add 3 (Operand.tmp 21) (Operand.const (Value.int IntKind.i64 1)) 3, type := 3, pos := "l8_area.go:48", after := #[{ on := 6, ground := Ground.data }], guard := none }) (v := ?v24yx7) rfl (by kernel_rfl) (by kernel_rfl) (by kernel_rfl) (fun _ _ _ h => h) (Or.inl ⟨by rfl, ?hy24yx7⟩) (by with_reducible assumption) ?rest24yx7
    case hy24yx7 => (intro wS hSw; (try dsimp only at hSw); have z0 := cell_later hSw q0; have z1 := cell_later hSw q1; have z2 := cell_later hSw q2; have z3 := cell_later hSw q3; clear hSw; go_simp; try with_reducible rfl)
    case' rest24yx7 => (try simp only [Act.put, List.setIfInBounds_toArray, List.set_cons_zero, List.set_cons_succ])
    refine wpAnyH_take (i := 8) (oi := { dst := some 2, op := Op.assign (Operand.tmp 22), type := 3, pos := "l8_area.go:48", after := #[{ on := 7, ground := Ground.data }, { on := 6, ground := Ground.chain }, { on := 0, ground := Ground.phase }, { on := 1, ground := Ground.phase }, { on := 2, ground := Ground.phase }, { on := 3, ground := Ground.phase }, { on := 4, ground := Ground.phase }, { on := 5, ground := Ground.phase }, { on := 6, ground := Ground.phase }, { on := 7, ground := Ground.phase }], guard := none }) (v := ?v25yx8) rfl (by kernel_rfl) (by kernel_rfl) (by kernel_rfl) (fun _ _ _ h => h) (Or.inl ⟨by rfl, ?hy25yx8⟩) (by with_reducible assumption) ?rest25yx8
    case hy25yx8 => (intro wS hSw; (try dsimp only at hSw); have z0 := cell_later hSw q0; have z1 := cell_later hSw q1; have z2 := cell_later hSw q2; have z3 := cell_later hSw q3; clear hSw; go_simp; try with_reducible rfl)
    case' rest25yx8 => (try simp only [Act.put, List.setIfInBounds_toArray, List.set_cons_zero, List.set_cons_succ])
    refine wpAnyH_done (by kernel_rfl) ?_ _
    go_wp2
    go_ret
    exact ⟨ret_int HW.out, by with_reducible assumption⟩
  have e : rim8 l = rimT l l.length := by unfold rim8; rw [if_neg e0, if_neg e1, if_neg e2]
  have z0 : ((l.length : Int) == 0) = false := by simp [e0]
  have z1 : ((l.length : Int) == 1) = false := by simp; omega
  have z2 : ((l.length : Int) == 2) = false := by simp; omega
  have E := hid e
  have H3 := hid (show 3 ≤ l.length by omega)
  clear e e0 e1 e2
  go_enter Tryd.func63, Tryd.ntmps63
  go_wp2
  go_loopw [3, 25] (fun o i wr => ∃ k : Nat, k ≤ l.length ∧ o = .int .i64 (rimT l k) ∧ i = .int .i64 (k : Int) ∧ Below w.heap.size w wr) (fun _ i _ => l.length - (intOf i).toNat)
  case atStart => exact ⟨0, Nat.zero_le _, rfl, rfl, by go_grown⟩
  case round =>
    obtain ⟨k, hk, rfl, rfl, hbw⟩ := hrel
    have HBW := hid hbw
    by_cases hkl : k < l.length
    · obtain ⟨m, hmm⟩ : ∃ m, (k + 1) % l.length = m := ⟨_, rfl⟩
      have hm : m < l.length := by rw [← hmm]; exact Nat.mod_lt _ (by omega)
      have hc := mod_up (k := k) (n := l.length) hmm
      have hs := stp_small (HG.out _ (pt_mem (l := l) (i := k) hkl)) (HG.out _ (pt_mem (l := l) (i := m) hm))
      have hn := stp_nn (pt l k) (pt l m)
      have hr := rimT_small HG.out k hk
      have HW := hid (show IntKind.i64.wrap (rimT l k + stp (pt l k) (pt l m)) = rimT l (k + 1) by
        have : rimT l (k + 1) = rimT l k + stp (pt l k) (pt l m) := by rw [← hmm]; rfl
        rw [IntKind.wrap_i64, this]; omega)
      obtain ⟨HD1, HD2⟩ := stp_d HG.out hkl hm
      obtain ⟨b, off, rfl, hbN, g0, g1⟩ := HA.out k hkl
      obtain ⟨b1, off1, ee1, _, g2, g3⟩ := HA.out m hm
      obtain ⟨rfl, rfl⟩ : b = b1 ∧ off = off1 := by simpa using ee1
      have q0 := cell_later hbw g0
      have q1 := cell_later hbw g1
      have g2 := cell_later hbw g2
      have g3 := cell_later hbw g3
      have m0 : (0 : Int) ≤ (m : Int) := by omega
      have m1 : (m : Int) < (l.length : Int) := by omega
      have hct : (IntKind.i64.wrap ((k : Int) + 1)).tmod (l.length : Int) = (m : Int) := by rw [show IntKind.i64.wrap ((k : Int) + 1) = (k : Int) + 1 by rw [IntKind.wrap_i64]; omega, Int.tmod_eq_emod_of_nonneg (by omega)]; exact hc
      have hne : ¬ l = [] := fun e => by rw [e] at hkl; exact absurd hkl (Nat.not_lt_zero _)
      generalize rimT l k = F at HW ⊢
      clear g0 g1 hs hn hr ee1 hmm
      go_upto_region 11 with fail
      have hbp : Below wr.heap.size wr (wr.alloc (.cells #[.int .i64 (px l k), .int .i64 (py l k)] 26)) := by go_grown
      have k0 := box0 wr (px l k) (py l k) 26
      have k1 := box1 wr (px l k) (py l k) 26
      have q2 := cell_later hbp g2
      have q3 := cell_later hbp g3
      replace HBW := hid (grew HBW.out hbp)
      generalize wr.alloc (.cells #[.int .i64 (px l k), .int .i64 (py l k)] 26) = wp at k0 k1 q2 q3 HBW ⊢
      generalize wr.heap.size = B at k0 k1 ⊢
      clear q0 q1 g2 g3 hbp hbw
      refine wp_region_held_drew (S := (fun u => Below wp.heap.size wp u)) (by kernel_rfl) ?_ (fun hHeld => ?_)
      · exact (Below.refl _ _).drew
      refine wpAnyH_take (i := 0) (oi := { dst := some 30, op := Op.move (Operand.tmp 3), type := 3, pos := "l8_area.go:52", after := #[], guard := none }) (v := ?v27yx0) rfl (by kernel_rfl) (by kernel_rfl) (by kernel_rfl) (fun _ _ _ h => h) (Or.inl ⟨by rfl, ?hy27yx0⟩) (by with_reducible assumption) ?rest27yx0
      case hy27yx0 => (intro wS hSw; (try dsimp only at hSw); have z0 := cell_later hSw k0; have z1 := cell_later hSw k1; have z2 := cell_later hSw q2; have z3 := cell_later hSw q3; clear hSw; go_simp; try with_reducible rfl)
      case' rest27yx0 => (try simp only [Act.put, List.setIfInBounds_toArray, List.set_cons_zero, List.set_cons_succ])
      refine wpAnyH_take (i := 1) (oi := { dst := some 31, op := Op.load 26 (Operand.tmp 5), type := 26, pos := "l8_area.go:52", after := #[], guard := none }) (v := ?v28yx1) rfl (by kernel_rfl) (by kernel_rfl) (by kernel_rfl) (fun _ _ _ h => h) (Or.inl ⟨by rfl, ?hy28yx1⟩) (by with_reducible assumption) ?rest28yx1
      case hy28yx1 => (intro wS hSw; (try dsimp only at hSw); have z0 := cell_later hSw k0; have z1 := cell_later hSw k1; have z2 := cell_later hSw q2; have z3 := cell_later hSw q3; clear hSw; go_simp; try with_reducible rfl)
      case' rest28yx1 => (try simp only [Act.put, List.setIfInBounds_toArray, List.set_cons_zero, List.set_cons_succ])
      refine wpAnyH_take (i := 2) (oi := { dst := some 32, op := Op.move (Operand.tmp 0), type := 24, pos := "l8_area.go:52", after := #[], guard := none }) (v := ?v29yx2) rfl (by kernel_rfl) (by kernel_rfl) (by kernel_rfl) (fun _ _ _ h => h) (Or.inl ⟨by rfl, ?hy29yx2⟩) (by with_reducible assumption) ?rest29yx2
      case hy29yx2 => (intro wS hSw; (try dsimp only at hSw); have z0 := cell_later hSw k0; have z1 := cell_later hSw k1; have z2 := cell_later hSw q2; have z3 := cell_later hSw q3; clear hSw; go_simp; try with_reducible rfl)
      case' rest29yx2 => (try simp only [Act.put, List.setIfInBounds_toArray, List.set_cons_zero, List.set_cons_succ])
      refine wpAnyH_take (i := 3) (oi := { dst := some 33, op := Op.move (Operand.tmp 4), type := 3, pos := "l8_area.go:52", after := #[], guard := none }) (v := ?v30yx3) rfl (by kernel_rfl) (by kernel_rfl) (by kernel_rfl) (fun _ _ _ h => h) (Or.inl ⟨by rfl, ?hy30yx3⟩) (by with_reducible assumption) ?rest30yx3
      case hy30yx3 => (intro wS hSw; (try dsimp only at hSw); have z0 := cell_later hSw k0; have z1 := cell_later hSw k1; have z2 := cell_later hSw q2; have z3 := cell_later hSw q3; clear hSw; go_simp; try with_reducible rfl)
      case' rest30yx3 => (try simp only [Act.put, List.setIfInBounds_toArray, List.set_cons_zero, List.set_cons_succ])
      refine wpAnyH_take (i := 4) (oi := { dst := some 34, op := Op.binOp BinOp.add 3 (Operand.tmp 33) (Operand.const (Value.int IntKind.i64 1)) 3, type := 3, pos := "l8_area.go:52", after := #[{ on := 3, ground := Ground.data }], guard := none }) (v := ?v31yx4) rfl (by kernel_rfl) (by kernel_rfl) (by kernel_rfl) (fun _ _ _ h => h) (Or.inl ⟨by rfl, ?hy31yx4⟩) (by with_reducible assumption) ?rest31yx4
      case hy31yx4 => (intro wS hSw; (try dsimp only at hSw); have z0 := cell_later hSw k0; have z1 := cell_later hSw k1; have z2 := cell_later hSw q2; have z3 := cell_later hSw q3; clear hSw; go_simp; try with_reducible rfl)
      case' rest31yx4 => (try simp only [Act.put, List.setIfInBounds_toArray, List.set_cons_zero, List.set_cons_succ])
      refine wpAnyH_take (i := 5) (oi := { dst := some 35, op := Op.move (Operand.tmp 0), type := 24, pos := "l8_area.go:52", after := #[], guard := none }) (v := ?v32yx5) rfl (by kernel_rfl) (by kernel_rfl) (by kernel_rfl) (fun _ _ _ h => h) (Or.inl ⟨by rfl, ?hy32yx5⟩) (by with_reducible assumption) ?rest32yx5
      case hy32yx5 => (intro wS hSw; (try dsimp only at hSw); have z0 := cell_later hSw k0; have z1 := cell_later hSw k1; have z2 := cell_later hSw q2; have z3 := cell_later hSw q3; clear hSw; go_simp; try with_reducible rfl)
      case' rest32yx5 => (try simp only [Act.put, List.setIfInBounds_toArray, List.set_cons_zero, List.set_cons_succ])
      refine wpAnyH_take (i := 6) (oi := { dst := some 36, op := Op.call { callee := Callee.builtin Builtin.len, args := #[Operand.tmp 35], argTypes := #[24] }, type := 3, pos := "l8_area.go:52", after := #[{ on := 5, ground := Ground.data }], guard := none }) (v := ?v33yx6) rfl (by kernel_rfl) (by kernel_rfl) (by kernel_rfl) (fun _ _ _ h => h) (Or.inl ⟨by rfl, ?hy33yx6⟩) (by with_reducible assumption) ?rest33yx6
      case hy33yx6 => (intro wS hSw; (try dsimp only at hSw); have z0 := cell_later hSw k0; have z1 := cell_later hSw k1; have z2 := cell_later hSw q2; have z3 := cell_later hSw q3; clear hSw; go_simp; try with_reducible rfl)
      case' rest33yx6 => (try simp only [Act.put, List.setIfInBounds_toArray, List.set_cons_zero, List.set_cons_succ])
      refine wpAnyH_take (i := 7) (oi := { dst := some 37, op := Op.binOp BinOp.rem 3 (Operand.tmp 34) (Operand.tmp 36) 3, type := 3, pos := "l8_area.go:52", after := #[{ on := 4, ground := Ground.data }, { on := 6, ground := Ground.data }], guard := none }) (v := ?v34yx7) rfl (by kernel_rfl) (by kernel_rfl) (by kernel_rfl) (fun _ _ _ h => h) (Or.inl ⟨by rfl, ?hy34yx7⟩) (by with_reducible assumption) ?rest34yx7
      case hy34yx7 => (intro wS hSw; (try dsimp only at hSw); have z0 := cell_later hSw k0; have z1 := cell_later hSw k1; have z2 := cell_later hSw q2; have z3 := cell_later hSw q3; clear hSw; go_simp; try with_reducible rfl)
      case' rest34yx7 => (try simp only [Act.put, List.setIfInBounds_toArray, List.set_cons_zero, List.set_cons_succ])
      refine wpAnyH_take (i := 8) (oi := { dst := some 38, op := Op.indexAddr 24 (Operand.tmp 32) (Operand.tmp 37), type := 0, pos := "l8_area.go:52", after := #[{ on := 2, ground := Ground.data }, { on := 7, ground := Ground.data }], guard := none }) (v := ?v35yx8) rfl (by kernel_rfl) (by kernel_rfl) (by kernel_rfl) (fun _ _ _ h => h) (Or.inl ⟨by rfl, ?hy35yx8⟩) (by with_reducible assumption) ?rest35yx8
      case hy35yx8 => (intro wS hSw; (try dsimp only at hSw); have z0 := cell_later hSw k0; have z1 := cell_later hSw k1; have z2 := cell_later hSw q2; have z3 := cell_later hSw q3; clear hSw; go_simp; try with_reducible rfl)
      case' rest35yx8 => (try simp only [Act.put, List.setIfInBounds_toArray, List.set_cons_zero, List.set_cons_succ])
      refine wpAnyH_take (i := 9) (oi := { dst := some 39, op := Op.load 26 (Operand.tmp 38), type := 26, pos := "l8_area.go:52", after := #[{ on := 8, ground := Ground.data }], guard := none }) (v := ?v36yx9) rfl (by kernel_rfl) (by kernel_rfl) (by kernel_rfl) (fun _ _ _ h => h) (Or.inl ⟨by rfl, ?hy36yx9⟩) (by with_reducible assumption) ?rest36yx9
      case hy36yx9 => (intro wS hSw; (try dsimp only at hSw); have z0 := cell_later hSw k0; have z1 := cell_later hSw k1; have z2 := cell_later hSw q2; have z3 := cell_later hSw q3; clear hSw; go_simp; try with_reducible rfl)
      case' rest36yx9 => (try simp only [Act.put, List.setIfInBounds_toArray, List.set_cons_zero, List.set_cons_succ])
      refine wpAnyH_ready (rs := [10]) (by kernel_rfl) (by simp) ?_
      refine AllReadyH.cons (o := { dst := some 40, op := Op.call { callee := Callee.value (Operand.func 61), args := #[Operand.tmp 31, Operand.tmp 39], argTypes := #[26, 26] }, type := 3, pos := "l8_area.go:52", after := #[{ on := 1, ground := Ground.data }, { on := 9, ground := Ground.data }], guard := none }) rfl (fun K hK => ?_) AllReadyH.nil
      go_simp
      refine (l8Steps_c _ _ _ _ _ HD1 HD2).mono ?_
      rintro e w1 ⟨rfl, hb1⟩
      go_wp2_with fail
      refine hK.out _ _ ?_ (fun hHeld => ?_)
      · exact grew (by with_reducible assumption) hb1
      clear hK K
      try simp only [Act.put, List.setIfInBounds_toArray, List.set_cons_zero, List.set_cons_succ]
      refine wpAnyH_take (i := 11) (oi := { dst := some 41, op := Op.binOp BinOp.add 3 (Operand.tmp 30) (Operand.tmp 40) 3, type := 3, pos := "l8_area.go:52", after := #[{ on := 0, ground := Ground.data }, { on := 10, ground := Ground.data }], guard := none }) (v := ?v37yx11) rfl (by kernel_rfl) (by kernel_rfl) (by kernel_rfl) (fun _ _ _ h => h) (Or.inl ⟨by rfl, ?hy37yx11⟩) (by with_reducible assumption) ?rest37yx11
      case hy37yx11 => (intro wS hSw; (try dsimp only at hSw); have z0 := cell_later hSw k0; have z1 := cell_later hSw k1; have z2 := cell_later hSw q2; have z3 := cell_later hSw q3; clear hSw; go_simp; try with_reducible rfl)
      case' rest37yx11 => (try simp only [Act.put, List.setIfInBounds_toArray, List.set_cons_zero, List.set_cons_succ])
      refine wpAnyH_take (i := 12) (oi := { dst := some 3, op := Op.assign (Operand.tmp 41), type := 3, pos := "l8_area.go:52", after := #[{ on := 11, ground := Ground.data }, { on := 10, ground := Ground.chain }, { on := 0, ground := Ground.phase }, { on := 1, ground := Ground.phase }, { on := 2, ground := Ground.phase }, { on := 3, ground := Ground.phase }, { on := 4, ground := Ground.phase }, { on := 5, ground := Ground.phase }, { on := 6, ground := Ground.phase }, { on := 7, ground := Ground.phase }, { on := 8, ground := Ground.phase }, { on := 9, ground := Ground.phase }, { on := 10, ground := Ground.phase }, { on := 11, ground := Ground.phase }], guard := none }) (v := ?v38yx12) rfl (by kernel_rfl) (by kernel_rfl) (by kernel_rfl) (fun _ _ _ h => h) (Or.inl ⟨by rfl, ?hy38yx12⟩) (by with_reducible assumption) ?rest38yx12
      case hy38yx12 => (intro wS hSw; (try dsimp only at hSw); have z0 := cell_later hSw k0; have z1 := cell_later hSw k1; have z2 := cell_later hSw q2; have z3 := cell_later hSw q3; clear hSw; go_simp; try with_reducible rfl)
      case' rest38yx12 => (try simp only [Act.put, List.setIfInBounds_toArray, List.set_cons_zero, List.set_cons_succ])
      refine wpAnyH_done (by kernel_rfl) ?_ _
      go_wp2
      go_roundw
      case rel => exact ⟨k + 1, by omega, by rw [← HW.out]; rfl, by go_num, grew HBW.out (by with_reducible assumption)⟩
      case measure => simp [intOf]; omega
    · have hkk : k = l.length := by omega
      have e2 : rim8 l = rimT l k := by rw [hkk]; exact E.out
      go_wp2
      go_ret
      exact ⟨ret_int e2.symm, HBW.out⟩
end Go.Proofs.YtohcllojjmhbcaaDoor
