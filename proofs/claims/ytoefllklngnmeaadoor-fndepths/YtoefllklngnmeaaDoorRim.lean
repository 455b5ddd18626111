/-
  Where a point is on a ring's rim, as the program finds it (contracts for the walks).
  Conditions: as each theorem states them.
-/
import Derived.Test.YtoefllklngnmeaaDoorNxt
import Derived.Test.YtoefllklngnmeaaDoorB1
import Derived.Deep.DeepCutAuto
namespace Go.Proofs.YtoefllklngnmeaaDoor
open Go.RowKit Go.Shelf
set_option linter.unusedVariables false
theorem ret_ib' {a b : Int} {c d : Bool} (h : a = b) (k : c = d) : Ending.returned (.tuple #[.int .i64 a, .bool c]) = .returned (.tuple #[.int .i64 b, .bool d]) := by rw [h, k]
def NoTo (f : Nat → Bool) (k : Nat) : Prop := ∀ i, i < k → f i = false
theorem NoTo.succ {f : Nat → Bool} {k : Nat} (h : NoTo f k) (e : f k = false) : NoTo f (k + 1) := fun i hi => by
  by_cases hk : i = k
  · subst hk; exact e
  · exact h i (by omega)
set_option maxHeartbeats 4000000 in
set_option maxRecDepth 8000 in
theorem rimAtImpl_c (l : List (Int × Int)) (qx qy : Int) (a : Option Addr) (len cap : Nat) (w : World) (hl : l.length = len) (h1 : len ≤ 1048576) (hA : At w.heap.size a l w) (c0 : w.cell? ⟨0, 0, none⟩ = some (.int .i64 1000000)) :
    Calls Tryd.prog 84 #[.slice a len cap, .agg #[.int .i64 qx, .int .i64 qy]] w fun e w' => e = .returned (.tuple #[.int .i64 (rimV l (qx, qy)), .bool (onI l (qx, qy))]) ∧ Below w.heap.size w w' := by
  subst hl
  have HA := hid hA
  have C0 := hid c0
  clear hA c0
  go_enter Tryd.func84, Tryd.ntmps84
  go_wp2
  go_loopw [10] (fun i wr => ∃ k : Nat, k ≤ l.length ∧ i = .int .i64 k ∧ NoTo (sideT btB l (qx, qy)) k ∧ wr.cell? ⟨w.heap.size, 0, none⟩ = some (.int .i64 qx) ∧ wr.cell? ⟨w.heap.size, 1, none⟩ = some (.int .i64 qy) ∧ Below w.heap.size w wr) (fun i _ => l.length - (intOf i).toNat)
  case atStart => exact ⟨0, Nat.zero_le _, rfl, fun i hi => absurd hi (Nat.not_lt_zero _), box0 _ _ _ _, box1 _ _ _ _, by go_grown⟩
  case round =>
    obtain ⟨k, hk, rfl, hC, r0, r1, hbw⟩ := hrel
    have HC := hid hC
    clear hC
    by_cases hkl : k < l.length
    · obtain ⟨b, off, rfl, hbN, g0, g1⟩ := HA.out k hkl
      have q0 := cell_later hbw g0
      have q1 := cell_later hbw g1
      clear g0 g1
      have k0 := box0 wr (px l k) (py l k) 30
      have k1 := box1 wr (px l k) (py l k) 30
      have hbX : Below wr.heap.size wr (wr.alloc (.cells #[.int .i64 (px l k), .int .i64 (py l k)] 30)) := by go_grown
      have k2 := cell_later hbX r0
      have k3 := cell_later hbX r1
      have HBX := hid (grew hbw hbX)
      have HBW := hid hbw
      clear hbw
      cases hE : btB (px l k, py l k) (px l ((k + 1) % l.length), py l ((k + 1) % l.length)) (qx, qy)
      all_goals go_wp2
      all_goals clear q0 q1 r0 r1 hbX
      all_goals generalize wr.alloc (.cells #[.int .i64 (px l k), .int .i64 (py l k)] 30) = wX at k0 k1 k2 k3 HBX ⊢
      · refine wp_region_held_drew (S := (fun u => Below wX.heap.size wX u)) (by kernel_rfl) ?_ (fun hHeld => ?_)
        · exact (Below.refl _ _).drew
        refine wpAnyH_take (i := 0) (oi := { dst := some 15, op := Op.load 30 (Operand.tmp 7), type := 30, pos := "l4_inside.go:135", after := #[], guard := none }) (v := ?v1rx0) rfl (by kernel_rfl) (by kernel_rfl) (by kernel_rfl) (fun _ _ _ h => h) (Or.inl ⟨by rfl, ?hy1rx0⟩) (by with_reducible assumption) ?rest1rx0
        case hy1rx0 => (intro wS hSw; (try dsimp only at hSw); have z0 := cell_later hSw k0; have z1 := cell_later hSw k1; have z2 := cell_later hSw k2; have z3 := cell_later hSw k3; clear hSw; go_simp; try with_reducible rfl)
        case' rest1rx0 => (try simp only [Act.put, List.setIfInBounds_toArray, List.set_cons_zero, List.set_cons_succ])
        refine wpAnyH_take (i := 1) (oi := { dst := some 16, op := Op.move (Operand.tmp 0), type := 28, pos := "l4_inside.go:135", after := #[], guard := none }) (v := ?v1rx1) rfl (by kernel_rfl) (by kernel_rfl) (by kernel_rfl) (fun _ _ _ h => h) (Or.inl ⟨by rfl, ?hy1rx1⟩) (by with_reducible assumption) ?rest1rx1
        case hy1rx1 => (intro wS hSw; (try dsimp only at hSw); have z0 := cell_later hSw k0; have z1 := cell_later hSw k1; have z2 := cell_later hSw k2; have z3 := cell_later hSw k3; clear hSw; go_simp; try with_reducible rfl)
        case' rest1rx1 => (try simp only [Act.put, List.setIfInBounds_toArray, List.set_cons_zero, List.set_cons_succ])
        refine wpAnyH_take (i := 2) (oi := { dst := some 17, op := Op.move (Operand.tmp 6), type := 3, pos := "l4_inside.go:135", after := #[], guard := none }) (v := ?v1rx2) rfl (by kernel_rfl) (by kernel_rfl) (by kernel_rfl) (fun _ _ _ h => h) (Or.inl ⟨by rfl, ?hy1rx2⟩) (by with_reducible assumption) ?rest1rx2
        case hy1rx2 => (intro wS hSw; (try dsimp only at hSw); have z0 := cell_later hSw k0; have z1 := cell_later hSw k1; have z2 := cell_later hSw k2; have z3 := cell_later hSw k3; clear hSw; go_simp; try with_reducible rfl)
        case' rest1rx2 => (try simp only [Act.put, List.setIfInBounds_toArray, List.set_cons_zero, List.set_cons_succ])
        refine wpAnyH_take (i := 4) (oi := { dst := some 19, op := Op.load 30 (Operand.tmp 3), type := 30, pos := "l4_inside.go:135", after := #[], guard := none }) (v := ?v1rx4) rfl (by kernel_rfl) (by kernel_rfl) (by kernel_rfl) (fun _ _ _ h => h) (Or.inl ⟨by rfl, ?hy1rx4⟩) (by with_reducible assumption) ?rest1rx4
        case hy1rx4 => (intro wS hSw; (try dsimp only at hSw); have z0 := cell_later hSw k0; have z1 := cell_later hSw k1; have z2 := cell_later hSw k2; have z3 := cell_later hSw k3; clear hSw; go_simp; try with_reducible rfl)
        case' rest1rx4 => (try simp only [Act.put, List.setIfInBounds_toArray, List.set_cons_zero, List.set_cons_succ])
        refine wpAnyH_ready (rs := [3]) (by kernel_rfl) (by simp) ?_
        refine AllReadyH.cons (o := { dst := some 18, op := Op.call { callee := Callee.value (Operand.func 86), args := #[Operand.tmp 16, Operand.tmp 17], argTypes := #[28, 3] }, type := 30, pos := "l4_inside.go:135", after := #[{ on := 1, ground := Ground.data }, { on := 2, ground := Ground.data }], guard := none }) rfl (fun K hK => ?_) AllReadyH.nil
        go_simp
        refine (nextOf_c l k _ _ _ _ rfl h1 hkl ((HA.out.later (grew HBX.out (by with_reducible assumption))).mono (grew HBX.out (by with_reducible assumption)).size)).mono ?_
        rintro e w2 ⟨rfl, hb2⟩
        go_wp2_with fail
        refine hK.out _ _ ?_ (fun hHeld => ?_)
        · exact grew (by with_reducible assumption) hb2
        clear hK K
        try simp only [Act.put, List.setIfInBounds_toArray, List.set_cons_zero, List.set_cons_succ]
        refine wpAnyH_ready (rs := [5]) (by kernel_rfl) (by simp) ?_
        refine AllReadyH.cons (o := { dst := some 20, op := Op.call { callee := Callee.value (Operand.func 107), args := #[Operand.tmp 15, Operand.tmp 18, Operand.tmp 19], argTypes := #[30, 30, 30] }, type := 4, pos := "l4_inside.go:135", after := #[{ on := 0, ground := Ground.data }, { on := 3, ground := Ground.data }, { on := 4, ground := Ground.data }, { on := 3, ground := Ground.chain }], guard := none }) rfl (fun K hK => ?_) AllReadyH.nil
        go_simp
        refine (isBetween_c (px l k) (py l k) (px l ((k + 1) % l.length)) (py l ((k + 1) % l.length)) qx qy _ (cell_later (grew HBX.out (by with_reducible assumption)) C0.out)).mono ?_
        rintro e w3 ⟨rfl, hb3⟩
        go_wp2_with fail
        refine hK.out _ _ ?_ (fun hHeld => ?_)
        · exact grew (by with_reducible assumption) hb3
        clear hK K
        try simp only [Act.put, List.setIfInBounds_toArray, List.set_cons_zero, List.set_cons_succ]
        refine wpAnyH_done (by kernel_rfl) ?_ _
        have HF := hid (grew HBX.out (by with_reducible assumption))
        have f0 := cell_later hHeld k2
        have f1 := cell_later hHeld k3
        clear hHeld k0 k1 k2 k3
        go_wp2
        go_roundw
        case rel => exact ⟨k + 1, by omega, by go_num, HC.out.succ hE, f0, f1, HF.out⟩
        case measure => simp [intOf]; omega
      · refine wp_region_held_drew (S := (fun u => Below wX.heap.size wX u)) (by kernel_rfl) ?_ (fun hHeld => ?_)
        · exact (Below.refl _ _).drew
        refine wpAnyH_take (i := 0) (oi := { dst := some 15, op := Op.load 30 (Operand.tmp 7), type := 30, pos := "l4_inside.go:135", after := #[], guard := none }) (v := ?v2rx0) rfl (by kernel_rfl) (by kernel_rfl) (by kernel_rfl) (fun _ _ _ h => h) (Or.inl ⟨by rfl, ?hy2rx0⟩) (by with_reducible assumption) ?rest2rx0
        case hy2rx0 => (intro wS hSw; (try dsimp only at hSw); have z0 := cell_later hSw k0; have z1 := cell_later hSw k1; have z2 := cell_later hSw k2; have z3 := cell_later hSw k3; clear hSw; go_simp; try with_reducible rfl)
        case' rest2rx0 => (try simp only [Act.put, List.setIfInBounds_toArray, List.set_cons_zero, List.set_cons_succ])
        refine wpAnyH_take (i := 1) (oi := { dst := some 16, op := Op.move (Operand.tmp 0), type := 28, pos := "l4_inside.go:135", after := #[], guard := none }) (v := ?v2rx1) rfl (by kernel_rfl) (by kernel_rfl) (by kernel_rfl) (fun _ _ _ h => h) (Or.inl ⟨by rfl, ?hy2rx1⟩) (by with_reducible assumption) ?rest2rx1
        case hy2rx1 => (intro wS hSw; (try dsimp only at hSw); have z0 := cell_later hSw k0; have z1 := cell_later hSw k1; have z2 := cell_later hSw k2; have z3 := cell_later hSw k3; clear hSw; go_simp; try with_reducible rfl)
        case' rest2rx1 => (try simp only [Act.put, List.setIfInBounds_toArray, List.set_cons_zero, List.set_cons_succ])
        refine wpAnyH_take (i := 2) (oi := { dst := some 17, op := Op.move (Operand.tmp 6), type := 3, pos := "l4_inside.go:135", after := #[], guard := none }) (v := ?v2rx2) rfl (by kernel_rfl) (by kernel_rfl) (by kernel_rfl) (fun _ _ _ h => h) (Or.inl ⟨by rfl, ?hy2rx2⟩) (by with_reducible assumption) ?rest2rx2
        case hy2rx2 => (intro wS hSw; (try dsimp only at hSw); have z0 := cell_later hSw k0; have z1 := cell_later hSw k1; have z2 := cell_later hSw k2; have z3 := cell_later hSw k3; clear hSw; go_simp; try with_reducible rfl)
        case' rest2rx2 => (try simp only [Act.put, List.setIfInBounds_toArray, List.set_cons_zero, List.set_cons_succ])
        refine wpAnyH_take (i := 4) (oi := { dst := some 19, op := Op.load 30 (Operand.tmp 3), type := 30, pos := "l4_inside.go:135", after := #[], guard := none }) (v := ?v2rx4) rfl (by kernel_rfl) (by kernel_rfl) (by kernel_rfl) (fun _ _ _ h => h) (Or.inl ⟨by rfl, ?hy2rx4⟩) (by with_reducible assumption) ?rest2rx4
        case hy2rx4 => (intro wS hSw; (try dsimp only at hSw); have z0 := cell_later hSw k0; have z1 := cell_later hSw k1; have z2 := cell_later hSw k2; have z3 := cell_later hSw k3; clear hSw; go_simp; try with_reducible rfl)
        case' rest2rx4 => (try simp only [Act.put, List.setIfInBounds_toArray, List.set_cons_zero, List.set_cons_succ])
        refine wpAnyH_ready (rs := [3]) (by kernel_rfl) (by simp) ?_
        refine AllReadyH.cons (o := { dst := some 18, op := Op.call { callee := Callee.value (Operand.func 86), args := #[Operand.tmp 16, Operand.tmp 17], argTypes := #[28, 3] }, type := 30, pos := "l4_inside.go:135", after := #[{ on := 1, ground := Ground.data }, { on := 2, ground := Ground.data }], guard := none }) rfl (fun K hK => ?_) AllReadyH.nil
        go_simp
        refine (nextOf_c l k _ _ _ _ rfl h1 hkl ((HA.out.later (grew HBX.out (by with_reducible assumption))).mono (grew HBX.out (by with_reducible assumption)).size)).mono ?_
        rintro e w2 ⟨rfl, hb2⟩
        go_wp2_with fail
        refine hK.out _ _ ?_ (fun hHeld => ?_)
        · exact grew (by with_reducible assumption) hb2
        clear hK K
        try simp only [Act.put, List.setIfInBounds_toArray, List.set_cons_zero, List.set_cons_succ]
        refine wpAnyH_ready (rs := [5]) (by kernel_rfl) (by simp) ?_
        refine AllReadyH.cons (o := { dst := some 20, op := Op.call { callee := Callee.value (Operand.func 107), args := #[Operand.tmp 15, Operand.tmp 18, Operand.tmp 19], argTypes := #[30, 30, 30] }, type := 4, pos := "l4_inside.go:135", after := #[{ on := 0, ground := Ground.data }, { on := 3, ground := Ground.data }, { on := 4, ground := Ground.data }, { on := 3, ground := Ground.chain }], guard := none }) rfl (fun K hK => ?_) AllReadyH.nil
        go_simp
        refine (isBetween_c (px l k) (py l k) (px l ((k + 1) % l.length)) (py l ((k + 1) % l.length)) qx qy _ (cell_later (grew HBX.out (by with_reducible assumption)) C0.out)).mono ?_
        rintro e w3 ⟨rfl, hb3⟩
        go_wp2_with fail
        refine hK.out _ _ ?_ (fun hHeld => ?_)
        · exact grew (by with_reducible assumption) hb3
        clear hK K
        try simp only [Act.put, List.setIfInBounds_toArray, List.set_cons_zero, List.set_cons_succ]
        refine wpAnyH_done (by kernel_rfl) ?_ _
        have HF := hid (grew HBX.out (by with_reducible assumption))
        clear hHeld k0 k1 k2 k3
        have hn : rimI l (qx, qy) = k := fstT_at HC.out hE _ hkl
        have ho : onI l (qx, qy) = true := by unfold onI; rw [hn]; exact decide_eq_true hkl
        have HN := hid hn
        have HO := hid ho
        clear hn ho
        go_wp2
        go_ret2
        exact ⟨ret_ib' (by unfold rimV; rw [HO.out, HN.out]; rfl) HO.out.symm, HF.out⟩
    · obtain rfl : k = l.length := by omega
      have hn : rimI l (qx, qy) = l.length := fstT_none _ HC.out
      have ho : onI l (qx, qy) = false := by unfold onI; rw [hn]; exact decide_eq_false (Nat.lt_irrefl _)
      have HO := hid ho
      clear hn ho
      go_wp2
      go_ret2
      exact ⟨ret_ib' (by unfold rimV; rw [HO.out]; rfl) HO.out.symm, hbw⟩
end Go.Proofs.YtoefllklngnmeaaDoor
