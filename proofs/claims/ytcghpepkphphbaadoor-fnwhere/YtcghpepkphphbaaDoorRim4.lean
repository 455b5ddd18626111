/-
  On which side of a hull a point is, as the specification has it (contracts for the walks).
  Conditions: as each theorem states them.
-/
import Derived.Test.YtcghpepkphphbaaDoorTop4
namespace Go.Proofs.YtcghpepkphphbaaDoor
open Go.RowKit Go.Shelf
set_option linter.unusedVariables false
set_option maxHeartbeats 4000000 in
set_option maxRecDepth 8000 in
theorem rimAtTopSpec_c (l : List (Int × Int)) (x y : Int) (a : Option Addr) (len cap : Nat) (w : World) (hl : l.length = len) (h1 : len ≤ 1048576) (hA : At w.heap.size a l w) :
    Calls Tryd.prog 21 #[.slice a len cap, .agg #[.int .i64 x, .int .i64 y]] w fun e w' => e = .returned (.tuple #[.int .i64 (rmV l x y), .bool (rmB l x y)]) ∧ Below w.heap.size w w' := by
  subst hl
  have HA := hid hA
  have HB := hid (show Below w.heap.size w (w.alloc (.cells #[.int .i64 x, .int .i64 y] 26)) by go_grown)
  clear hA
  cases hG : ghB l
  · have HG := hid hG
    go_enter Tryd.func21, Tryd.ntmps21
    go_wp2_with (go_at_call 46; refine (goodHullSpec_c l _ _ _ _ rfl h1 ((HA.out.later HB.out).mono HB.out.size)).mono ?_; rw [hG]; rintro e w1 ⟨rfl, hb⟩; have r0 := cell_later hb (box0 w x y 26); have r1 := cell_later hb (box1 w x y 26); have hb1 := grew HB.out hb; clear hb)
    go_ret2
    exact ⟨ret_ib (by unfold rmV rmOk whOk; rw [HG.out]; rfl) (by unfold rmB rmOk whOk; rw [HG.out]; rfl), hb1⟩
  · have HG := hid hG
    cases hP : goodB x y
    · have HP := hid hP
      go_enter Tryd.func21, Tryd.ntmps21
      go_wp2_with (first
        | (go_at_call 46; refine (goodHullSpec_c l _ _ _ _ rfl h1 ((HA.out.later HB.out).mono HB.out.size)).mono ?_; rw [hG]; rintro e w1 ⟨rfl, hb⟩; have r0 := cell_later hb (box0 w x y 26); have r1 := cell_later hb (box1 w x y 26); have hb1 := grew HB.out hb; clear hb)
        | (go_at_call 38; refine (goodSpec_e _ _ _).mono ?_; rw [hP]; rintro e w2 ⟨rfl, hb⟩; have s0 := cell_later hb r0; have s1 := cell_later hb r1; have hb2 := grew hb1 hb; clear hb r0 r1 hb1))
      go_ret2
      exact ⟨ret_ib (by unfold rmV rmOk whOk; rw [HG.out, HP.out]; rfl) (by unfold rmB rmOk whOk; rw [HG.out, HP.out]; rfl), hb2⟩
    · have HP := hid hP
      by_cases h2 : 2 ≤ l.length
      · have HK : Hid (rmOk l x y = true) := by unfold rmOk whOk; rw [hG, hP, decide_eq_true h2]; rfl
        have hd : decide ((l.length : Int) < 2) = false := decide_eq_false (by omega)
        go_enter Tryd.func21, Tryd.ntmps21
        go_wp2_with (first
          | (go_at_call 46; refine (goodHullSpec_c l _ _ _ _ rfl h1 ((HA.out.later HB.out).mono HB.out.size)).mono ?_; rw [hG]; rintro e w1 ⟨rfl, hb⟩; have r0 := cell_later hb (box0 w x y 26); have r1 := cell_later hb (box1 w x y 26); have hb1 := grew HB.out hb; clear hb)
          | (go_at_call 38; refine (goodSpec_e _ _ _).mono ?_; rw [hP]; rintro e w2 ⟨rfl, hb⟩; have s0 := cell_later hb r0; have s1 := cell_later hb r1; have hb2 := grew hb1 hb; clear hb r0 r1 hb1))
        clear hG hP
        go_loopw [23] (fun i wr => ∃ k : Nat, k ≤ l.length ∧ i = .int .i64 k ∧ NoTo (sideT onB l (x, y)) k ∧ wr.cell? ⟨w.heap.size, 0, none⟩ = some (.int .i64 x) ∧ wr.cell? ⟨w.heap.size, 1, none⟩ = some (.int .i64 y) ∧ Below w.heap.size w wr) (fun i _ => l.length - (intOf i).toNat)
        case atStart => exact ⟨0, Nat.zero_le _, rfl, fun i hi => absurd hi (Nat.not_lt_zero _), s0, s1, hb2⟩
        case round =>
          clear s0 s1 hb2
          obtain ⟨k, hk, rfl, hC, r0, r1, hbw⟩ := hrel
          have HC := hid hC
          clear hC
          by_cases hkl : k < l.length
          · have hm : (k + 1) % l.length < l.length := Nat.mod_lt _ (by omega)
            have hc := mod_up (k := k) (n := l.length) rfl
            obtain ⟨m, hmm⟩ : ∃ m, (k + 1) % l.length = m := ⟨_, rfl⟩
            have HM : sideT onB l (x, y) k = onB (px l k, py l k) (px l m, py l m) (x, y) := by rw [← hmm]; rfl
            have HM' := hid HM
            rw [hmm] at hm hc
            clear hmm HM
            have hw1 : IntKind.i64.wrap ((k : Int) + 1) = (k : Int) + 1 := by rw [IntKind.wrap_i64]; omega
            have hct : (IntKind.i64.wrap ((k : Int) + 1)).tmod (l.length : Int) = (m : Int) := by rw [hw1, Int.tmod_eq_emod_of_nonneg (by omega)]; exact hc
            have hne : ¬ l = [] := fun e => by rw [e] at hkl; exact absurd hkl (Nat.not_lt_zero _)
            clear hw1
            have m0 : (0 : Int) ≤ (m : Int) := by omega
            have m1 : (m : Int) < (l.length : Int) := by omega
            obtain ⟨b, off, rfl, hbN, g0, g1⟩ := HA.out k hkl
            obtain ⟨b', off', hb', hbN', g2, g3⟩ := HA.out m hm
            cases hb'
            have q0 := cell_later hbw g0
            have q1 := cell_later hbw g1
            have k0 := box0 wr (px l k) (py l k) 26
            have k1 := box1 wr (px l k) (py l k) 26
            have hbX : Below wr.heap.size wr (wr.alloc (.cells #[.int .i64 (px l k), .int .i64 (py l k)] 26)) := by go_grown
            have k2 := cell_later hbX r0
            have k3 := cell_later hbX r1
            have k4 := cell_later hbX (cell_later hbw g2)
            have k5 := cell_later hbX (cell_later hbw g3)
            have HBX := hid (grew hbw hbX)
            clear g0 g1 g2 g3
            clear hbw
            cases hE : onB (px l k, py l k) (px l m, py l m) (x, y)
            all_goals go_wp2
            all_goals clear q0 q1 r0 r1 hbX
            all_goals generalize wr.alloc (.cells #[.int .i64 (px l k), .int .i64 (py l k)] 26) = wX at k0 k1 k2 k3 k4 k5 HBX ⊢
            · refine wp_region_held_drew (S := (fun u => Below wX.heap.size wX u)) (by kernel_rfl) ?_ (fun hHeld => ?_)
              · exact (Below.refl _ _).drew
              refine wpAnyH_take (i := 0) (oi := { dst := some 28, op := Op.load 26 (Operand.tmp 7), type := 26, pos := "l4_inside.go:53", after := #[], guard := none }) (v := ?v1rx0) rfl (by kernel_rfl) (by kernel_rfl) (by kernel_rfl) (fun _ _ _ h => h) (Or.inl ⟨by rfl, ?hy1rx0⟩) (by with_reducible assumption) ?rest1rx0
              case hy1rx0 => (intro w hSw; (try dsimp only at hSw); have z0 := cell_later hSw k0; have z1 := cell_later hSw k1; have z2 := cell_later hSw k2; have z3 := cell_later hSw k3; have z4 := cell_later hSw k4; have z5 := cell_later hSw k5; clear hSw; go_simp; try with_reducible rfl)
              case' rest1rx0 => (try simp only [Act.put, List.setIfInBounds_toArray, List.set_cons_zero, List.set_cons_succ])
              refine wpAnyH_take (i := 1) (oi := { dst := some 29, op := Op.move (Operand.tmp 0), type := 35, pos := "l4_inside.go:53", after := #[], guard := none }) (v := ?v1rx1) rfl (by kernel_rfl) (by kernel_rfl) (by kernel_rfl) (fun _ _ _ h => h) (Or.inl ⟨by rfl, ?hy1rx1⟩) (by with_reducible assumption) ?rest1rx1
              case hy1rx1 => (intro w hSw; (try dsimp only at hSw); have z0 := cell_later hSw k0; have z1 := cell_later hSw k1; have z2 := cell_later hSw k2; have z3 := cell_later hSw k3; have z4 := cell_later hSw k4; have z5 := cell_later hSw k5; clear hSw; go_simp; try with_reducible rfl)
              case' rest1rx1 => (try simp only [Act.put, List.setIfInBounds_toArray, List.set_cons_zero, List.set_cons_succ])
              refine wpAnyH_take (i := 2) (oi := { dst := some 30, op := Op.move (Operand.tmp 6), type := 3, pos := "l4_inside.go:53", after := #[], guard := none }) (v := ?v1rx2) rfl (by kernel_rfl) (by kernel_rfl) (by kernel_rfl) (fun _ _ _ h => h) (Or.inl ⟨by rfl, ?hy1rx2⟩) (by with_reducible assumption) ?rest1rx2
              case hy1rx2 => (intro w hSw; (try dsimp only at hSw); have z0 := cell_later hSw k0; have z1 := cell_later hSw k1; have z2 := cell_later hSw k2; have z3 := cell_later hSw k3; have z4 := cell_later hSw k4; have z5 := cell_later hSw k5; clear hSw; go_simp; try with_reducible rfl)
              case' rest1rx2 => (try simp only [Act.put, List.setIfInBounds_toArray, List.set_cons_zero, List.set_cons_succ])
              refine wpAnyH_take (i := 3) (oi := { dst := some 31, op := Op.binOp BinOp.add 3 (Operand.tmp 30) (Operand.const (Value.int IntKind.i64 1)) 3, type := 3, pos := "l4_inside.go:53", after := #[{ on := 2, ground := Ground.data }], guard := none }) (v := ?v1rx3) rfl (by kernel_rfl) (by kernel_rfl) (by kernel_rfl) (fun _ _ _ h => h) (Or.inl ⟨by rfl, ?hy1rx3⟩) (by with_reducible assumption) ?rest1rx3
              case hy1rx3 => (intro w hSw; (try dsimp only at hSw); have z0 := cell_later hSw k0; have z1 := cell_later hSw k1; have z2 := cell_later hSw k2; have z3 := cell_later hSw k3; have z4 := cell_later hSw k4; have z5 := cell_later hSw k5; clear hSw; go_simp; try with_reducible rfl)
              case' rest1rx3 => (try simp only [Act.put, List.setIfInBounds_toArray, List.set_cons_zero, List.set_cons_succ])
              refine wpAnyH_take (i := 4) (oi := { dst := some 32, op := Op.move (Operand.tmp 0), type := 35, pos := "l4_inside.go:53", after := #[], guard := none }) (v := ?v1rx4) rfl (by kernel_rfl) (by kernel_rfl) (by kernel_rfl) (fun _ _ _ h => h) (Or.inl ⟨by rfl, ?hy1rx4⟩) (by with_reducible assumption) ?rest1rx4
              case hy1rx4 => (intro w hSw; (try dsimp only at hSw); have z0 := cell_later hSw k0; have z1 := cell_later hSw k1; have z2 := cell_later hSw k2; have z3 := cell_later hSw k3; have z4 := cell_later hSw k4; have z5 := cell_later hSw k5; clear hSw; go_simp; try with_reducible rfl)
              case' rest1rx4 => (try simp only [Act.put, List.setIfInBounds_toArray, List.set_cons_zero, List.set_cons_succ])
              refine wpAnyH_take (i := 5) (oi := { dst := some 33, op := Op.call { callee := Callee.builtin Builtin.len, args := #[Operand.tmp 32], argTypes := #[35] }, type := 3, pos := "l4_inside.go:53", after := #[{ on := 4, ground := Ground.data }], guard := none }) (v := ?v1rx5) rfl (by kernel_rfl) (by kernel_rfl) (by kernel_rfl) (fun _ _ _ h => h) (Or.inl ⟨by rfl, ?hy1rx5⟩) (by with_reducible assumption) ?rest1rx5
              case hy1rx5 => (intro w hSw; (try dsimp only at hSw); have z0 := cell_later hSw k0; have z1 := cell_later hSw k1; have z2 := cell_later hSw k2; have z3 := cell_later hSw k3; have z4 := cell_later hSw k4; have z5 := cell_later hSw k5; clear hSw; go_simp; try with_reducible rfl)
              case' rest1rx5 => (try simp only [Act.put, List.setIfInBounds_toArray, List.set_cons_zero, List.set_cons_succ])
              refine wpAnyH_take (i := 6) (oi := { dst := some 34, op := Op.binOp BinOp.rem 3 (Operand.tmp 31) (Operand.tmp 33) 3, type := 3, pos := "l4_inside.go:53", after := #[{ on := 3, ground := Ground.data }, { on := 5, ground := Ground.data }], guard := none }) (v := ?v1rx6) rfl (by kernel_rfl) (by kernel_rfl) (by kernel_rfl) (fun _ _ _ h => h) (Or.inl ⟨by rfl, ?hy1rx6⟩) (by with_reducible assumption) ?rest1rx6
              case hy1rx6 => (intro w hSw; (try dsimp only at hSw); have z0 := cell_later hSw k0; have z1 := cell_later hSw k1; have z2 := cell_later hSw k2; have z3 := cell_later hSw k3; have z4 := cell_later hSw k4; have z5 := cell_later hSw k5; clear hSw; go_simp; try with_reducible rfl)
              case' rest1rx6 => (try simp only [Act.put, List.setIfInBounds_toArray, List.set_cons_zero, List.set_cons_succ])
              refine wpAnyH_take (i := 7) (oi := { dst := some 35, op := Op.indexAddr 35 (Operand.tmp 29) (Operand.tmp 34), type := 0, pos := "l4_inside.go:53", after := #[{ on := 1, ground := Ground.data }, { on := 6, ground := Ground.data }], guard := none }) (v := ?v1rx7) rfl (by kernel_rfl) (by kernel_rfl) (by kernel_rfl) (fun _ _ _ h => h) (Or.inl ⟨by rfl, ?hy1rx7⟩) (by with_reducible assumption) ?rest1rx7
              case hy1rx7 => (intro w hSw; (try dsimp only at hSw); have z0 := cell_later hSw k0; have z1 := cell_later hSw k1; have z2 := cell_later hSw k2; have z3 := cell_later hSw k3; have z4 := cell_later hSw k4; have z5 := cell_later hSw k5; clear hSw; go_simp; try with_reducible rfl)
              case' rest1rx7 => (try simp only [Act.put, List.setIfInBounds_toArray, List.set_cons_zero, List.set_cons_succ])
              refine wpAnyH_take (i := 8) (oi := { dst := some 36, op := Op.load 26 (Operand.tmp 35), type := 26, pos := "l4_inside.go:53", after := #[{ on := 7, ground := Ground.data }], guard := none }) (v := ?v1rx8) rfl (by kernel_rfl) (by kernel_rfl) (by kernel_rfl) (fun _ _ _ h => h) (Or.inl ⟨by rfl, ?hy1rx8⟩) (by with_reducible assumption) ?rest1rx8
              case hy1rx8 => (intro w hSw; (try dsimp only at hSw); have z0 := cell_later hSw k0; have z1 := cell_later hSw k1; have z2 := cell_later hSw k2; have z3 := cell_later hSw k3; have z4 := cell_later hSw k4; have z5 := cell_later hSw k5; clear hSw; go_simp; try with_reducible rfl)
              case' rest1rx8 => (try simp only [Act.put, List.setIfInBounds_toArray, List.set_cons_zero, List.set_cons_succ])
              refine wpAnyH_take (i := 9) (oi := { dst := some 37, op := Op.load 26 (Operand.tmp 3), type := 26, pos := "l4_inside.go:53", after := #[], guard := none }) (v := ?v1rx9) rfl (by kernel_rfl) (by kernel_rfl) (by kernel_rfl) (fun _ _ _ h => h) (Or.inl ⟨by rfl, ?hy1rx9⟩) (by with_reducible assumption) ?rest1rx9
              case hy1rx9 => (intro w hSw; (try dsimp only at hSw); have z0 := cell_later hSw k0; have z1 := cell_later hSw k1; have z2 := cell_later hSw k2; have z3 := cell_later hSw k3; have z4 := cell_later hSw k4; have z5 := cell_later hSw k5; clear hSw; go_simp; try with_reducible rfl)
              case' rest1rx9 => (try simp only [Act.put, List.setIfInBounds_toArray, List.set_cons_zero, List.set_cons_succ])
              refine wpAnyH_ready (rs := [10]) (by kernel_rfl) (by simp) ?_
              refine AllReadyH.cons (o := { dst := some 38, op := Op.call { callee := Callee.value (Operand.func 39), args := #[Operand.tmp 28, Operand.tmp 36, Operand.tmp 37], argTypes := #[26, 26, 26] }, type := 4, pos := "l4_inside.go:53", after := #[{ on := 0, ground := Ground.data }, { on := 8, ground := Ground.data }, { on := 9, ground := Ground.data }], guard := none }) rfl (fun K hK => ?_) AllReadyH.nil
              go_simp
              refine (l4On_c (px l k) (py l k) (px l m) (py l m) x y _).mono ?_
              rintro e w4 ⟨rfl, hb4⟩
              go_wp2_with fail
              refine hK.out _ _ ?_ (fun hHeld => ?_)
              · exact grew (by with_reducible assumption) hb4
              clear hK K
              try simp only [Act.put, List.setIfInBounds_toArray, List.set_cons_zero, List.set_cons_succ]
              refine wpAnyH_done (by kernel_rfl) ?_ _
              have HF := hid (grew HBX.out (by with_reducible assumption))
              have f0 := cell_later hHeld k2
              have f1 := cell_later hHeld k3
              clear hHeld k0 k1 k2 k3 k4 k5
              go_wp2
              go_roundw
              case rel => exact ⟨k + 1, by omega, by go_num, HC.out.succ (HM'.out.trans hE), f0, f1, HF.out⟩
              case measure => simp [intOf]; omega
            · refine wp_region_held_drew (S := (fun u => Below wX.heap.size wX u)) (by kernel_rfl) ?_ (fun hHeld => ?_)
              · exact (Below.refl _ _).drew
              refine wpAnyH_take (i := 0) (oi := { dst := some 28, op := Op.load 26 (Operand.tmp 7), type := 26, pos := "l4_inside.go:53", after := #[], guard := none }) (v := ?v2rx0) rfl (by kernel_rfl) (by kernel_rfl) (by kernel_rfl) (fun _ _ _ h => h) (Or.inl ⟨by rfl, ?hy2rx0⟩) (by with_reducible assumption) ?rest2rx0
              case hy2rx0 => (intro w hSw; (try dsimp only at hSw); have z0 := cell_later hSw k0; have z1 := cell_later hSw k1; have z2 := cell_later hSw k2; have z3 := cell_later hSw k3; have z4 := cell_later hSw k4; have z5 := cell_later hSw k5; clear hSw; go_simp; try with_reducible rfl)
              case' rest2rx0 => (try simp only [Act.put, List.setIfInBounds_toArray, List.set_cons_zero, List.set_cons_succ])
              refine wpAnyH_take (i := 1) (oi := { dst := some 29, op := Op.move (Operand.tmp 0), type := 35, pos := "l4_inside.go:53", after := #[], guard := none }) (v := ?v2rx1) rfl (by kernel_rfl) (by kernel_rfl) (by kernel_rfl) (fun _ _ _ h => h) (Or.inl ⟨by rfl, ?hy2rx1⟩) (by with_reducible assumption) ?rest2rx1
              case hy2rx1 => (intro w hSw; (try dsimp only at hSw); have z0 := cell_later hSw k0; have z1 := cell_later hSw k1; have z2 := cell_later hSw k2; have z3 := cell_later hSw k3; have z4 := cell_later hSw k4; have z5 := cell_later hSw k5; clear hSw; go_simp; try with_reducible rfl)
              case' rest2rx1 => (try simp only [Act.put, List.setIfInBounds_toArray, List.set_cons_zero, List.set_cons_succ])
              refine wpAnyH_take (i := 2) (oi := { dst := some 30, op := Op.move (Operand.tmp 6), type := 3, pos := "l4_inside.go:53", after := #[], guard := none }) (v := ?v2rx2) rfl (by kernel_rfl) (by kernel_rfl) (by kernel_rfl) (fun _ _ _ h => h) (Or.inl ⟨by rfl, ?hy2rx2⟩) (by with_reducible assumption) ?rest2rx2
              case hy2rx2 => (intro w hSw; (try dsimp only at hSw); have z0 := cell_later hSw k0; have z1 := cell_later hSw k1; have z2 := cell_later hSw k2; have z3 := cell_later hSw k3; have z4 := cell_later hSw k4; have z5 := cell_later hSw k5; clear hSw; go_simp; try with_reducible rfl)
              case' rest2rx2 => (try simp only [Act.put, List.setIfInBounds_toArray, List.set_cons_zero, List.set_cons_succ])
              refine wpAnyH_take (i := 3) (oi := { dst := some 31, op := Op.binOp BinOp.add 3 (Operand.tmp 30) (Operand.const (Value.int IntKind.i64 1)) 3, type := 3, pos := "l4_inside.go:53", after := #[{ on := 2, ground := Ground.data }], guard := none }) (v := ?v2rx3) rfl (by kernel_rfl) (by kernel_rfl) (by kernel_rfl) (fun _ _ _ h => h) (Or.inl ⟨by rfl, ?hy2rx3⟩) (by with_reducible assumption) ?rest2rx3
              case hy2rx3 => (intro w hSw; (try dsimp only at hSw); have z0 := cell_later hSw k0; have z1 := cell_later hSw k1; have z2 := cell_later hSw k2; have z3 := cell_later hSw k3; have z4 := cell_later hSw k4; have z5 := cell_later hSw k5; clear hSw; go_simp; try with_reducible rfl)
              case' rest2rx3 => (try simp only [Act.put, List.setIfInBounds_toArray, List.set_cons_zero, List.set_cons_succ])
              refine wpAnyH_take (i := 4) (oi := { dst := some 32, op := Op.move (Operand.tmp 0), type := 35, pos := "l4_inside.go:53", after := #[], guard := none }) (v := ?v2rx4) rfl (by kernel_rfl) (by kernel_rfl) (by kernel_rfl) (fun _ _ _ h => h) (Or.inl ⟨by rfl, ?hy2rx4⟩) (by with_reducible assumption) ?rest2rx4
              case hy2rx4 => (intro w hSw; (try dsimp only at hSw); have z0 := cell_later hSw k0; have z1 := cell_later hSw k1; have z2 := cell_later hSw k2; have z3 := cell_later hSw k3; have z4 := cell_later hSw k4; have z5 := cell_later hSw k5; clear hSw; go_simp; try with_reducible rfl)
              case' rest2rx4 => (try simp only [Act.put, List.setIfInBounds_toArray, List.set_cons_zero, List.set_cons_succ])
              refine wpAnyH_take (i := 5) (oi := { dst := some 33, op := Op.call { callee := Callee.builtin Builtin.len, args := #[Operand.tmp 32], argTypes := #[35] }, type := 3, pos := "l4_inside.go:53", after := #[{ on := 4, ground := Ground.data }], guard := none }) (v := ?v2rx5) rfl (by kernel_rfl) (by kernel_rfl) (by kernel_rfl) (fun _ _ _ h => h) (Or.inl ⟨by rfl, ?hy2rx5⟩) (by with_reducible assumption) ?rest2rx5
              case hy2rx5 => (intro w hSw; (try dsimp only at hSw); have z0 := cell_later hSw k0; have z1 := cell_later hSw k1; have z2 := cell_later hSw k2; have z3 := cell_later hSw k3; have z4 := cell_later hSw k4; have z5 := cell_later hSw k5; clear hSw; go_simp; try with_reducible rfl)
              case' rest2rx5 => (try simp only [Act.put, List.setIfInBounds_toArray, List.set_cons_zero, List.set_cons_succ])
              refine wpAnyH_take (i := 6) (oi := { dst := some 34, op := Op.binOp BinOp.rem 3 (Operand.tmp 31) (Operand.tmp 33) 3, type := 3, pos := "l4_inside.go:53", after := #[{ on := 3, ground := Ground.data }, { on := 5, ground := Ground.data }], guard := none }) (v := ?v2rx6) rfl (by kernel_rfl) (by kernel_rfl) (by kernel_rfl) (fun _ _ _ h => h) (Or.inl ⟨by rfl, ?hy2rx6⟩) (by with_reducible assumption) ?rest2rx6
              case hy2rx6 => (intro w hSw; (try dsimp only at hSw); have z0 := cell_later hSw k0; have z1 := cell_later hSw k1; have z2 := cell_later hSw k2; have z3 := cell_later hSw k3; have z4 := cell_later hSw k4; have z5 := cell_later hSw k5; clear hSw; go_simp; try with_reducible rfl)
              case' rest2rx6 => (try simp only [Act.put, List.setIfInBounds_toArray, List.set_cons_zero, List.set_cons_succ])
              refine wpAnyH_take (i := 7) (oi := { dst := some 35, op := Op.indexAddr 35 (Operand.tmp 29) (Operand.tmp 34), type := 0, pos := "l4_inside.go:53", after := #[{ on := 1, ground := Ground.data }, { on := 6, ground := Ground.data }], guard := none }) (v := ?v2rx7) rfl (by kernel_rfl) (by kernel_rfl) (by kernel_rfl) (fun _ _ _ h => h) (Or.inl ⟨by rfl, ?hy2rx7⟩) (by with_reducible assumption) ?rest2rx7
              case hy2rx7 => (intro w hSw; (try dsimp only at hSw); have z0 := cell_later hSw k0; have z1 := cell_later hSw k1; have z2 := cell_later hSw k2; have z3 := cell_later hSw k3; have z4 := cell_later hSw k4; have z5 := cell_later hSw k5; clear hSw; go_simp; try with_reducible rfl)
              case' rest2rx7 => (try simp only [Act.put, List.setIfInBounds_toArray, List.set_cons_zero, List.set_cons_succ])
              refine wpAnyH_take (i := 8) (oi := { dst := some 36, op := Op.load 26 (Operand.tmp 35), type := 26, pos := "l4_inside.go:53", after := #[{ on := 7, ground := Ground.data }], guard := none }) (v := ?v2rx8) rfl (by kernel_rfl) (by kernel_rfl) (by kernel_rfl) (fun _ _ _ h => h) (Or.inl ⟨by rfl, ?hy2rx8⟩) (by with_reducible assumption) ?rest2rx8
              case hy2rx8 => (intro w hSw; (try dsimp only at hSw); have z0 := cell_later hSw k0; have z1 := cell_later hSw k1; have z2 := cell_later hSw k2; have z3 := cell_later hSw k3; have z4 := cell_later hSw k4; have z5 := cell_later hSw k5; clear hSw; go_simp; try with_reducible rfl)
              case' rest2rx8 => (try simp only [Act.put, List.setIfInBounds_toArray, List.set_cons_zero, List.set_cons_succ])
              refine wpAnyH_take (i := 9) (oi := { dst := some 37, op := Op.load 26 (Operand.tmp 3), type := 26, pos := "l4_inside.go:53", after := #[], guard := none }) (v := ?v2rx9) rfl (by kernel_rfl) (by kernel_rfl) (by kernel_rfl) (fun _ _ _ h => h) (Or.inl ⟨by rfl, ?hy2rx9⟩) (by with_reducible assumption) ?rest2rx9
              case hy2rx9 => (intro w hSw; (try dsimp only at hSw); have z0 := cell_later hSw k0; have z1 := cell_later hSw k1; have z2 := cell_later hSw k2; have z3 := cell_later hSw k3; have z4 := cell_later hSw k4; have z5 := cell_later hSw k5; clear hSw; go_simp; try with_reducible rfl)
              case' rest2rx9 => (try simp only [Act.put, List.setIfInBounds_toArray, List.set_cons_zero, List.set_cons_succ])
              refine wpAnyH_ready (rs := [10]) (by kernel_rfl) (by simp) ?_
              refine AllReadyH.cons (o := { dst := some 38, op := Op.call { callee := Callee.value (Operand.func 39), args := #[Operand.tmp 28, Operand.tmp 36, Operand.tmp 37], argTypes := #[26, 26, 26] }, type := 4, pos := "l4_inside.go:53", after := #[{ on := 0, ground := Ground.data }, { on := 8, ground := Ground.data }, { on := 9, ground := Ground.data }], guard := none }) rfl (fun K hK => ?_) AllReadyH.nil
              go_simp
              refine (l4On_c (px l k) (py l k) (px l m) (py l m) x y _).mono ?_
              rintro e w4 ⟨rfl, hb4⟩
              go_wp2_with fail
              refine hK.out _ _ ?_ (fun hHeld => ?_)
              · exact grew (by with_reducible assumption) hb4
              clear hK K
              try simp only [Act.put, List.setIfInBounds_toArray, List.set_cons_zero, List.set_cons_succ]
              refine wpAnyH_done (by kernel_rfl) ?_ _
              have HF := hid (grew HBX.out (by with_reducible assumption))
              clear hHeld k0 k1 k2 k3 k4 k5
              have hn : rimS l (x, y) = k := fstT_at HC.out (HM'.out.trans hE) _ hkl
              have ho : onS l (x, y) = true := by unfold onS; rw [hn]; exact decide_eq_true hkl
              have HN := hid hn
              have HO := hid ho
              clear hn ho
              go_wp2
              go_ret2
              exact ⟨ret_ib (by unfold rmV rimW; rw [HK.out, HO.out, HN.out]; rfl) (by unfold rmB; rw [HK.out, HO.out]; rfl), HF.out⟩
          · obtain rfl : k = l.length := by omega
            have hn : rimS l (x, y) = l.length := fstT_none _ HC.out
            have ho : onS l (x, y) = false := by unfold onS; rw [hn]; exact decide_eq_false (Nat.lt_irrefl _)
            have HO := hid ho
            clear hn ho
            go_wp2
            go_ret2
            exact ⟨ret_ib (by unfold rmV rimW; rw [HK.out, HO.out]; rfl) (by unfold rmB; rw [HK.out, HO.out]; rfl), hbw⟩
      · have H2 := hid h2
        have hd : decide ((l.length : Int) < 2) = true := decide_eq_true (by omega)
        go_enter Tryd.func21, Tryd.ntmps21
        go_wp2_with (first
          | (go_at_call 46; refine (goodHullSpec_c l _ _ _ _ rfl h1 ((HA.out.later HB.out).mono HB.out.size)).mono ?_; rw [hG]; rintro e w1 ⟨rfl, hb⟩; have r0 := cell_later hb (box0 w x y 26); have r1 := cell_later hb (box1 w x y 26); have hb1 := grew HB.out hb; clear hb)
          | (go_at_call 38; refine (goodSpec_e _ _ _).mono ?_; rw [hP]; rintro e w2 ⟨rfl, hb⟩; have s0 := cell_later hb r0; have s1 := cell_later hb r1; have hb2 := grew hb1 hb; clear hb r0 r1 hb1))
        go_ret2
        exact ⟨ret_ib (by unfold rmV rmOk whOk; rw [HG.out, HP.out, decide_eq_false H2.out]; rfl) (by unfold rmB rmOk whOk; rw [HG.out, HP.out, decide_eq_false H2.out]; rfl), hb2⟩
end Go.Proofs.YtcghpepkphphbaaDoor
