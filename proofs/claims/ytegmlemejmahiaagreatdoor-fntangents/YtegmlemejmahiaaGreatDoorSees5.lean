/-
  SeesFrom: the program's and the specification's (contracts for the walks).
  Conditions: as each theorem states them.
-/
import Derived.Test.YtegmlemejmahiaaGreatDoorFarMath
import Derived.Test.YtegmlemejmahiaaGreatDoorHNext
import Derived.Test.YtegmlemejmahiaaGreatDoorFInt
namespace Go.Proofs.YtegmlemejmahiaaGreatDoor
open Go.RowKit Go.Shelf
set_option linter.unusedVariables false
set_option maxRecDepth 8000
/-- From q the side from the k-th corner to the next is seen. -/
def seB (l : List (Int × Int)) (q : Int × Int) (k : Nat) : Bool := decide (sg (crossW (px l k) (py l k) (px l ((k + 1) % l.length)) (py l ((k + 1) % l.length)) q.1 q.2) < 0)
/-- The numbers below k that a test tells. -/
def seTo (f : Nat → Bool) (k : Nat) : List Int := ((List.range k).filter f).map (fun i : Nat => (i : Int))
theorem seTo_yes {f : Nat → Bool} {k : Nat} (h : f k = true) : seTo f (k + 1) = seTo f k ++ [(k : Int)] := by
  unfold seTo; rw [List.range_succ, List.filter_append, List.map_append]; simp [h]
theorem seTo_no {f : Nat → Bool} {k : Nat} (h : f k = false) : seTo f (k + 1) = seTo f k := by
  unfold seTo; rw [List.range_succ, List.filter_append, List.map_append]; simp [h]
theorem seTo_len (f : Nat → Bool) (k : Nat) : (seTo f k).length ≤ k := by
  unfold seTo; rw [List.length_map]
  exact Nat.le_trans (List.length_filter_le _ _) (by rw [List.length_range]; exact Nat.le_refl _)
def seOk (l : List (Int × Int)) (x y : Int) : Bool := ghB l && goodB x y && decide (3 ≤ l.length)
def seL (l : List (Int × Int)) (x y : Int) : List Int := if seOk l x y = true then seTo (seB l (x, y)) l.length else []
theorem seL_len (l : List (Int × Int)) (x y : Int) : (seL l x y).length ≤ l.length := by
  unfold seL; split
  · exact seTo_len _ _
  · exact Nat.zero_le _
theorem tl_se {l : List (Int × Int)} {x y : Int} (hA : allG l) (hq : goodB x y = true) {k : Nat} (hk : k < l.length) : tlB (px l ((k + 1) % l.length), py l ((k + 1) % l.length)) (px l k, py l k) (x, y) = seB l (x, y) k := by
  have g1 : gp (px l k, py l k) := hA.pt hk
  have g2 : gp (px l ((k + 1) % l.length), py l ((k + 1) % l.length)) := hA.nxt hk
  have g3 : gp (x, y) := hq
  rw [tlB_eq g2 g1 g3]
  unfold seB
  have e := crossW_eq g1 g2 g3
  rw [show crossW (px l k) (py l k) (px l ((k + 1) % l.length)) (py l ((k + 1) % l.length)) (x, y).1 (x, y).2 = sd (px l k, py l k) (px l ((k + 1) % l.length), py l ((k + 1) % l.length)) (x, y) from e, sd_swap (px l k, py l k)]
  have s := (sg_pos (sd (px l k, py l k) (px l ((k + 1) % l.length), py l ((k + 1) % l.length)) (x, y))).2.2.1
  rw [Bool.eq_iff_iff, decide_eq_true_iff, decide_eq_true_iff, s]
  omega
theorem ret_v {v u : Value} {a b : Bool} (h : v = u) (k : a = b) : Ending.returned (.tuple #[v, .bool a]) = .returned (.tuple #[u, .bool b]) := by rw [h, k]
set_option maxHeartbeats 8000000 in
theorem seesSpec_c (l : List (Int × Int)) (x y : Int) (a : Option Addr) (len cap : Nat) (w : World) (hl : l.length = len) (h1 : len ≤ 1048576) (hA : At w.heap.size a l w) :
    Calls Tryz.prog 45 #[.slice a len cap, .agg #[.int .i64 x, .int .i64 y]] w fun e w' => ∃ v, e = .returned v ∧ OwnI w.heap.size v (seTo (seB l (x, y)) l.length) w' ∧ Below w.heap.size w w' := by
  subst hl
  have HA := hid hA
  clear hA
  obtain ⟨i0, hi, hz0, hz1, hz2⟩ := info_parts info_int
  have hbw : Below w.heap.size w (w.alloc (.cells #[.int .i64 x, .int .i64 y] 26)) := by go_grown
  have k0 := box0 w x y 26
  have k1 := box1 w x y 26
  go_enter Tryz.func45, Tryz.ntmps45
  go_wp2
  go_loopw [5, 10] (fun o i wr => ∃ k : Nat, k ≤ l.length ∧ i = .int .i64 k ∧ OwnI (w.heap.size + 1) o (seTo (seB l (x, y)) k) wr ∧ wr.cell? ⟨w.heap.size, 0, none⟩ = some (.int .i64 x) ∧ wr.cell? ⟨w.heap.size, 1, none⟩ = some (.int .i64 y) ∧ Below w.heap.size w wr) (fun _ i _ => l.length - (intOf i).toNat)
  case atStart => exact ⟨0, Nat.zero_le _, rfl, OwnI.nil _ _, k0, k1, hbw⟩
  case round =>
    clear k0 k1 hbw
    obtain ⟨k, hk, rfl, hO, r0, r1, hbw⟩ := hrel
    have HO := hid hO
    clear hO
    by_cases hkl : k < l.length
    · have HLk : Hid ((seTo (seB l (x, y)) k).length + 1 ≤ 1048576) := by have := seTo_len (seB l (x, y)) k; show _ ≤ _; omega
      have FY := hid (fun e => seTo_yes (f := seB l (x, y)) (k := k) e)
      have FN := hid (fun e => seTo_no (f := seB l (x, y)) (k := k) e)
      obtain ⟨R, hR⟩ : ∃ R, seTo (seB l (x, y)) k = R := ⟨_, rfl⟩
      rw [hR] at HO HLk FY FN
      have HL := HLk
      clear HLk hR
      have hm : (k + 1) % l.length < l.length := Nat.mod_lt _ (by omega)
      have hc := mod_up (k := k) (n := l.length) rfl
      have HM := hid (show decide (sg (crossW (px l k) (py l k) (px l ((k + 1) % l.length)) (py l ((k + 1) % l.length)) x y) < 0) = seB l (x, y) k from rfl)
      obtain ⟨m, hmm⟩ : ∃ m, (k + 1) % l.length = m := ⟨_, rfl⟩
      rw [hmm] at hm hc HM
      have hw1 : IntKind.i64.wrap ((k : Int) + 1) = (k : Int) + 1 := by rw [IntKind.wrap_i64]; omega
      have hct : (IntKind.i64.wrap ((k : Int) + 1)).tmod (l.length : Int) = (m : Int) := by rw [hw1, Int.tmod_eq_emod_of_nonneg (by omega)]; exact hc
      clear hw1 hmm
      have hne : ¬ l = [] := fun e => by rw [e] at hkl; exact absurd hkl (Nat.not_lt_zero _)
      have m0 : (0 : Int) ≤ (m : Int) := by omega
      have m1 : (m : Int) < (l.length : Int) := by omega
      have hi0 : (0 : Int) ≤ (k : Int) := by omega
      have hi1 : (k : Int) < (l.length : Int) := by omega
      obtain ⟨b, off, e0, hbN, g0, g1⟩ := HA.out k hkl
      obtain ⟨b', off', hb', hbN', g2, g3⟩ := HA.out m hm
      subst e0
      cases hb'
      have q0 := cell_later hbw g0
      have q1 := cell_later hbw g1
      have k2 := box0 wr (px l k) (py l k) 26
      have k3 := box1 wr (px l k) (py l k) 26
      have hbX : Below wr.heap.size wr (wr.alloc (.cells #[.int .i64 (px l k), .int .i64 (py l k)] 26)) := by go_grown
      have k0 := cell_later hbX r0
      have k1 := cell_later hbX r1
      have k4 := cell_later hbX (cell_later hbw g2)
      have k5 := cell_later hbX (cell_later hbw g3)
      have HBX := hid (grew hbw hbX)
      have HOX := hid (HO.out.later hbX)
      clear g0 g1 g2 g3 hbw HO
      obtain ⟨a3, c3, hv3⟩ := HOX.out.shape
      subst hv3
      go_upto_region 5 with fail
      clear q0 q1 r0 r1 hbX
      generalize wr.heap.size = B7 at k2 k3 ⊢
      generalize wr.alloc (.cells #[.int .i64 (px l k), .int .i64 (py l k)] 26) = wX at k0 k1 k2 k3 k4 k5 HBX HOX ⊢
      cases hE : decide (sg (crossW (px l k) (py l k) (px l m) (py l m) x y) < 0)
      · have HN := hid (FN.out (HM.out.symm.trans (by rw [hE])))
        refine wp_region_held_drew (S := (fun u => Below wX.heap.size wX u)) (by kernel_rfl) ?_ (fun hHeld => ?_)
        · exact (Below.refl _ _).drew
        refine wpAnyH_take (i := 0) (oi := { dst := some 15, op := Op.load 26 (Operand.tmp 7), type := 26, pos := "l5_far.go:87", after := #[], guard := none }) (v := ?v1rx0) rfl (by kernel_rfl) (by kernel_rfl) (by kernel_rfl) (fun _ _ _ h => h) (Or.inl ⟨by rfl, ?hy1rx0⟩) (by with_reducible assumption) ?rest1rx0
        case hy1rx0 => (intro w hSw; (try dsimp only at hSw); have z0 := cell_later hSw k2; have z1 := cell_later hSw k3; have z2 := cell_later hSw k0; have z3 := cell_later hSw k1; have z4 := cell_later hSw k4; have z5 := cell_later hSw k5; clear hSw; go_simp; try with_reducible rfl)
        case' rest1rx0 => (try simp only [Act.put, List.setIfInBounds_toArray, List.set_cons_zero, List.set_cons_succ])
        refine wpAnyH_take (i := 1) (oi := { dst := some 16, op := Op.move (Operand.tmp 0), type := 24, pos := "l5_far.go:87", after := #[], guard := none }) (v := ?v1rx1) rfl (by kernel_rfl) (by kernel_rfl) (by kernel_rfl) (fun _ _ _ h => h) (Or.inl ⟨by rfl, ?hy1rx1⟩) (by with_reducible assumption) ?rest1rx1
        case hy1rx1 => (intro w hSw; (try dsimp only at hSw); have z0 := cell_later hSw k2; have z1 := cell_later hSw k3; have z2 := cell_later hSw k0; have z3 := cell_later hSw k1; have z4 := cell_later hSw k4; have z5 := cell_later hSw k5; clear hSw; go_simp; try with_reducible rfl)
        case' rest1rx1 => (try simp only [Act.put, List.setIfInBounds_toArray, List.set_cons_zero, List.set_cons_succ])
        refine wpAnyH_take (i := 2) (oi := { dst := some 17, op := Op.move (Operand.tmp 6), type := 3, pos := "l5_far.go:87", after := #[], guard := none }) (v := ?v1rx2) rfl (by kernel_rfl) (by kernel_rfl) (by kernel_rfl) (fun _ _ _ h => h) (Or.inl ⟨by rfl, ?hy1rx2⟩) (by with_reducible assumption) ?rest1rx2
        case hy1rx2 => (intro w hSw; (try dsimp only at hSw); have z0 := cell_later hSw k2; have z1 := cell_later hSw k3; have z2 := cell_later hSw k0; have z3 := cell_later hSw k1; have z4 := cell_later hSw k4; have z5 := cell_later hSw k5; clear hSw; go_simp; try with_reducible rfl)
        case' rest1rx2 => (try simp only [Act.put, List.setIfInBounds_toArray, List.set_cons_zero, List.set_cons_succ])
        refine wpAnyH_take (i := 3) (oi := { dst := some 18, op := Op.binOp BinOp.add 3 (Operand.tmp 17) (Operand.const (Value.int IntKind.i64 1)) 3, type := 3, pos := "l5_far.go:87", after := #[{ on := 2, ground := Ground.data }], guard := none }) (v := ?v1rx3) rfl (by kernel_rfl) (by kernel_rfl) (by kernel_rfl) (fun _ _ _ h => h) (Or.inl ⟨by rfl, ?hy1rx3⟩) (by with_reducible assumption) ?rest1rx3
        case hy1rx3 => (intro w hSw; (try dsimp only at hSw); have z0 := cell_later hSw k2; have z1 := cell_later hSw k3; have z2 := cell_later hSw k0; have z3 := cell_later hSw k1; have z4 := cell_later hSw k4; have z5 := cell_later hSw k5; clear hSw; go_simp; try with_reducible rfl)
        case' rest1rx3 => (try simp only [Act.put, List.setIfInBounds_toArray, List.set_cons_zero, List.set_cons_succ])
        refine wpAnyH_take (i := 4) (oi := { dst := some 19, op := Op.move (Operand.tmp 0), type := 24, pos := "l5_far.go:87", after := #[], guard := none }) (v := ?v1rx4) rfl (by kernel_rfl) (by kernel_rfl) (by kernel_rfl) (fun _ _ _ h => h) (Or.inl ⟨by rfl, ?hy1rx4⟩) (by with_reducible assumption) ?rest1rx4
        case hy1rx4 => (intro w hSw; (try dsimp only at hSw); have z0 := cell_later hSw k2; have z1 := cell_later hSw k3; have z2 := cell_later hSw k0; have z3 := cell_later hSw k1; have z4 := cell_later hSw k4; have z5 := cell_later hSw k5; clear hSw; go_simp; try with_reducible rfl)
        case' rest1rx4 => (try simp only [Act.put, List.setIfInBounds_toArray, List.set_cons_zero, List.set_cons_succ])
        refine wpAnyH_take (i := 5) (oi := { dst := some 20, op := Op.call { callee := Callee.builtin Builtin.len, args := #[Operand.tmp 19], argTypes := #[24] }, type := 3, pos := "l5_far.go:87", after := #[{ on := 4, ground := Ground.data }], guard := none }) (v := ?v1rx5) rfl (by kernel_rfl) (by kernel_rfl) (by kernel_rfl) (fun _ _ _ h => h) (Or.inl ⟨by rfl, ?hy1rx5⟩) (by with_reducible assumption) ?rest1rx5
        case hy1rx5 => (intro w hSw; (try dsimp only at hSw); have z0 := cell_later hSw k2; have z1 := cell_later hSw k3; have z2 := cell_later hSw k0; have z3 := cell_later hSw k1; have z4 := cell_later hSw k4; have z5 := cell_later hSw k5; clear hSw; go_simp; try with_reducible rfl)
        case' rest1rx5 => (try simp only [Act.put, List.setIfInBounds_toArray, List.set_cons_zero, List.set_cons_succ])
        refine wpAnyH_take (i := 6) (oi := { dst := some 21, op := Op.binOp BinOp.rem 3 (Operand.tmp 18) (Operand.tmp 20) 3, type := 3, pos := "l5_far.go:87", after := #[{ on := 3, ground := Ground.data }, { on := 5, ground := Ground.data }], guard := none }) (v := ?v1rx6) rfl (by kernel_rfl) (by kernel_rfl) (by kernel_rfl) (fun _ _ _ h => h) (Or.inl ⟨by rfl, ?hy1rx6⟩) (by with_reducible assumption) ?rest1rx6
        case hy1rx6 => (intro w hSw; (try dsimp only at hSw); have z0 := cell_later hSw k2; have z1 := cell_later hSw k3; have z2 := cell_later hSw k0; have z3 := cell_later hSw k1; have z4 := cell_later hSw k4; have z5 := cell_later hSw k5; clear hSw; go_simp; try with_reducible rfl)
        case' rest1rx6 => (try simp only [Act.put, List.setIfInBounds_toArray, List.set_cons_zero, List.set_cons_succ])
        refine wpAnyH_take (i := 7) (oi := { dst := some 22, op := Op.indexAddr 24 (Operand.tmp 16) (Operand.tmp 21), type := 0, pos := "l5_far.go:87", after := #[{ on := 1, ground := Ground.data }, { on := 6, ground := Ground.data }], guard := none }) (v := ?v1rx7) rfl (by kernel_rfl) (by kernel_rfl) (by kernel_rfl) (fun _ _ _ h => h) (Or.inl ⟨by rfl, ?hy1rx7⟩) (by with_reducible assumption) ?rest1rx7
        case hy1rx7 => (intro w hSw; (try dsimp only at hSw); have z0 := cell_later hSw k2; have z1 := cell_later hSw k3; have z2 := cell_later hSw k0; have z3 := cell_later hSw k1; have z4 := cell_later hSw k4; have z5 := cell_later hSw k5; clear hSw; go_simp; try with_reducible rfl)
        case' rest1rx7 => (try simp only [Act.put, List.setIfInBounds_toArray, List.set_cons_zero, List.set_cons_succ])
        refine wpAnyH_take (i := 8) (oi := { dst := some 23, op := Op.load 26 (Operand.tmp 22), type := 26, pos := "l5_far.go:87", after := #[{ on := 7, ground := Ground.data }], guard := none }) (v := ?v1rx8) rfl (by kernel_rfl) (by kernel_rfl) (by kernel_rfl) (fun _ _ _ h => h) (Or.inl ⟨by rfl, ?hy1rx8⟩) (by with_reducible assumption) ?rest1rx8
        case hy1rx8 => (intro w hSw; (try dsimp only at hSw); have z0 := cell_later hSw k2; have z1 := cell_later hSw k3; have z2 := cell_later hSw k0; have z3 := cell_later hSw k1; have z4 := cell_later hSw k4; have z5 := cell_later hSw k5; clear hSw; go_simp; try with_reducible rfl)
        case' rest1rx8 => (try simp only [Act.put, List.setIfInBounds_toArray, List.set_cons_zero, List.set_cons_succ])
        refine wpAnyH_take (i := 9) (oi := { dst := some 24, op := Op.load 26 (Operand.tmp 3), type := 26, pos := "l5_far.go:87", after := #[], guard := none }) (v := ?v1rx9) rfl (by kernel_rfl) (by kernel_rfl) (by kernel_rfl) (fun _ _ _ h => h) (Or.inl ⟨by rfl, ?hy1rx9⟩) (by with_reducible assumption) ?rest1rx9
        case hy1rx9 => (intro w hSw; (try dsimp only at hSw); have z0 := cell_later hSw k2; have z1 := cell_later hSw k3; have z2 := cell_later hSw k0; have z3 := cell_later hSw k1; have z4 := cell_later hSw k4; have z5 := cell_later hSw k5; clear hSw; go_simp; try with_reducible rfl)
        case' rest1rx9 => (try simp only [Act.put, List.setIfInBounds_toArray, List.set_cons_zero, List.set_cons_succ])
        refine wpAnyH_ready (rs := [10]) (by kernel_rfl) (by simp) ?_
        refine AllReadyH.cons (o := { dst := some 25, op := Op.call { callee := Callee.value (Operand.func 70), args := #[Operand.tmp 15, Operand.tmp 23, Operand.tmp 24], argTypes := #[26, 26, 26] }, type := 3, pos := "l5_far.go:87", after := #[{ on := 0, ground := Ground.data }, { on := 8, ground := Ground.data }, { on := 9, ground := Ground.data }], guard := none }) rfl (fun K hK => ?_) AllReadyH.nil
        go_simp
        refine (side_c (px l k) (py l k) (px l m) (py l m) x y _).mono ?_
        rintro e w4 ⟨rfl, hb4⟩
        go_wp2_with fail
        refine hK.out _ _ ?_ (fun hHeld => ?_)
        · exact grew (by with_reducible assumption) hb4
        clear hK K
        try simp only [Act.put, List.setIfInBounds_toArray, List.set_cons_zero, List.set_cons_succ]
        refine wpAnyH_take (i := 11) (oi := { dst := some 26, op := Op.binOp BinOp.lss 3 (Operand.tmp 25) (Operand.const (Value.int IntKind.i64 0)) 3, type := 4, pos := "l5_far.go:87", after := #[{ on := 10, ground := Ground.data }], guard := none }) (v := ?v1rx11) rfl (by kernel_rfl) (by kernel_rfl) (by kernel_rfl) (fun _ _ _ h => h) (Or.inl ⟨by rfl, ?hy1rx11⟩) (by with_reducible assumption) ?rest1rx11
        case hy1rx11 => (intro w hSw; (try dsimp only at hSw); have z0 := cell_later hSw k2; have z1 := cell_later hSw k3; have z2 := cell_later hSw k0; have z3 := cell_later hSw k1; have z4 := cell_later hSw k4; have z5 := cell_later hSw k5; clear hSw; go_simp; try with_reducible rfl)
        case' rest1rx11 => (try simp only [Act.put, List.setIfInBounds_toArray, List.set_cons_zero, List.set_cons_succ])
        refine wpAnyH_done (by kernel_rfl) ?_ _
        replace k0 := cell_later hHeld k0
        replace k1 := cell_later hHeld k1
        have HF := hid (grew HBX.out hHeld)
        have HO := hid (HOX.out.later hHeld)
        clear hHeld k2 k3 k4 k5
        go_wp2
        go_roundw
        case rel => exact ⟨k + 1, by omega, by go_num, by rw [HN.out]; exact HO.out, k0, k1, HF.out⟩
        case measure => simp [intOf]; omega
      · have HY := hid (FY.out (HM.out.symm.trans (by rw [hE])))
        refine wp_region_held_drew (S := (fun u => Below wX.heap.size wX u)) (by kernel_rfl) ?_ (fun hHeld => ?_)
        · exact (Below.refl _ _).drew
        refine wpAnyH_take (i := 0) (oi := { dst := some 15, op := Op.load 26 (Operand.tmp 7), type := 26, pos := "l5_far.go:87", after := #[], guard := none }) (v := ?v2rx0) rfl (by kernel_rfl) (by kernel_rfl) (by kernel_rfl) (fun _ _ _ h => h) (Or.inl ⟨by rfl, ?hy2rx0⟩) (by with_reducible assumption) ?rest2rx0
        case hy2rx0 => (intro w hSw; (try dsimp only at hSw); have z0 := cell_later hSw k2; have z1 := cell_later hSw k3; have z2 := cell_later hSw k0; have z3 := cell_later hSw k1; have z4 := cell_later hSw k4; have z5 := cell_later hSw k5; clear hSw; go_simp; try with_reducible rfl)
        case' rest2rx0 => (try simp only [Act.put, List.setIfInBounds_toArray, List.set_cons_zero, List.set_cons_succ])
        refine wpAnyH_take (i := 1) (oi := { dst := some 16, op := Op.move (Operand.tmp 0), type := 24, pos := "l5_far.go:87", after := #[], guard := none }) (v := ?v2rx1) rfl (by kernel_rfl) (by kernel_rfl) (by kernel_rfl) (fun _ _ _ h => h) (Or.inl ⟨by rfl, ?hy2rx1⟩) (by with_reducible assumption) ?rest2rx1
        case hy2rx1 => (intro w hSw; (try dsimp only at hSw); have z0 := cell_later hSw k2; have z1 := cell_later hSw k3; have z2 := cell_later hSw k0; have z3 := cell_later hSw k1; have z4 := cell_later hSw k4; have z5 := cell_later hSw k5; clear hSw; go_simp; try with_reducible rfl)
        case' rest2rx1 => (try simp only [Act.put, List.setIfInBounds_toArray, List.set_cons_zero, List.set_cons_succ])
        refine wpAnyH_take (i := 2) (oi := { dst := some 17, op := Op.move (Operand.tmp 6), type := 3, pos := "l5_far.go:87", after := #[], guard := none }) (v := ?v2rx2) rfl (by kernel_rfl) (by kernel_rfl) (by kernel_rfl) (fun _ _ _ h => h) (Or.inl ⟨by rfl, ?hy2rx2⟩) (by with_reducible assumption) ?rest2rx2
        case hy2rx2 => (intro w hSw; (try dsimp only at hSw); have z0 := cell_later hSw k2; have z1 := cell_later hSw k3; have z2 := cell_later hSw k0; have z3 := cell_later hSw k1; have z4 := cell_later hSw k4; have z5 := cell_later hSw k5; clear hSw; go_simp; try with_reducible rfl)
        case' rest2rx2 => (try simp only [Act.put, List.setIfInBounds_toArray, List.set_cons_zero, List.set_cons_succ])
        refine wpAnyH_take (i := 3) (oi := { dst := some 18, op := Op.binOp BinOp.add 3 (Operand.tmp 17) (Operand.const (Value.int IntKind.i64 1)) 3, type := 3, pos := "l5_far.go:87", after := #[{ on := 2, ground := Ground.data }], guard := none }) (v := ?v2rx3) rfl (by kernel_rfl) (by kernel_rfl) (by kernel_rfl) (fun _ _ _ h => h) (Or.inl ⟨by rfl, ?hy2rx3⟩) (by with_reducible assumption) ?rest2rx3
        case hy2rx3 => (intro w hSw; (try dsimp only at hSw); have z0 := cell_later hSw k2; have z1 := cell_later hSw k3; have z2 := cell_later hSw k0; have z3 := cell_later hSw k1; have z4 := cell_later hSw k4; have z5 := cell_later hSw k5; clear hSw; go_simp; try with_reducible rfl)
        case' rest2rx3 => (try simp only [Act.put, List.setIfInBounds_toArray, List.set_cons_zero, List.set_cons_succ])
        refine wpAnyH_take (i := 4) (oi := { dst := some 19, op := Op.move (Operand.tmp 0), type := 24, pos := "l5_far.go:87", after := #[], guard := none }) (v := ?v2rx4) rfl (by kernel_rfl) (by kernel_rfl) (by kernel_rfl) (fun _ _ _ h => h) (Or.inl ⟨by rfl, ?hy2rx4⟩) (by with_reducible assumption) ?rest2rx4
        case hy2rx4 => (intro w hSw; (try dsimp only at hSw); have z0 := cell_later hSw k2; have z1 := cell_later hSw k3; have z2 := cell_later hSw k0; have z3 := cell_later hSw k1; have z4 := cell_later hSw k4; have z5 := cell_later hSw k5; clear hSw; go_simp; try with_reducible rfl)
        case' rest2rx4 => (try simp only [Act.put, List.setIfInBounds_toArray, List.set_cons_zero, List.set_cons_succ])
        refine wpAnyH_take (i := 5) (oi := { dst := some 20, op := Op.call { callee := Callee.builtin Builtin.len, args := #[Operand.tmp 19], argTypes := #[24] }, type := 3, pos := "l5_far.go:87", after := #[{ on := 4, ground := Ground.data }], guard := none }) (v := ?v2rx5) rfl (by kernel_rfl) (by kernel_rfl) (by kernel_rfl) (fun _ _ _ h => h) (Or.inl ⟨by rfl, ?hy2rx5⟩) (by with_reducible assumption) ?rest2rx5
        case hy2rx5 => (intro w hSw; (try dsimp only at hSw); have z0 := cell_later hSw k2; have z1 := cell_later hSw k3; have z2 := cell_later hSw k0; have z3 := cell_later hSw k1; have z4 := cell_later hSw k4; have z5 := cell_later hSw k5; clear hSw; go_simp; try with_reducible rfl)
        case' rest2rx5 => (try simp only [Act.put, List.setIfInBounds_toArray, List.set_cons_zero, List.set_cons_succ])
        refine wpAnyH_take (i := 6) (oi := { dst := some 21, op := Op.binOp BinOp.rem 3 (Operand.tmp 18) (Operand.tmp 20) 3, type := 3, pos := "l5_far.go:87", after := #[{ on := 3, ground := Ground.data }, { on := 5, ground := Ground.data }], guard := none }) (v := ?v2rx6) rfl (by kernel_rfl) (by kernel_rfl) (by kernel_rfl) (fun _ _ _ h => h) (Or.inl ⟨by rfl, ?hy2rx6⟩) (by with_reducible assumption) ?rest2rx6
        case hy2rx6 => (intro w hSw; (try dsimp only at hSw); have z0 := cell_later hSw k2; have z1 := cell_later hSw k3; have z2 := cell_later hSw k0; have z3 := cell_later hSw k1; have z4 := cell_later hSw k4; have z5 := cell_later hSw k5; clear hSw; go_simp; try with_reducible rfl)
        case' rest2rx6 => (try simp only [Act.put, List.setIfInBounds_toArray, List.set_cons_zero, List.set_cons_succ])
        refine wpAnyH_take (i := 7) (oi := { dst := some 22, op := Op.indexAddr 24 (Operand.tmp 16) (Operand.tmp 21), type := 0, pos := "l5_far.go:87", after := #[{ on := 1, ground := Ground.data }, { on := 6, ground := Ground.data }], guard := none }) (v := ?v2rx7) rfl (by kernel_rfl) (by kernel_rfl) (by kernel_rfl) (fun _ _ _ h => h) (Or.inl ⟨by rfl, ?hy2rx7⟩) (by with_reducible assumption) ?rest2rx7
        case hy2rx7 => (intro w hSw; (try dsimp only at hSw); have z0 := cell_later hSw k2; have z1 := cell_later hSw k3; have z2 := cell_later hSw k0; have z3 := cell_later hSw k1; have z4 := cell_later hSw k4; have z5 := cell_later hSw k5; clear hSw; go_simp; try with_reducible rfl)
        case' rest2rx7 => (try simp only [Act.put, List.setIfInBounds_toArray, List.set_cons_zero, List.set_cons_succ])
        refine wpAnyH_take (i := 8) (oi := { dst := some 23, op := Op.load 26 (Operand.tmp 22), type := 26, pos := "l5_far.go:87", after := #[{ on := 7, ground := Ground.data }], guard := none }) (v := ?v2rx8) rfl (by kernel_rfl) (by kernel_rfl) (by kernel_rfl) (fun _ _ _ h => h) (Or.inl ⟨by rfl, ?hy2rx8⟩) (by with_reducible assumption) ?rest2rx8
        case hy2rx8 => (intro w hSw; (try dsimp only at hSw); have z0 := cell_later hSw k2; have z1 := cell_later hSw k3; have z2 := cell_later hSw k0; have z3 := cell_later hSw k1; have z4 := cell_later hSw k4; have z5 := cell_later hSw k5; clear hSw; go_simp; try with_reducible rfl)
        case' rest2rx8 => (try simp only [Act.put, List.setIfInBounds_toArray, List.set_cons_zero, List.set_cons_succ])
        refine wpAnyH_take (i := 9) (oi := { dst := some 24, op := Op.load 26 (Operand.tmp 3), type := 26, pos := "l5_far.go:87", after := #[], guard := none }) (v := ?v2rx9) rfl (by kernel_rfl) (by kernel_rfl) (by kernel_rfl) (fun _ _ _ h => h) (Or.inl ⟨by rfl, ?hy2rx9⟩) (by with_reducible assumption) ?rest2rx9
        case hy2rx9 => (intro w hSw; (try dsimp only at hSw); have z0 := cell_later hSw k2; have z1 := cell_later hSw k3; have z2 := cell_later hSw k0; have z3 := cell_later hSw k1; have z4 := cell_later hSw k4; have z5 := cell_later hSw k5; clear hSw; go_simp; try with_reducible rfl)
        case' rest2rx9 => (try simp only [Act.put, List.setIfInBounds_toArray, List.set_cons_zero, List.set_cons_succ])
        refine wpAnyH_ready (rs := [10]) (by kernel_rfl) (by simp) ?_
        refine AllReadyH.cons (o := { dst := some 25, op := Op.call { callee := Callee.value (Operand.func 70), args := #[Operand.tmp 15, Operand.tmp 23, Operand.tmp 24], argTypes := #[26, 26, 26] }, type := 3, pos := "l5_far.go:87", after := #[{ on := 0, ground := Ground.data }, { on := 8, ground := Ground.data }, { on := 9, ground := Ground.data }], guard := none }) rfl (fun K hK => ?_) AllReadyH.nil
        go_simp
        refine (side_c (px l k) (py l k) (px l m) (py l m) x y _).mono ?_
        rintro e w4 ⟨rfl, hb4⟩
        go_wp2_with fail
        refine hK.out _ _ ?_ (fun hHeld => ?_)
        · exact grew (by with_reducible assumption) hb4
        clear hK K
        try simp only [Act.put, List.setIfInBounds_toArray, List.set_cons_zero, List.set_cons_succ]
        refine wpAnyH_take (i := 11) (oi := { dst := some 26, op := Op.binOp BinOp.lss 3 (Operand.tmp 25) (Operand.const (Value.int IntKind.i64 0)) 3, type := 4, pos := "l5_far.go:87", after := #[{ on := 10, ground := Ground.data }], guard := none }) (v := ?v2rx11) rfl (by kernel_rfl) (by kernel_rfl) (by kernel_rfl) (fun _ _ _ h => h) (Or.inl ⟨by rfl, ?hy2rx11⟩) (by with_reducible assumption) ?rest2rx11
        case hy2rx11 => (intro w hSw; (try dsimp only at hSw); have z0 := cell_later hSw k2; have z1 := cell_later hSw k3; have z2 := cell_later hSw k0; have z3 := cell_later hSw k1; have z4 := cell_later hSw k4; have z5 := cell_later hSw k5; clear hSw; go_simp; try with_reducible rfl)
        case' rest2rx11 => (try simp only [Act.put, List.setIfInBounds_toArray, List.set_cons_zero, List.set_cons_succ])
        refine wpAnyH_done (by kernel_rfl) ?_ _
        replace k0 := cell_later hHeld k0
        replace k1 := cell_later hHeld k1
        have HF := hid (grew HBX.out hHeld)
        have HO := hid (HOX.out.later hHeld)
        have hlt0 : w.heap.size < w4.heap.size := World.block_lt_of_cell? _ _ k0
        clear hHeld k2 k3 k4 k5
        go_wp2_with (at_builtin; refine wpList_append_i rfl (.tmp 27) (.tmp 29) 40 rfl (w.heap.size + 1) Tryz.underlying40 hi hz0 hz1 hz2 (by rfl) _ R (k : Int) rfl (HO.out.later (by go_grown)) ⟨w4.heap.size, 0, none⟩ 1 (by rfl) (by go_simp) rfl HL.out (by simp; omega) ?_; intro g cp w5 hO5 hg5 _; have hB5 := OwnI.grownBelow (HO.out.later (show Below w4.heap.size w4 (w4.alloc (.cells #[.int .i64 (k : Int)] 3)) by go_grown)) hg5 (by simp; omega); have k0' := (hB5.cell (p := ⟨w.heap.size, 0, none⟩) (by show w.heap.size < w.heap.size + 1; omega)).trans (cell_later (show Below w4.heap.size w4 (w4.alloc (.cells #[.int .i64 (k : Int)] 3)) by go_grown) k0); have k1' := (hB5.cell (p := ⟨w.heap.size, 1, none⟩) (by show w.heap.size < w.heap.size + 1; omega)).trans (cell_later (show Below w4.heap.size w4 (w4.alloc (.cells #[.int .i64 (k : Int)] 3)) by go_grown) k1); have HX5 := hid hO5; have HB5 := hid ((grew HF.out (show Below w4.heap.size w4 (w4.alloc (.cells #[.int .i64 (k : Int)] 3)) by go_grown)).trans (hB5.mono (Nat.le_succ _))); clear hg5 hO5 hB5)
        go_roundw
        case rel => exact ⟨k + 1, by omega, by go_num, by rw [HY.out]; exact HX5.out, k0', k1', HB5.out⟩
        case measure => simp [intOf]; omega
    · obtain rfl : k = l.length := by omega
      obtain ⟨a3, c3, hv3⟩ := HO.out.shape
      subst hv3
      go_wp2
      go_ret
      exact ⟨_, rfl, HO.out.mono (Nat.le_succ _), hbw⟩
set_option maxHeartbeats 8000000 in
theorem seesFromSpec_c (l : List (Int × Int)) (x y : Int) (a : Option Addr) (len cap : Nat) (w : World) (hl : l.length = len) (h1 : len ≤ 1048576) (hA : At w.heap.size a l w) :
    Calls Tryz.prog 16 #[.slice a len cap, .agg #[.int .i64 x, .int .i64 y]] w fun e w' => ∃ v, e = .returned (.tuple #[v, .bool (seOk l x y)]) ∧ OwnI w.heap.size v (seL l x y) w' ∧ Below w.heap.size w w' := by
  subst hl
  have HA := hid hA
  clear hA
  have hbw : Below w.heap.size w (w.alloc (.cells #[.int .i64 x, .int .i64 y] 26)) := by go_grown
  have k0 := box0 w x y 26
  have k1 := box1 w x y 26
  go_enter Tryz.func16, Tryz.ntmps16
  go_upto_region 1 with fail
  generalize (w.alloc (.cells #[.int .i64 x, .int .i64 y] 26)) = w0 at hbw k0 k1 ⊢
  cases hG : ghB l
  · have HZ := hid (show seOk l x y = false by unfold seOk; rw [hG]; rfl)
    go_wp2_with (go_at_call 43; refine (goodHullSpec_c l _ _ _ _ rfl h1 ((HA.out.later hbw).mono hbw.size)).mono ?_; rw [hG]; rintro e w1 ⟨rfl, hb⟩; replace hbw := grew hbw hb; replace k0 := cell_later hb k0; replace k1 := cell_later hb k1; clear hb)
    go_ret2
    exact ⟨_, ret_v rfl HZ.out.symm, by unfold seL; rw [HZ.out]; exact OwnI.nil _ _, hbw⟩
  · cases hP : goodB x y
    · have HZ := hid (show seOk l x y = false by unfold seOk; rw [hG, hP]; rfl)
      go_wp2_with (first | (go_at_call 43; refine (goodHullSpec_c l _ _ _ _ rfl h1 ((HA.out.later hbw).mono hbw.size)).mono ?_; rw [hG]; rintro e w1 ⟨rfl, hb⟩; replace hbw := grew hbw hb; replace k0 := cell_later hb k0; replace k1 := cell_later hb k1; clear hb) | (go_at_call 44; refine (goodSpec_e _ _ _).mono ?_; rw [hP]; rintro e w2 ⟨rfl, hb⟩; replace hbw := grew hbw hb; replace k0 := cell_later hb k0; replace k1 := cell_later hb k1; clear hb))
      go_ret2
      exact ⟨_, ret_v rfl HZ.out.symm, by unfold seL; rw [HZ.out]; exact OwnI.nil _ _, hbw⟩
    · by_cases h3 : 3 ≤ l.length
      · have HZ := hid (show seOk l x y = true by unfold seOk; rw [hG, hP, decide_eq_true h3]; rfl)
        have hd : ¬ (l.length : Int) < 3 := by omega
        go_wp2_with (first | (go_at_call 43; refine (goodHullSpec_c l _ _ _ _ rfl h1 ((HA.out.later hbw).mono hbw.size)).mono ?_; rw [hG]; rintro e w1 ⟨rfl, hb⟩; replace hbw := grew hbw hb; replace k0 := cell_later hb k0; replace k1 := cell_later hb k1; clear hb) | (go_at_call 44; refine (goodSpec_e _ _ _).mono ?_; rw [hP]; rintro e w2 ⟨rfl, hb⟩; replace hbw := grew hbw hb; replace k0 := cell_later hb k0; replace k1 := cell_later hb k1; clear hb) | (go_at_call 45; refine (seesSpec_c l x y _ _ _ _ rfl h1 ((HA.out.later hbw).mono hbw.size)).mono ?_; rintro e w3 ⟨v, rfl, hO, hb⟩; have HO := hid (hO.mono hbw.size); clear hO; replace hbw := grew hbw hb; replace k0 := cell_later hb k0; replace k1 := cell_later hb k1; clear hb))
        obtain ⟨a3, c3, hv3⟩ := HO.out.shape
        subst hv3
        go_ret2
        exact ⟨_, ret_v rfl HZ.out.symm, by unfold seL; rw [HZ.out, if_pos rfl]; exact HO.out, hbw⟩
      · have HZ := hid (show seOk l x y = false by unfold seOk; rw [hG, hP, decide_eq_false h3]; rfl)
        have hd : (l.length : Int) < 3 := by omega
        go_wp2_with (first | (go_at_call 43; refine (goodHullSpec_c l _ _ _ _ rfl h1 ((HA.out.later hbw).mono hbw.size)).mono ?_; rw [hG]; rintro e w1 ⟨rfl, hb⟩; replace hbw := grew hbw hb; replace k0 := cell_later hb k0; replace k1 := cell_later hb k1; clear hb) | (go_at_call 44; refine (goodSpec_e _ _ _).mono ?_; rw [hP]; rintro e w2 ⟨rfl, hb⟩; replace hbw := grew hbw hb; replace k0 := cell_later hb k0; replace k1 := cell_later hb k1; clear hb))
        go_ret2
        exact ⟨_, ret_v rfl HZ.out.symm, by unfold seL; rw [HZ.out]; exact OwnI.nil _ _, hbw⟩
set_option maxHeartbeats 8000000 in
theorem seesFromImpl_c (l : List (Int × Int)) (x y : Int) (a : Option Addr) (len cap : Nat) (w : World) (hl : l.length = len) (h1 : len ≤ 1048576) (hA : At w.heap.size a l w) (c0 : w.cell? ⟨0, 0, none⟩ = some (.int .i64 1000000)) :
    Calls Tryz.prog 15 #[.slice a len cap, .agg #[.int .i64 x, .int .i64 y]] w fun e w' => ∃ v, e = .returned (.tuple #[v, .bool (seOk l x y)]) ∧ OwnI w.heap.size v (seL l x y) w' ∧ Below w.heap.size w w' := by
  subst hl
  have HA := hid hA
  have C0 := hid c0
  clear hA c0
  obtain ⟨i0, hi, hz0, hz1, hz2⟩ := info_parts info_int
  have hbw : Below w.heap.size w (w.alloc (.cells #[.int .i64 x, .int .i64 y] 26)) := by go_grown
  have k0 := box0 w x y 26
  have k1 := box1 w x y 26
  go_enter Tryz.func15, Tryz.ntmps15
  go_upto_region 1 with fail
  generalize (w.alloc (.cells #[.int .i64 x, .int .i64 y] 26)) = w0 at hbw k0 k1 ⊢
  cases hG : ghB l
  · have HZ := hid (show seOk l x y = false by unfold seOk; rw [hG]; rfl)
    go_wp2_with (go_at_call 30; refine (goodHullImpl_c l _ _ _ _ rfl h1 ((HA.out.later hbw).mono hbw.size) (cell_later hbw C0.out)).mono ?_; rw [hG]; rintro e w1 ⟨rfl, hb⟩; replace hbw := grew hbw hb; replace k0 := cell_later hb k0; replace k1 := cell_later hb k1; clear hb)
    go_ret2
    exact ⟨_, ret_v rfl HZ.out.symm, by unfold seL; rw [HZ.out]; exact OwnI.nil _ _, hbw⟩
  · by_cases h3 : 3 ≤ l.length
    · have hd : ¬ (l.length : Int) < 3 := by omega
      cases hP : goodB x y
      · have HZ := hid (show seOk l x y = false by unfold seOk; rw [hG, hP]; rfl)
        go_wp2_with (first | (go_at_call 30; refine (goodHullImpl_c l _ _ _ _ rfl h1 ((HA.out.later hbw).mono hbw.size) (cell_later hbw C0.out)).mono ?_; rw [hG]; rintro e w1 ⟨rfl, hb⟩; replace hbw := grew hbw hb; replace k0 := cell_later hb k0; replace k1 := cell_later hb k1; clear hb) | (go_at_call 28; refine (goodImpl_e _ _ _ (cell_later hbw C0.out)).mono ?_; rw [hP]; rintro e w2 ⟨rfl, hb⟩; replace hbw := grew hbw hb; replace k0 := cell_later hb k0; replace k1 := cell_later hb k1; clear hb))
        go_ret2
        exact ⟨_, ret_v rfl HZ.out.symm, by unfold seL; rw [HZ.out]; exact OwnI.nil _ _, hbw⟩
      · have HZ := hid (show seOk l x y = true by unfold seOk; rw [hG, hP, decide_eq_true h3]; rfl)
        have HAG := hid (ghB_all hG)
        have HP := hid hP
        go_wp2_with (first | (go_at_call 30; refine (goodHullImpl_c l _ _ _ _ rfl h1 ((HA.out.later hbw).mono hbw.size) (cell_later hbw C0.out)).mono ?_; rw [hG]; rintro e w1 ⟨rfl, hb⟩; replace hbw := grew hbw hb; replace k0 := cell_later hb k0; replace k1 := cell_later hb k1; clear hb) | (go_at_call 28; refine (goodImpl_e _ _ _ (cell_later hbw C0.out)).mono ?_; rw [hP]; rintro e w2 ⟨rfl, hb⟩; replace hbw := grew hbw hb; replace k0 := cell_later hb k0; replace k1 := cell_later hb k1; clear hb))
        clear hG hP
        go_loopw [6, 24] (fun o i wr => ∃ k : Nat, k ≤ l.length ∧ i = .int .i64 k ∧ OwnI (w.heap.size + 1) o (seTo (seB l (x, y)) k) wr ∧ wr.cell? ⟨w.heap.size, 0, none⟩ = some (.int .i64 x) ∧ wr.cell? ⟨w.heap.size, 1, none⟩ = some (.int .i64 y) ∧ Below w.heap.size w wr) (fun _ i _ => l.length - (intOf i).toNat)
        case atStart => exact ⟨0, Nat.zero_le _, rfl, OwnI.nil _ _, k0, k1, hbw⟩
        case round =>
          clear k0 k1 hbw
          obtain ⟨k, hk, rfl, hO, r0, r1, hbw⟩ := hrel
          have HO := hid hO
          clear hO
          by_cases hkl : k < l.length
          · have HLk : Hid ((seTo (seB l (x, y)) k).length + 1 ≤ 1048576) := by have := seTo_len (seB l (x, y)) k; show _ ≤ _; omega
            have FY := hid (fun e => seTo_yes (f := seB l (x, y)) (k := k) e)
            have FN := hid (fun e => seTo_no (f := seB l (x, y)) (k := k) e)
            obtain ⟨R, hR⟩ : ∃ R, seTo (seB l (x, y)) k = R := ⟨_, rfl⟩
            rw [hR] at HO HLk FY FN
            have HL := HLk
            clear HLk hR
            have hm : (k + 1) % l.length < l.length := Nat.mod_lt _ (by omega)
            have hc := mod_up (k := k) (n := l.length) rfl
            have HM := hid (tl_se HAG.out HP.out hkl)
            obtain ⟨m, hmm⟩ : ∃ m, (k + 1) % l.length = m := ⟨_, rfl⟩
            rw [hmm] at hm hc HM
            skip
            have hne : ¬ l = [] := fun e => by rw [e] at hkl; exact absurd hkl (Nat.not_lt_zero _)
            have m0 : (0 : Int) ≤ (m : Int) := by omega
            have m1 : (m : Int) < (l.length : Int) := by omega
            have hi0 : (0 : Int) ≤ (k : Int) := by omega
            have hi1 : (k : Int) < (l.length : Int) := by omega
            obtain ⟨b, off, e0, hbN, g0, g1⟩ := HA.out k hkl
            obtain ⟨b', off', hb', hbN', g2, g3⟩ := HA.out m hm
            subst e0
            cases hb'
            have q0 := cell_later hbw g0
            have q1 := cell_later hbw g1
            have k2 := box0 wr (px l k) (py l k) 26
            have k3 := box1 wr (px l k) (py l k) 26
            have hbX : Below wr.heap.size wr (wr.alloc (.cells #[.int .i64 (px l k), .int .i64 (py l k)] 26)) := by go_grown
            have k0 := cell_later hbX r0
            have k1 := cell_later hbX r1
            have k4 := cell_later hbX (cell_later hbw g2)
            have k5 := cell_later hbX (cell_later hbw g3)
            have HBX := hid (grew hbw hbX)
            have HOX := hid (HO.out.later hbX)
            clear g0 g1 g2 g3 hbw HO
            obtain ⟨a3, c3, hv3⟩ := HOX.out.shape
            subst hv3
            go_upto_region 7 with fail
            clear q0 q1 r0 r1 hbX
            generalize wr.heap.size = B7 at k2 k3 ⊢
            generalize wr.alloc (.cells #[.int .i64 (px l k), .int .i64 (py l k)] 26) = wX at k0 k1 k2 k3 k4 k5 HBX HOX ⊢
            cases hE : tlB (px l m, py l m) (px l k, py l k) (x, y)
            · have HN := hid (FN.out (HM.out.symm.trans (by rw [hE])))
              refine wp_region_held_drew (S := (fun u => Below wX.heap.size wX u)) (by kernel_rfl) ?_ (fun hHeld => ?_)
              · exact (Below.refl _ _).drew
              refine wpAnyH_take (i := 0) (oi := { dst := some 29, op := Op.move (Operand.tmp 0), type := 24, pos := "l5_far.go:45", after := #[], guard := none }) (v := ?v3rx0) rfl (by kernel_rfl) (by kernel_rfl) (by kernel_rfl) (fun _ _ _ h => h) (Or.inl ⟨by rfl, ?hy3rx0⟩) (by with_reducible assumption) ?rest3rx0
              case hy3rx0 => (intro w hSw; (try dsimp only at hSw); have z0 := cell_later hSw k2; have z1 := cell_later hSw k3; have z2 := cell_later hSw k0; have z3 := cell_later hSw k1; clear hSw; go_simp; try with_reducible rfl)
              case' rest3rx0 => (try simp only [Act.put, List.setIfInBounds_toArray, List.set_cons_zero, List.set_cons_succ])
              refine wpAnyH_take (i := 1) (oi := { dst := some 30, op := Op.move (Operand.tmp 7), type := 3, pos := "l5_far.go:45", after := #[], guard := none }) (v := ?v3rx1) rfl (by kernel_rfl) (by kernel_rfl) (by kernel_rfl) (fun _ _ _ h => h) (Or.inl ⟨by rfl, ?hy3rx1⟩) (by with_reducible assumption) ?rest3rx1
              case hy3rx1 => (intro w hSw; (try dsimp only at hSw); have z0 := cell_later hSw k2; have z1 := cell_later hSw k3; have z2 := cell_later hSw k0; have z3 := cell_later hSw k1; clear hSw; go_simp; try with_reducible rfl)
              case' rest3rx1 => (try simp only [Act.put, List.setIfInBounds_toArray, List.set_cons_zero, List.set_cons_succ])
              refine wpAnyH_take (i := 3) (oi := { dst := some 32, op := Op.load 26 (Operand.tmp 8), type := 26, pos := "l5_far.go:45", after := #[], guard := none }) (v := ?v3rx3) rfl (by kernel_rfl) (by kernel_rfl) (by kernel_rfl) (fun _ _ _ h => h) (Or.inl ⟨by rfl, ?hy3rx3⟩) (by with_reducible assumption) ?rest3rx3
              case hy3rx3 => (intro w hSw; (try dsimp only at hSw); have z0 := cell_later hSw k2; have z1 := cell_later hSw k3; have z2 := cell_later hSw k0; have z3 := cell_later hSw k1; clear hSw; go_simp; try with_reducible rfl)
              case' rest3rx3 => (try simp only [Act.put, List.setIfInBounds_toArray, List.set_cons_zero, List.set_cons_succ])
              refine wpAnyH_take (i := 4) (oi := { dst := some 33, op := Op.load 26 (Operand.tmp 3), type := 26, pos := "l5_far.go:45", after := #[], guard := none }) (v := ?v3rx4) rfl (by kernel_rfl) (by kernel_rfl) (by kernel_rfl) (fun _ _ _ h => h) (Or.inl ⟨by rfl, ?hy3rx4⟩) (by with_reducible assumption) ?rest3rx4
              case hy3rx4 => (intro w hSw; (try dsimp only at hSw); have z0 := cell_later hSw k2; have z1 := cell_later hSw k3; have z2 := cell_later hSw k0; have z3 := cell_later hSw k1; clear hSw; go_simp; try with_reducible rfl)
              case' rest3rx4 => (try simp only [Act.put, List.setIfInBounds_toArray, List.set_cons_zero, List.set_cons_succ])
              refine wpAnyH_ready (rs := [2]) (by kernel_rfl) (by simp) ?_
              refine AllReadyH.cons (o := { dst := some 31, op := Op.call { callee := Callee.value (Operand.func 42), args := #[Operand.tmp 29, Operand.tmp 30], argTypes := #[24, 3] }, type := 26, pos := "l5_far.go:45", after := #[{ on := 0, ground := Ground.data }, { on := 1, ground := Ground.data }], guard := none }) rfl (fun K hK => ?_) AllReadyH.nil
              go_simp
              refine (nextOf_c l k _ _ _ _ rfl h1 hkl ((HA.out.later (grew HBX.out hHeld)).mono (grew HBX.out hHeld).size)).mono ?_
              rintro e w3 ⟨rfl, hb3⟩
              go_wp2_with fail
              refine hK.out _ _ ?_ (fun hHeld => ?_)
              · exact grew (by with_reducible assumption) hb3
              clear hK K
              try simp only [Act.put, List.setIfInBounds_toArray, List.set_cons_zero, List.set_cons_succ]
              refine wpAnyH_ready (rs := [5]) (by kernel_rfl) (by simp) ?_
              refine AllReadyH.cons (o := { dst := some 34, op := Op.call { callee := Callee.value (Operand.func 41), args := #[Operand.tmp 31, Operand.tmp 32, Operand.tmp 33], argTypes := #[26, 26, 26] }, type := 4, pos := "l5_far.go:45", after := #[{ on := 2, ground := Ground.data }, { on := 3, ground := Ground.data }, { on := 4, ground := Ground.data }, { on := 2, ground := Ground.chain }], guard := none }) rfl (fun K hK => ?_) AllReadyH.nil
              go_simp
              refine (turnsLeft_c _ _ _ _ _ _ _ (cell_later (grew HBX.out hHeld) C0.out)).mono ?_
              first | rw [hmm, hE] | rw [hE]
              rintro e w4 ⟨rfl, hb4⟩
              go_wp2_with fail
              refine hK.out _ _ ?_ (fun hHeld => ?_)
              · exact grew (by with_reducible assumption) hb4
              clear hK K
              try simp only [Act.put, List.setIfInBounds_toArray, List.set_cons_zero, List.set_cons_succ]
              refine wpAnyH_done (by kernel_rfl) ?_ _
              replace k0 := cell_later hHeld k0
              replace k1 := cell_later hHeld k1
              have HF := hid (grew HBX.out hHeld)
              have HO := hid (HOX.out.later hHeld)
              clear hHeld k2 k3 k4 k5
              go_wp2
              go_roundw
              case rel => exact ⟨k + 1, by omega, by go_num, by rw [HN.out]; exact HO.out, k0, k1, HF.out⟩
              case measure => simp [intOf]; omega
            · have HY := hid (FY.out (HM.out.symm.trans (by rw [hE])))
              refine wp_region_held_drew (S := (fun u => Below wX.heap.size wX u)) (by kernel_rfl) ?_ (fun hHeld => ?_)
              · exact (Below.refl _ _).drew
              refine wpAnyH_take (i := 0) (oi := { dst := some 29, op := Op.move (Operand.tmp 0), type := 24, pos := "l5_far.go:45", after := #[], guard := none }) (v := ?v4rx0) rfl (by kernel_rfl) (by kernel_rfl) (by kernel_rfl) (fun _ _ _ h => h) (Or.inl ⟨by rfl, ?hy4rx0⟩) (by with_reducible assumption) ?rest4rx0
              case hy4rx0 => (intro w hSw; (try dsimp only at hSw); have z0 := cell_later hSw k2; have z1 := cell_later hSw k3; have z2 := cell_later hSw k0; have z3 := cell_later hSw k1; clear hSw; go_simp; try with_reducible rfl)
              case' rest4rx0 => (try simp only [Act.put, List.setIfInBounds_toArray, List.set_cons_zero, List.set_cons_succ])
              refine wpAnyH_take (i := 1) (oi := { dst := some 30, op := Op.move (Operand.tmp 7), type := 3, pos := "l5_far.go:45", after := #[], guard := none }) (v := ?v4rx1) rfl (by kernel_rfl) (by kernel_rfl) (by kernel_rfl) (fun _ _ _ h => h) (Or.inl ⟨by rfl, ?hy4rx1⟩) (by with_reducible assumption) ?rest4rx1
              case hy4rx1 => (intro w hSw; (try dsimp only at hSw); have z0 := cell_later hSw k2; have z1 := cell_later hSw k3; have z2 := cell_later hSw k0; have z3 := cell_later hSw k1; clear hSw; go_simp; try with_reducible rfl)
              case' rest4rx1 => (try simp only [Act.put, List.setIfInBounds_toArray, List.set_cons_zero, List.set_cons_succ])
              refine wpAnyH_take (i := 3) (oi := { dst := some 32, op := Op.load 26 (Operand.tmp 8), type := 26, pos := "l5_far.go:45", after := #[], guard := none }) (v := ?v4rx3) rfl (by kernel_rfl) (by kernel_rfl) (by kernel_rfl) (fun _ _ _ h => h) (Or.inl ⟨by rfl, ?hy4rx3⟩) (by with_reducible assumption) ?rest4rx3
              case hy4rx3 => (intro w hSw; (try dsimp only at hSw); have z0 := cell_later hSw k2; have z1 := cell_later hSw k3; have z2 := cell_later hSw k0; have z3 := cell_later hSw k1; clear hSw; go_simp; try with_reducible rfl)
              case' rest4rx3 => (try simp only [Act.put, List.setIfInBounds_toArray, List.set_cons_zero, List.set_cons_succ])
              refine wpAnyH_take (i := 4) (oi := { dst := some 33, op := Op.load 26 (Operand.tmp 3), type := 26, pos := "l5_far.go:45", after := #[], guard := none }) (v := ?v4rx4) rfl (by kernel_rfl) (by kernel_rfl) (by kernel_rfl) (fun _ _ _ h => h) (Or.inl ⟨by rfl, ?hy4rx4⟩) (by with_reducible assumption) ?rest4rx4
              case hy4rx4 => (intro w hSw; (try dsimp only at hSw); have z0 := cell_later hSw k2; have z1 := cell_later hSw k3; have z2 := cell_later hSw k0; have z3 := cell_later hSw k1; clear hSw; go_simp; try with_reducible rfl)
              case' rest4rx4 => (try simp only [Act.put, List.setIfInBounds_toArray, List.set_cons_zero, List.set_cons_succ])
              refine wpAnyH_ready (rs := [2]) (by kernel_rfl) (by simp) ?_
              refine AllReadyH.cons (o := { dst := some 31, op := Op.call { callee := Callee.value (Operand.func 42), args := #[Operand.tmp 29, Operand.tmp 30], argTypes := #[24, 3] }, type := 26, pos := "l5_far.go:45", after := #[{ on := 0, ground := Ground.data }, { on := 1, ground := Ground.data }], guard := none }) rfl (fun K hK => ?_) AllReadyH.nil
              go_simp
              refine (nextOf_c l k _ _ _ _ rfl h1 hkl ((HA.out.later (grew HBX.out hHeld)).mono (grew HBX.out hHeld).size)).mono ?_
              rintro e w3 ⟨rfl, hb3⟩
              go_wp2_with fail
              refine hK.out _ _ ?_ (fun hHeld => ?_)
              · exact grew (by with_reducible assumption) hb3
              clear hK K
              try simp only [Act.put, List.setIfInBounds_toArray, List.set_cons_zero, List.set_cons_succ]
              refine wpAnyH_ready (rs := [5]) (by kernel_rfl) (by simp) ?_
              refine AllReadyH.cons (o := { dst := some 34, op := Op.call { callee := Callee.value (Operand.func 41), args := #[Operand.tmp 31, Operand.tmp 32, Operand.tmp 33], argTypes := #[26, 26, 26] }, type := 4, pos := "l5_far.go:45", after := #[{ on := 2, ground := Ground.data }, { on := 3, ground := Ground.data }, { on := 4, ground := Ground.data }, { on := 2, ground := Ground.chain }], guard := none }) rfl (fun K hK => ?_) AllReadyH.nil
              go_simp
              refine (turnsLeft_c _ _ _ _ _ _ _ (cell_later (grew HBX.out hHeld) C0.out)).mono ?_
              first | rw [hmm, hE] | rw [hE]
              rintro e w4 ⟨rfl, hb4⟩
              go_wp2_with fail
              refine hK.out _ _ ?_ (fun hHeld => ?_)
              · exact grew (by with_reducible assumption) hb4
              clear hK K
              try simp only [Act.put, List.setIfInBounds_toArray, List.set_cons_zero, List.set_cons_succ]
              refine wpAnyH_done (by kernel_rfl) ?_ _
              replace k0 := cell_later hHeld k0
              replace k1 := cell_later hHeld k1
              have HF := hid (grew HBX.out hHeld)
              have HO := hid (HOX.out.later hHeld)
              have hlt0 : w.heap.size < w4.heap.size := World.block_lt_of_cell? _ _ k0
              clear hHeld k2 k3 k4 k5
              go_wp2_with (at_builtin; refine wpList_append_i rfl (.tmp 35) (.tmp 37) 40 rfl (w.heap.size + 1) Tryz.underlying40 hi hz0 hz1 hz2 (by rfl) _ R (k : Int) rfl (HO.out.later (by go_grown)) ⟨w4.heap.size, 0, none⟩ 1 (by rfl) (by go_simp) rfl HL.out (by simp; omega) ?_; intro g cp w5 hO5 hg5 _; have hB5 := OwnI.grownBelow (HO.out.later (show Below w4.heap.size w4 (w4.alloc (.cells #[.int .i64 (k : Int)] 3)) by go_grown)) hg5 (by simp; omega); have k0' := (hB5.cell (p := ⟨w.heap.size, 0, none⟩) (by show w.heap.size < w.heap.size + 1; omega)).trans (cell_later (show Below w4.heap.size w4 (w4.alloc (.cells #[.int .i64 (k : Int)] 3)) by go_grown) k0); have k1' := (hB5.cell (p := ⟨w.heap.size, 1, none⟩) (by show w.heap.size < w.heap.size + 1; omega)).trans (cell_later (show Below w4.heap.size w4 (w4.alloc (.cells #[.int .i64 (k : Int)] 3)) by go_grown) k1); have HX5 := hid hO5; have HB5 := hid ((grew HF.out (show Below w4.heap.size w4 (w4.alloc (.cells #[.int .i64 (k : Int)] 3)) by go_grown)).trans (hB5.mono (Nat.le_succ _))); clear hg5 hO5 hB5)
              go_roundw
              case rel => exact ⟨k + 1, by omega, by go_num, by rw [HY.out]; exact HX5.out, k0', k1', HB5.out⟩
              case measure => simp [intOf]; omega
          · obtain rfl : k = l.length := by omega
            obtain ⟨a3, c3, hv3⟩ := HO.out.shape
            subst hv3
            go_wp2
            go_ret2
            exact ⟨_, ret_v rfl HZ.out.symm, by unfold seL; rw [HZ.out, if_pos rfl]; exact HO.out.mono (Nat.le_succ _), hbw⟩
    · have HZ := hid (show seOk l x y = false by unfold seOk; rw [hG, decide_eq_false h3, Bool.and_false])
      have hd : (l.length : Int) < 3 := by omega
      go_wp2_with (go_at_call 30; refine (goodHullImpl_c l _ _ _ _ rfl h1 ((HA.out.later hbw).mono hbw.size) (cell_later hbw C0.out)).mono ?_; rw [hG]; rintro e w1 ⟨rfl, hb⟩; replace hbw := grew hbw hb; replace k0 := cell_later hb k0; replace k1 := cell_later hb k1; clear hb)
      go_ret2
      exact ⟨_, ret_v rfl HZ.out.symm, by unfold seL; rw [HZ.out]; exact OwnI.nil _ _, hbw⟩
end Go.Proofs.YtegmlemejmahiaaGreatDoor
