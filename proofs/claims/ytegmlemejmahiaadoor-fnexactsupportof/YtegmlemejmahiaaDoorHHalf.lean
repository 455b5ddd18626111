/-
  Half a hull, in the specification (a contract for the walks).
  Conditions: as each theorem states them.
-/
import Derived.Test.YtegmlemejmahiaaDoorHList
import Derived.Deep.DeepCutAuto
namespace Go.Proofs.YtegmlemejmahiaaDoor
open Go.RowKit
set_option linter.unusedVariables false
theorem pt_take {l : List (Int × Int)} {k : Nat} (h : k < l.length) : l.take (k + 1) = l.take k ++ [(px l k, py l k)] := by
  rw [List.take_succ_eq_append_getElem h]
  have e : (px l k, py l k) = l[k] := by simp [px, py, h]
  rw [e]
theorem keepB_few {t : Int × Int → Int × Int → Int × Int → Bool} {l : List (Int × Int)} {p : Int × Int} {n : Nat} (h : ¬ 1 < n) : keepB t l p n = n := keepB_one n (by omega)
/-- What the round's box holds is laid behind what stays. -/
theorem half_step {N : Nat} {a : Option Addr} {c n : Nat} {L : List (Int × Int)} {p : Int × Int} {u : World} (hO : OwnC N (.slice a L.length c) L u) (hn : n ≤ L.length) (hk : n = keepB slB L p L.length) : OwnC N (.slice a n c) (L.take (keepB slB L p L.length)) u := by
  subst hk
  refine hO.take hn ?_ (Nat.le_refl _)
  rcases hO.fit with ⟨rfl, rfl, h0⟩ | ⟨_, h1, _⟩ <;> omega
set_option maxHeartbeats 400000 in
theorem l3Half_c (l : List (Int × Int)) (a : Option Addr) (len cap : Nat) (w : World) (hl : l.length = len) (h1 : len ≤ 1048576) (hA : At w.heap.size a l w) :
    Calls Tryd.prog 80 #[.slice a len cap] w fun e w' => ∃ v, e = .returned v ∧ OwnC w.heap.size v (chainB slB l) w' ∧ Below w.heap.size w w' := by
  subst hl
  have HA := hid hA
  clear hA
  obtain ⟨i0, hi, hz0, hz1, hz2⟩ := info_parts info_pt
  go_enter Tryd.func80, Tryd.ntmps80
  go_wp2
  go_loopw [3, 8] (fun o i wr => ∃ k : Nat, k ≤ l.length ∧ i = .int .i64 k ∧ OwnC w.heap.size o (chainB slB (l.take k)) wr ∧ Below w.heap.size w wr) (fun o i _ => l.length - (intOf i).toNat)
  case atStart => exact ⟨0, Nat.zero_le _, rfl, OwnC.nil _ _, Below.refl _ _⟩
  case round =>
    obtain ⟨k, hk, rfl, hO, hbw⟩ := hrel
    by_cases hkl : k < l.length
    · obtain ⟨b, off, rfl, hbN, g0, g1⟩ := HA.out k hkl
      have q0 := cell_later hbw g0
      have q1 := cell_later hbw g1
      have hsz := hbw.size
      have hstep : chainB slB (l.take (k + 1)) = stepB slB (chainB slB (l.take k)) (px l k, py l k) := by rw [pt_take hkl, chainB_snoc]
      have hLl : (chainB slB (l.take k)).length ≤ k := Nat.le_trans (chainB_len _) (by rw [List.length_take]; omega)
      have HS := hid hstep
      clear g0 g1 hstep
      obtain ⟨L, hL⟩ : ∃ L, chainB slB (l.take k) = L := ⟨_, rfl⟩
      rw [hL] at hO hLl HS
      obtain ⟨a3, c3, hv3⟩ := hO.shape
      subst hv3
      have HO := hid hO
      have hcl : L.length ≤ c3 := by
        rcases hO.fit with ⟨_, _, h0⟩ | ⟨_, h1, _⟩ <;> omega
      clear hO hL
      have r0 : (wr.alloc (.cells #[.int .i64 (px l k), .int .i64 (py l k)] 26)).cell? ⟨wr.heap.size, 0, none⟩ = some (.int .i64 (px l k)) := by simp [go_sem]
      have r1 : (wr.alloc (.cells #[.int .i64 (px l k), .int .i64 (py l k)] 26)).cell? ⟨wr.heap.size, 1, none⟩ = some (.int .i64 (py l k)) := by simp [go_sem]
      have hbA : Below wr.heap.size wr (wr.alloc (.cells #[.int .i64 (px l k), .int .i64 (py l k)] 26)) := by go_grown
      obtain ⟨x, hx⟩ : ∃ x, px l k = x := ⟨_, rfl⟩
      obtain ⟨y, hy⟩ : ∃ y, py l k = y := ⟨_, rfl⟩
      rw [hx, hy] at HS
      rw [hx] at q0 r0 r1 hbA
      rw [hy] at q1 r0 r1 hbA
      clear hx hy
      go_wp2
      generalize wr.alloc (.cells #[.int .i64 x, .int .i64 y] 26) = wA at r0 r1 hbA ⊢
      obtain ⟨wo, rfl⟩ : ∃ wo, wo = wr := ⟨wr, rfl⟩
      generalize hBx : wo.heap.size = Bx at r0 r1 ⊢
      go_loopw [3] (fun o u => ∃ n : Nat, n ≤ L.length ∧ o = .slice a3 n c3 ∧ keepB slB L (x, y) n = keepB slB L (x, y) L.length ∧ Below wA.heap.size wA u) (fun o _ => match o with | .slice _ n _ => n | _ => 0)
      case atStart => exact ⟨L.length, Nat.le_refl _, rfl, rfl, Below.refl _ _⟩
      case round =>
        obtain ⟨n, hn, rfl, hkn, hbu⟩ := hrel
        have z0 := cell_later hbu r0
        have z1 := cell_later hbu r1
        have HKN := hid hkn
        have HBU := hid hbu
        clear hkn
        by_cases hn1 : 1 < n
        · obtain ⟨m, hm⟩ : ∃ m, n = m + 2 := ⟨n - 2, by omega⟩
          obtain ⟨b3, o3, hb3, _, e0, e1⟩ := HO.out.at m (by omega)
          obtain ⟨j, hj⟩ : ∃ j, j = m + 1 := ⟨_, rfl⟩
          obtain ⟨b4, o4, hb4, _, e2, e3⟩ := HO.out.at j (by omega)
          obtain ⟨rfl, rfl⟩ : b4 = b3 ∧ o4 = o3 := by rw [hb3] at hb4; simp at hb4; exact ⟨hb4.1.symm, hb4.2.symm⟩
          subst hb3
          have s0 := cell_later hbu (cell_later hbA e0)
          have s1 := cell_later hbu (cell_later hbA e1)
          have s2 := cell_later hbu (cell_later hbA e2)
          have s3 := cell_later hbu (cell_later hbA e3)
          have s4 := z0
          have s5 := z1
          clear e0 e1 e2 e3 hb4 z0 z1 r0 r1 hbu
          have hi0 : IntKind.i64.wrap ((n : Int) - 2) = (m : Int) := by rw [IntKind.wrap_i64]; omega
          have hi1 : IntKind.i64.wrap ((n : Int) - 1) = (j : Int) := by rw [IntKind.wrap_i64]; omega
          have hi2 : (0 : Int) ≤ (m : Int) := by omega
          have hi3 : (m : Int) < (n : Int) := by omega
          have hi4 : (j : Int) < (n : Int) := by omega
          have hi5 : m < n := by omega
          have hi6 : j < n := by omega
          have hi8 : (j : Int) ≤ (c3 : Int) := by omega
          have hi7 : (0 : Int) ≤ (j : Int) := by omega
          have HJ := hid hj
          clear hj
          have hd : decide (1 < (n : Int)) = true := decide_eq_true (by omega)
          have HM := hid hm
          clear hm
          cases hE : slB (px L m, py L m) (px L j, py L j) (x, y)
          · have hs : decide (sg (crossW (px L m) (py L m) (px L j) (py L j) x y) ≤ 0) = true := by simpa [slB] using hE
            go_wp2
            refine wp_region_held_drew (S := (fun u => Below wr.heap.size wr u)) (by kernel_rfl) ?_ (fun hHeld => ?_)
            · exact (Below.refl _ _).drew
            refine wpAnyH_take (i := 0) (oi := { dst := some 12, op := Op.move (Operand.tmp 3), type := 29, pos := "l3_hull.go:9", after := #[], guard := none }) (v := ?v3rx0) rfl (by kernel_rfl) (by kernel_rfl) (by kernel_rfl) (fun _ _ _ h => h) (Or.inl ⟨by rfl, ?hy3rx0⟩) (by with_reducible assumption) ?rest3rx0
            case hy3rx0 => (intro w hSw; (try dsimp only at hSw); have z0 := cell_later hSw s0; have z1 := cell_later hSw s1; have z2 := cell_later hSw s2; have z3 := cell_later hSw s3; have z4 := cell_later hSw s4; have z5 := cell_later hSw s5; clear hSw; go_simp; try with_reducible rfl)
            case' rest3rx0 => (try simp only [Act.put, List.setIfInBounds_toArray, List.set_cons_zero, List.set_cons_succ])
            refine wpAnyH_take (i := 1) (oi := { dst := some 13, op := Op.call { callee := Callee.builtin Builtin.len, args := #[Operand.tmp 12], argTypes := #[29] }, type := 3, pos := "l3_hull.go:9", after := #[{ on := 0, ground := Ground.data }], guard := none }) (v := ?v3rx1) rfl (by kernel_rfl) (by kernel_rfl) (by kernel_rfl) (fun _ _ _ h => h) (Or.inl ⟨by rfl, ?hy3rx1⟩) (by with_reducible assumption) ?rest3rx1
            case hy3rx1 => (intro w hSw; (try dsimp only at hSw); have z0 := cell_later hSw s0; have z1 := cell_later hSw s1; have z2 := cell_later hSw s2; have z3 := cell_later hSw s3; have z4 := cell_later hSw s4; have z5 := cell_later hSw s5; clear hSw; go_simp; try with_reducible rfl)
            case' rest3rx1 => (try simp only [Act.put, List.setIfInBounds_toArray, List.set_cons_zero, List.set_cons_succ])
            refine wpAnyH_take (i := 2) (oi := { dst := some 14, op := Op.binOp BinOp.gtr 3 (Operand.tmp 13) (Operand.const (Value.int IntKind.i64 1)) 3, type := 4, pos := "l3_hull.go:9", after := #[{ on := 1, ground := Ground.data }], guard := none }) (v := ?v3rx2) rfl (by kernel_rfl) (by kernel_rfl) (by kernel_rfl) (fun _ _ _ h => h) (Or.inl ⟨by rfl, ?hy3rx2⟩) (by with_reducible assumption) ?rest3rx2
            case hy3rx2 => (intro w hSw; (try dsimp only at hSw); have z0 := cell_later hSw s0; have z1 := cell_later hSw s1; have z2 := cell_later hSw s2; have z3 := cell_later hSw s3; have z4 := cell_later hSw s4; have z5 := cell_later hSw s5; clear hSw; go_simp; try with_reducible rfl)
            case' rest3rx2 => (try simp only [Act.put, List.setIfInBounds_toArray, List.set_cons_zero, List.set_cons_succ])
            refine wpAnyH_take (i := 3) (oi := { dst := some 15, op := Op.move (Operand.tmp 14), type := 4, pos := "l3_hull.go:9", after := #[{ on := 2, ground := Ground.data }], guard := none }) (v := ?v3rx3) rfl (by kernel_rfl) (by kernel_rfl) (by kernel_rfl) (fun _ _ _ h => h) (Or.inl ⟨by rfl, ?hy3rx3⟩) (by with_reducible assumption) ?rest3rx3
            case hy3rx3 => (intro w hSw; (try dsimp only at hSw); have z0 := cell_later hSw s0; have z1 := cell_later hSw s1; have z2 := cell_later hSw s2; have z3 := cell_later hSw s3; have z4 := cell_later hSw s4; have z5 := cell_later hSw s5; clear hSw; go_simp; try with_reducible rfl)
            case' rest3rx3 => (try simp only [Act.put, List.setIfInBounds_toArray, List.set_cons_zero, List.set_cons_succ])
            refine wpAnyH_take (i := 4) (oi := { dst := some 16, op := Op.move (Operand.tmp 3), type := 29, pos := "l3_hull.go:9", after := #[{ on := 3, ground := Ground.guard }], guard := some (3, true) }) (v := ?v3rx4) rfl (by kernel_rfl) (by kernel_rfl) (by kernel_rfl) (fun _ _ _ h => h) (Or.inl ⟨by rfl, ?hy3rx4⟩) (by with_reducible assumption) ?rest3rx4
            case hy3rx4 => (intro w hSw; (try dsimp only at hSw); have z0 := cell_later hSw s0; have z1 := cell_later hSw s1; have z2 := cell_later hSw s2; have z3 := cell_later hSw s3; have z4 := cell_later hSw s4; have z5 := cell_later hSw s5; clear hSw; go_simp; try with_reducible rfl)
            case' rest3rx4 => (try simp only [Act.put, List.setIfInBounds_toArray, List.set_cons_zero, List.set_cons_succ])
            refine wpAnyH_take (i := 5) (oi := { dst := some 17, op := Op.move (Operand.tmp 3), type := 29, pos := "l3_hull.go:9", after := #[{ on := 3, ground := Ground.guard }], guard := some (3, true) }) (v := ?v3rx5) rfl (by kernel_rfl) (by kernel_rfl) (by kernel_rfl) (fun _ _ _ h => h) (Or.inl ⟨by rfl, ?hy3rx5⟩) (by with_reducible assumption) ?rest3rx5
            case hy3rx5 => (intro w hSw; (try dsimp only at hSw); have z0 := cell_later hSw s0; have z1 := cell_later hSw s1; have z2 := cell_later hSw s2; have z3 := cell_later hSw s3; have z4 := cell_later hSw s4; have z5 := cell_later hSw s5; clear hSw; go_simp; try with_reducible rfl)
            case' rest3rx5 => (try simp only [Act.put, List.setIfInBounds_toArray, List.set_cons_zero, List.set_cons_succ])
            refine wpAnyH_take (i := 6) (oi := { dst := some 18, op := Op.call { callee := Callee.builtin Builtin.len, args := #[Operand.tmp 17], argTypes := #[29] }, type := 3, pos := "l3_hull.go:9", after := #[{ on := 5, ground := Ground.data }, { on := 3, ground := Ground.guard }], guard := some (3, true) }) (v := ?v3rx6) rfl (by kernel_rfl) (by kernel_rfl) (by kernel_rfl) (fun _ _ _ h => h) (Or.inl ⟨by rfl, ?hy3rx6⟩) (by with_reducible assumption) ?rest3rx6
            case hy3rx6 => (intro w hSw; (try dsimp only at hSw); have z0 := cell_later hSw s0; have z1 := cell_later hSw s1; have z2 := cell_later hSw s2; have z3 := cell_later hSw s3; have z4 := cell_later hSw s4; have z5 := cell_later hSw s5; clear hSw; go_simp; try with_reducible rfl)
            case' rest3rx6 => (try simp only [Act.put, List.setIfInBounds_toArray, List.set_cons_zero, List.set_cons_succ])
            refine wpAnyH_take (i := 7) (oi := { dst := some 19, op := Op.binOp BinOp.sub 3 (Operand.tmp 18) (Operand.const (Value.int IntKind.i64 2)) 3, type := 3, pos := "l3_hull.go:9", after := #[{ on := 6, ground := Ground.data }, { on := 3, ground := Ground.guard }], guard := some (3, true) }) (v := ?v3rx7) rfl (by kernel_rfl) (by kernel_rfl) (by kernel_rfl) (fun _ _ _ h => h) (Or.inl ⟨by rfl, ?hy3rx7⟩) (by with_reducible assumption) ?rest3rx7
            case hy3rx7 => (intro w hSw; (try dsimp only at hSw); have z0 := cell_later hSw s0; have z1 := cell_later hSw s1; have z2 := cell_later hSw s2; have z3 := cell_later hSw s3; have z4 := cell_later hSw s4; have z5 := cell_later hSw s5; clear hSw; go_simp; try with_reducible rfl)
            case' rest3rx7 => (try simp only [Act.put, List.setIfInBounds_toArray, List.set_cons_zero, List.set_cons_succ])
            refine wpAnyH_take (i := 8) (oi := { dst := some 20, op := Op.indexAddr 29 (Operand.tmp 16) (Operand.tmp 19), type := 0, pos := "l3_hull.go:9", after := #[{ on := 4, ground := Ground.data }, { on := 7, ground := Ground.data }, { on := 3, ground := Ground.guard }], guard := some (3, true) }) (v := ?v3rx8) rfl (by kernel_rfl) (by kernel_rfl) (by kernel_rfl) (fun _ _ _ h => h) (Or.inl ⟨by rfl, ?hy3rx8⟩) (by with_reducible assumption) ?rest3rx8
            case hy3rx8 => (intro w hSw; (try dsimp only at hSw); have z0 := cell_later hSw s0; have z1 := cell_later hSw s1; have z2 := cell_later hSw s2; have z3 := cell_later hSw s3; have z4 := cell_later hSw s4; have z5 := cell_later hSw s5; clear hSw; go_simp; try with_reducible rfl)
            case' rest3rx8 => (try simp only [Act.put, List.setIfInBounds_toArray, List.set_cons_zero, List.set_cons_succ])
            refine wpAnyH_take (i := 9) (oi := { dst := some 21, op := Op.load 26 (Operand.tmp 20), type := 26, pos := "l3_hull.go:9", after := #[{ on := 8, ground := Ground.data }, { on := 3, ground := Ground.guard }], guard := some (3, true) }) (v := ?v3rx9) rfl (by kernel_rfl) (by kernel_rfl) (by kernel_rfl) (fun _ _ _ h => h) (Or.inl ⟨by rfl, ?hy3rx9⟩) (by with_reducible assumption) ?rest3rx9
            case hy3rx9 => (intro w hSw; (try dsimp only at hSw); have z0 := cell_later hSw s0; have z1 := cell_later hSw s1; have z2 := cell_later hSw s2; have z3 := cell_later hSw s3; have z4 := cell_later hSw s4; have z5 := cell_later hSw s5; clear hSw; go_simp; try with_reducible rfl)
            case' rest3rx9 => (try simp only [Act.put, List.setIfInBounds_toArray, List.set_cons_zero, List.set_cons_succ])
            refine wpAnyH_take (i := 10) (oi := { dst := some 22, op := Op.move (Operand.tmp 3), type := 29, pos := "l3_hull.go:9", after := #[{ on := 3, ground := Ground.guard }], guard := some (3, true) }) (v := ?v3rx10) rfl (by kernel_rfl) (by kernel_rfl) (by kernel_rfl) (fun _ _ _ h => h) (Or.inl ⟨by rfl, ?hy3rx10⟩) (by with_reducible assumption) ?rest3rx10
            case hy3rx10 => (intro w hSw; (try dsimp only at hSw); have z0 := cell_later hSw s0; have z1 := cell_later hSw s1; have z2 := cell_later hSw s2; have z3 := cell_later hSw s3; have z4 := cell_later hSw s4; have z5 := cell_later hSw s5; clear hSw; go_simp; try with_reducible rfl)
            case' rest3rx10 => (try simp only [Act.put, List.setIfInBounds_toArray, List.set_cons_zero, List.set_cons_succ])
            refine wpAnyH_take (i := 11) (oi := { dst := some 23, op := Op.move (Operand.tmp 3), type := 29, pos := "l3_hull.go:9", after := #[{ on := 3, ground := Ground.guard }], guard := some (3, true) }) (v := ?v3rx11) rfl (by kernel_rfl) (by kernel_rfl) (by kernel_rfl) (fun _ _ _ h => h) (Or.inl ⟨by rfl, ?hy3rx11⟩) (by with_reducible assumption) ?rest3rx11
            case hy3rx11 => (intro w hSw; (try dsimp only at hSw); have z0 := cell_later hSw s0; have z1 := cell_later hSw s1; have z2 := cell_later hSw s2; have z3 := cell_later hSw s3; have z4 := cell_later hSw s4; have z5 := cell_later hSw s5; clear hSw; go_simp; try with_reducible rfl)
            case' rest3rx11 => (try simp only [Act.put, List.setIfInBounds_toArray, List.set_cons_zero, List.set_cons_succ])
            refine wpAnyH_take (i := 12) (oi := { dst := some 24, op := Op.call { callee := Callee.builtin Builtin.len, args := #[Operand.tmp 23], argTypes := #[29] }, type := 3, pos := "l3_hull.go:9", after := #[{ on := 11, ground := Ground.data }, { on := 3, ground := Ground.guard }], guard := some (3, true) }) (v := ?v3rx12) rfl (by kernel_rfl) (by kernel_rfl) (by kernel_rfl) (fun _ _ _ h => h) (Or.inl ⟨by rfl, ?hy3rx12⟩) (by with_reducible assumption) ?rest3rx12
            case hy3rx12 => (intro w hSw; (try dsimp only at hSw); have z0 := cell_later hSw s0; have z1 := cell_later hSw s1; have z2 := cell_later hSw s2; have z3 := cell_later hSw s3; have z4 := cell_later hSw s4; have z5 := cell_later hSw s5; clear hSw; go_simp; try with_reducible rfl)
            case' rest3rx12 => (try simp only [Act.put, List.setIfInBounds_toArray, List.set_cons_zero, List.set_cons_succ])
            refine wpAnyH_take (i := 13) (oi := { dst := some 25, op := Op.binOp BinOp.sub 3 (Operand.tmp 24) (Operand.const (Value.int IntKind.i64 1)) 3, type := 3, pos := "l3_hull.go:9", after := #[{ on := 12, ground := Ground.data }, { on := 3, ground := Ground.guard }], guard := some (3, true) }) (v := ?v3rx13) rfl (by kernel_rfl) (by kernel_rfl) (by kernel_rfl) (fun _ _ _ h => h) (Or.inl ⟨by rfl, ?hy3rx13⟩) (by with_reducible assumption) ?rest3rx13
            case hy3rx13 => (intro w hSw; (try dsimp only at hSw); have z0 := cell_later hSw s0; have z1 := cell_later hSw s1; have z2 := cell_later hSw s2; have z3 := cell_later hSw s3; have z4 := cell_later hSw s4; have z5 := cell_later hSw s5; clear hSw; go_simp; try with_reducible rfl)
            case' rest3rx13 => (try simp only [Act.put, List.setIfInBounds_toArray, List.set_cons_zero, List.set_cons_succ])
            refine wpAnyH_take (i := 14) (oi := { dst := some 26, op := Op.indexAddr 29 (Operand.tmp 22) (Operand.tmp 25), type := 0, pos := "l3_hull.go:9", after := #[{ on := 10, ground := Ground.data }, { on := 13, ground := Ground.data }, { on := 3, ground := Ground.guard }], guard := some (3, true) }) (v := ?v3rx14) rfl (by kernel_rfl) (by kernel_rfl) (by kernel_rfl) (fun _ _ _ h => h) (Or.inl ⟨by rfl, ?hy3rx14⟩) (by with_reducible assumption) ?rest3rx14
            case hy3rx14 => (intro w hSw; (try dsimp only at hSw); have z0 := cell_later hSw s0; have z1 := cell_later hSw s1; have z2 := cell_later hSw s2; have z3 := cell_later hSw s3; have z4 := cell_later hSw s4; have z5 := cell_later hSw s5; clear hSw; go_simp; try with_reducible rfl)
            case' rest3rx14 => (try simp only [Act.put, List.setIfInBounds_toArray, List.set_cons_zero, List.set_cons_succ])
            refine wpAnyH_take (i := 15) (oi := { dst := some 27, op := Op.load 26 (Operand.tmp 26), type := 26, pos := "l3_hull.go:9", after := #[{ on := 14, ground := Ground.data }, { on := 3, ground := Ground.guard }], guard := some (3, true) }) (v := ?v3rx15) rfl (by kernel_rfl) (by kernel_rfl) (by kernel_rfl) (fun _ _ _ h => h) (Or.inl ⟨by rfl, ?hy3rx15⟩) (by with_reducible assumption) ?rest3rx15
            case hy3rx15 => (intro w hSw; (try dsimp only at hSw); have z0 := cell_later hSw s0; have z1 := cell_later hSw s1; have z2 := cell_later hSw s2; have z3 := cell_later hSw s3; have z4 := cell_later hSw s4; have z5 := cell_later hSw s5; clear hSw; go_simp; try with_reducible rfl)
            case' rest3rx15 => (try simp only [Act.put, List.setIfInBounds_toArray, List.set_cons_zero, List.set_cons_succ])
            refine wpAnyH_take (i := 16) (oi := { dst := some 28, op := Op.load 26 (Operand.tmp 5), type := 26, pos := "l3_hull.go:9", after := #[{ on := 3, ground := Ground.guard }], guard := some (3, true) }) (v := ?v3rx16) rfl (by kernel_rfl) (by kernel_rfl) (by kernel_rfl) (fun _ _ _ h => h) (Or.inl ⟨by rfl, ?hy3rx16⟩) (by with_reducible assumption) ?rest3rx16
            case hy3rx16 => (intro w hSw; (try dsimp only at hSw); have z0 := cell_later hSw s0; have z1 := cell_later hSw s1; have z2 := cell_later hSw s2; have z3 := cell_later hSw s3; have z4 := cell_later hSw s4; have z5 := cell_later hSw s5; clear hSw; go_simp; try with_reducible rfl)
            case' rest3rx16 => (try simp only [Act.put, List.setIfInBounds_toArray, List.set_cons_zero, List.set_cons_succ])
            refine wpAnyH_ready (rs := [17]) (by kernel_rfl) (by simp) ?_
            refine AllReadyH.cons (o := { dst := some 29, op := Op.call { callee := Callee.value (Operand.func 79), args := #[Operand.tmp 21, Operand.tmp 27, Operand.tmp 28], argTypes := #[26, 26, 26] }, type := 3, pos := "l3_hull.go:9", after := #[{ on := 9, ground := Ground.data }, { on := 15, ground := Ground.data }, { on := 16, ground := Ground.data }, { on := 3, ground := Ground.chain }, { on := 3, ground := Ground.guard }], guard := some (3, true) }) rfl (fun K hK => ?_) AllReadyH.nil
            go_simp
            refine (side_c _ _ _ _ _ _ _).mono ?_
            rintro e w' ⟨rfl, hb⟩
            go_wp2_with fail
            refine hK.out _ _ ?_ (fun hHeld => ?_)
            · exact grew (by with_reducible assumption) hb
            clear hK K
            try simp only [Act.put, List.setIfInBounds_toArray, List.set_cons_zero, List.set_cons_succ]
            refine wpAnyH_take (i := 18) (oi := { dst := some 30, op := Op.binOp BinOp.leq 3 (Operand.tmp 29) (Operand.const (Value.int IntKind.i64 0)) 3, type := 4, pos := "l3_hull.go:9", after := #[{ on := 17, ground := Ground.data }, { on := 3, ground := Ground.guard }], guard := some (3, true) }) (v := ?v3rx18) rfl (by kernel_rfl) (by kernel_rfl) (by kernel_rfl) (fun _ _ _ h => h) (Or.inl ⟨by rfl, ?hy3rx18⟩) (by with_reducible assumption) ?rest3rx18
            case hy3rx18 => (intro w hSw; (try dsimp only at hSw); have z0 := cell_later hSw s0; have z1 := cell_later hSw s1; have z2 := cell_later hSw s2; have z3 := cell_later hSw s3; have z4 := cell_later hSw s4; have z5 := cell_later hSw s5; clear hSw; go_simp; try with_reducible rfl)
            case' rest3rx18 => (try simp only [Act.put, List.setIfInBounds_toArray, List.set_cons_zero, List.set_cons_succ])
            refine wpAnyH_take (i := 19) (oi := { dst := some 31, op := Op.pick (Operand.tmp 15) (Operand.tmp 30) (Operand.const (Value.bool false)), type := 4, pos := "l3_hull.go:9", after := #[{ on := 3, ground := Ground.data }, { on := 18, ground := Ground.data }], guard := none }) (v := ?v3rx19) rfl (by kernel_rfl) (by kernel_rfl) (by kernel_rfl) (fun _ _ _ h => h) (Or.inl ⟨by rfl, ?hy3rx19⟩) (by with_reducible assumption) ?rest3rx19
            case hy3rx19 => (intro w hSw; (try dsimp only at hSw); have z0 := cell_later hSw s0; have z1 := cell_later hSw s1; have z2 := cell_later hSw s2; have z3 := cell_later hSw s3; have z4 := cell_later hSw s4; have z5 := cell_later hSw s5; clear hSw; go_simp; try with_reducible rfl)
            case' rest3rx19 => (try simp only [Act.put, List.setIfInBounds_toArray, List.set_cons_zero, List.set_cons_succ])
            refine wpAnyH_done (by kernel_rfl) ?_ _
            go_wp2
            go_roundw
            case rel =>
              refine ⟨j, by omega, by first | rfl | simp, ?_, grew HBU.out (by with_reducible assumption)⟩
              have e1 := HM.out
              have e2 := HJ.out
              subst e1
              subst e2
              rw [← HKN.out]
              exact (keepB_go hE).symm
            case measure => first | omega | (simp; omega)
          · have hs : decide (sg (crossW (px L m) (py L m) (px L j) (py L j) x y) ≤ 0) = false := by simpa [slB] using hE
            have HO2 : Hid (OwnC w.heap.size (.slice (some ⟨b4, o4, none⟩) n c3) (L.take (keepB slB L (x, y) L.length)) wr) := by
              refine half_step (HO.out.later (grew hbA HBU.out)) hn ?_
              have e1 := HM.out
              have e2 := HJ.out
              subst e1
              subst e2
              rw [← HKN.out]
              exact (keepB_stop hE).symm
            go_wp2
            refine wp_region_held_drew (S := (fun u => Below wr.heap.size wr u)) (by kernel_rfl) ?_ (fun hHeld => ?_)
            · exact (Below.refl _ _).drew
            refine wpAnyH_take (i := 0) (oi := { dst := some 12, op := Op.move (Operand.tmp 3), type := 29, pos := "l3_hull.go:9", after := #[], guard := none }) (v := ?v4rx0) rfl (by kernel_rfl) (by kernel_rfl) (by kernel_rfl) (fun _ _ _ h => h) (Or.inl ⟨by rfl, ?hy4rx0⟩) (by with_reducible assumption) ?rest4rx0
            case hy4rx0 => (intro w hSw; (try dsimp only at hSw); have z0 := cell_later hSw s0; have z1 := cell_later hSw s1; have z2 := cell_later hSw s2; have z3 := cell_later hSw s3; have z4 := cell_later hSw s4; have z5 := cell_later hSw s5; clear hSw; go_simp; try with_reducible rfl)
            case' rest4rx0 => (try simp only [Act.put, List.setIfInBounds_toArray, List.set_cons_zero, List.set_cons_succ])
            refine wpAnyH_take (i := 1) (oi := { dst := some 13, op := Op.call { callee := Callee.builtin Builtin.len, args := #[Operand.tmp 12], argTypes := #[29] }, type := 3, pos := "l3_hull.go:9", after := #[{ on := 0, ground := Ground.data }], guard := none }) (v := ?v4rx1) rfl (by kernel_rfl) (by kernel_rfl) (by kernel_rfl) (fun _ _ _ h => h) (Or.inl ⟨by rfl, ?hy4rx1⟩) (by with_reducible assumption) ?rest4rx1
            case hy4rx1 => (intro w hSw; (try dsimp only at hSw); have z0 := cell_later hSw s0; have z1 := cell_later hSw s1; have z2 := cell_later hSw s2; have z3 := cell_later hSw s3; have z4 := cell_later hSw s4; have z5 := cell_later hSw s5; clear hSw; go_simp; try with_reducible rfl)
            case' rest4rx1 => (try simp only [Act.put, List.setIfInBounds_toArray, List.set_cons_zero, List.set_cons_succ])
            refine wpAnyH_take (i := 2) (oi := { dst := some 14, op := Op.binOp BinOp.gtr 3 (Operand.tmp 13) (Operand.const (Value.int IntKind.i64 1)) 3, type := 4, pos := "l3_hull.go:9", after := #[{ on := 1, ground := Ground.data }], guard := none }) (v := ?v4rx2) rfl (by kernel_rfl) (by kernel_rfl) (by kernel_rfl) (fun _ _ _ h => h) (Or.inl ⟨by rfl, ?hy4rx2⟩) (by with_reducible assumption) ?rest4rx2
            case hy4rx2 => (intro w hSw; (try dsimp only at hSw); have z0 := cell_later hSw s0; have z1 := cell_later hSw s1; have z2 := cell_later hSw s2; have z3 := cell_later hSw s3; have z4 := cell_later hSw s4; have z5 := cell_later hSw s5; clear hSw; go_simp; try with_reducible rfl)
            case' rest4rx2 => (try simp only [Act.put, List.setIfInBounds_toArray, List.set_cons_zero, List.set_cons_succ])
            refine wpAnyH_take (i := 3) (oi := { dst := some 15, op := Op.move (Operand.tmp 14), type := 4, pos := "l3_hull.go:9", after := #[{ on := 2, ground := Ground.data }], guard := none }) (v := ?v4rx3) rfl (by kernel_rfl) (by kernel_rfl) (by kernel_rfl) (fun _ _ _ h => h) (Or.inl ⟨by rfl, ?hy4rx3⟩) (by with_reducible assumption) ?rest4rx3
            case hy4rx3 => (intro w hSw; (try dsimp only at hSw); have z0 := cell_later hSw s0; have z1 := cell_later hSw s1; have z2 := cell_later hSw s2; have z3 := cell_later hSw s3; have z4 := cell_later hSw s4; have z5 := cell_later hSw s5; clear hSw; go_simp; try with_reducible rfl)
            case' rest4rx3 => (try simp only [Act.put, List.setIfInBounds_toArray, List.set_cons_zero, List.set_cons_succ])
            refine wpAnyH_take (i := 4) (oi := { dst := some 16, op := Op.move (Operand.tmp 3), type := 29, pos := "l3_hull.go:9", after := #[{ on := 3, ground := Ground.guard }], guard := some (3, true) }) (v := ?v4rx4) rfl (by kernel_rfl) (by kernel_rfl) (by kernel_rfl) (fun _ _ _ h => h) (Or.inl ⟨by rfl, ?hy4rx4⟩) (by with_reducible assumption) ?rest4rx4
            case hy4rx4 => (intro w hSw; (try dsimp only at hSw); have z0 := cell_later hSw s0; have z1 := cell_later hSw s1; have z2 := cell_later hSw s2; have z3 := cell_later hSw s3; have z4 := cell_later hSw s4; have z5 := cell_later hSw s5; clear hSw; go_simp; try with_reducible rfl)
            case' rest4rx4 => (try simp only [Act.put, List.setIfInBounds_toArray, List.set_cons_zero, List.set_cons_succ])
            refine wpAnyH_take (i := 5) (oi := { dst := some 17, op := Op.move (Operand.tmp 3), type := 29, pos := "l3_hull.go:9", after := #[{ on := 3, ground := Ground.guard }], guard := some (3, true) }) (v := ?v4rx5) rfl (by kernel_rfl) (by kernel_rfl) (by kernel_rfl) (fun _ _ _ h => h) (Or.inl ⟨by rfl, ?hy4rx5⟩) (by with_reducible assumption) ?rest4rx5
            case hy4rx5 => (intro w hSw; (try dsimp only at hSw); have z0 := cell_later hSw s0; have z1 := cell_later hSw s1; have z2 := cell_later hSw s2; have z3 := cell_later hSw s3; have z4 := cell_later hSw s4; have z5 := cell_later hSw s5; clear hSw; go_simp; try with_reducible rfl)
            case' rest4rx5 => (try simp only [Act.put, List.setIfInBounds_toArray, List.set_cons_zero, List.set_cons_succ])
            refine wpAnyH_take (i := 6) (oi := { dst := some 18, op := Op.call { callee := Callee.builtin Builtin.len, args := #[Operand.tmp 17], argTypes := #[29] }, type := 3, pos := "l3_hull.go:9", after := #[{ on := 5, ground := Ground.data }, { on := 3, ground := Ground.guard }], guard := some (3, true) }) (v := ?v4rx6) rfl (by kernel_rfl) (by kernel_rfl) (by kernel_rfl) (fun _ _ _ h => h) (Or.inl ⟨by rfl, ?hy4rx6⟩) (by with_reducible assumption) ?rest4rx6
            case hy4rx6 => (intro w hSw; (try dsimp only at hSw); have z0 := cell_later hSw s0; have z1 := cell_later hSw s1; have z2 := cell_later hSw s2; have z3 := cell_later hSw s3; have z4 := cell_later hSw s4; have z5 := cell_later hSw s5; clear hSw; go_simp; try with_reducible rfl)
            case' rest4rx6 => (try simp only [Act.put, List.setIfInBounds_toArray, List.set_cons_zero, List.set_cons_succ])
            refine wpAnyH_take (i := 7) (oi := { dst := some 19, op := Op.binOp BinOp.sub 3 (Operand.tmp 18) (Operand.const (Value.int IntKind.i64 2)) 3, type := 3, pos := "l3_hull.go:9", after := #[{ on := 6, ground := Ground.data }, { on := 3, ground := Ground.guard }], guard := some (3, true) }) (v := ?v4rx7) rfl (by kernel_rfl) (by kernel_rfl) (by kernel_rfl) (fun _ _ _ h => h) (Or.inl ⟨by rfl, ?hy4rx7⟩) (by with_reducible assumption) ?rest4rx7
            case hy4rx7 => (intro w hSw; (try dsimp only at hSw); have z0 := cell_later hSw s0; have z1 := cell_later hSw s1; have z2 := cell_later hSw s2; have z3 := cell_later hSw s3; have z4 := cell_later hSw s4; have z5 := cell_later hSw s5; clear hSw; go_simp; try with_reducible rfl)
            case' rest4rx7 => (try simp only [Act.put, List.setIfInBounds_toArray, List.set_cons_zero, List.set_cons_succ])
            refine wpAnyH_take (i := 8) (oi := { dst := some 20, op := Op.indexAddr 29 (Operand.tmp 16) (Operand.tmp 19), type := 0, pos := "l3_hull.go:9", after := #[{ on := 4, ground := Ground.data }, { on := 7, ground := Ground.data }, { on := 3, ground := Ground.guard }], guard := some (3, true) }) (v := ?v4rx8) rfl (by kernel_rfl) (by kernel_rfl) (by kernel_rfl) (fun _ _ _ h => h) (Or.inl ⟨by rfl, ?hy4rx8⟩) (by with_reducible assumption) ?rest4rx8
            case hy4rx8 => (intro w hSw; (try dsimp only at hSw); have z0 := cell_later hSw s0; have z1 := cell_later hSw s1; have z2 := cell_later hSw s2; have z3 := cell_later hSw s3; have z4 := cell_later hSw s4; have z5 := cell_later hSw s5; clear hSw; go_simp; try with_reducible rfl)
            case' rest4rx8 => (try simp only [Act.put, List.setIfInBounds_toArray, List.set_cons_zero, List.set_cons_succ])
            refine wpAnyH_take (i := 9) (oi := { dst := some 21, op := Op.load 26 (Operand.tmp 20), type := 26, pos := "l3_hull.go:9", after := #[{ on := 8, ground := Ground.data }, { on := 3, ground := Ground.guard }], guard := some (3, true) }) (v := ?v4rx9) rfl (by kernel_rfl) (by kernel_rfl) (by kernel_rfl) (fun _ _ _ h => h) (Or.inl ⟨by rfl, ?hy4rx9⟩) (by with_reducible assumption) ?rest4rx9
            case hy4rx9 => (intro w hSw; (try dsimp only at hSw); have z0 := cell_later hSw s0; have z1 := cell_later hSw s1; have z2 := cell_later hSw s2; have z3 := cell_later hSw s3; have z4 := cell_later hSw s4; have z5 := cell_later hSw s5; clear hSw; go_simp; try with_reducible rfl)
            case' rest4rx9 => (try simp only [Act.put, List.setIfInBounds_toArray, List.set_cons_zero, List.set_cons_succ])
            refine wpAnyH_take (i := 10) (oi := { dst := some 22, op := Op.move (Operand.tmp 3), type := 29, pos := "l3_hull.go:9", after := #[{ on := 3, ground := Ground.guard }], guard := some (3, true) }) (v := ?v4rx10) rfl (by kernel_rfl) (by kernel_rfl) (by kernel_rfl) (fun _ _ _ h => h) (Or.inl ⟨by rfl, ?hy4rx10⟩) (by with_reducible assumption) ?rest4rx10
            case hy4rx10 => (intro w hSw; (try dsimp only at hSw); have z0 := cell_later hSw s0; have z1 := cell_later hSw s1; have z2 := cell_later hSw s2; have z3 := cell_later hSw s3; have z4 := cell_later hSw s4; have z5 := cell_later hSw s5; clear hSw; go_simp; try with_reducible rfl)
            case' rest4rx10 => (try simp only [Act.put, List.setIfInBounds_toArray, List.set_cons_zero, List.set_cons_succ])
            refine wpAnyH_take (i := 11) (oi := { dst := some 23, op := Op.move (Operand.tmp 3), type := 29, pos := "l3_hull.go:9", after := #[{ on := 3, ground := Ground.guard }], guard := some (3, true) }) (v := ?v4rx11) rfl (by kernel_rfl) (by kernel_rfl) (by kernel_rfl) (fun _ _ _ h => h) (Or.inl ⟨by rfl, ?hy4rx11⟩) (by with_reducible assumption) ?rest4rx11
            case hy4rx11 => (intro w hSw; (try dsimp only at hSw); have z0 := cell_later hSw s0; have z1 := cell_later hSw s1; have z2 := cell_later hSw s2; have z3 := cell_later hSw s3; have z4 := cell_later hSw s4; have z5 := cell_later hSw s5; clear hSw; go_simp; try with_reducible rfl)
            case' rest4rx11 => (try simp only [Act.put, List.setIfInBounds_toArray, List.set_cons_zero, List.set_cons_succ])
            refine wpAnyH_take (i := 12) (oi := { dst := some 24, op := Op.call { callee := Callee.builtin Builtin.len, args := #[Operand.tmp 23], argTypes := #[29] }, type := 3, pos := "l3_hull.go:9", after := #[{ on := 11, ground := Ground.data }, { on := 3, ground := Ground.guard }], guard := some (3, true) }) (v := ?v4rx12) rfl (by kernel_rfl) (by kernel_rfl) (by kernel_rfl) (fun _ _ _ h => h) (Or.inl ⟨by rfl, ?hy4rx12⟩) (by with_reducible assumption) ?rest4rx12
            case hy4rx12 => (intro w hSw; (try dsimp only at hSw); have z0 := cell_later hSw s0; have z1 := cell_later hSw s1; have z2 := cell_later hSw s2; have z3 := cell_later hSw s3; have z4 := cell_later hSw s4; have z5 := cell_later hSw s5; clear hSw; go_simp; try with_reducible rfl)
            case' rest4rx12 => (try simp only [Act.put, List.setIfInBounds_toArray, List.set_cons_zero, List.set_cons_succ])
            refine wpAnyH_take (i := 13) (oi := { dst := some 25, op := Op.binOp BinOp.sub 3 (Operand.tmp 24) (Operand.const (Value.int IntKind.i64 1)) 3, type := 3, pos := "l3_hull.go:9", after := #[{ on := 12, ground := Ground.data }, { on := 3, ground := Ground.guard }], guard := some (3, true) }) (v := ?v4rx13) rfl (by kernel_rfl) (by kernel_rfl) (by kernel_rfl) (fun _ _ _ h => h) (Or.inl ⟨by rfl, ?hy4rx13⟩) (by with_reducible assumption) ?rest4rx13
            case hy4rx13 => (intro w hSw; (try dsimp only at hSw); have z0 := cell_later hSw s0; have z1 := cell_later hSw s1; have z2 := cell_later hSw s2; have z3 := cell_later hSw s3; have z4 := cell_later hSw s4; have z5 := cell_later hSw s5; clear hSw; go_simp; try with_reducible rfl)
            case' rest4rx13 => (try simp only [Act.put, List.setIfInBounds_toArray, List.set_cons_zero, List.set_cons_succ])
            refine wpAnyH_take (i := 14) (oi := { dst := some 26, op := Op.indexAddr 29 (Operand.tmp 22) (Operand.tmp 25), type := 0, pos := "l3_hull.go:9", after := #[{ on := 10, ground := Ground.data }, { on := 13, ground := Ground.data }, { on := 3, ground := Ground.guard }], guard := some (3, true) }) (v := ?v4rx14) rfl (by kernel_rfl) (by kernel_rfl) (by kernel_rfl) (fun _ _ _ h => h) (Or.inl ⟨by rfl, ?hy4rx14⟩) (by with_reducible assumption) ?rest4rx14
            case hy4rx14 => (intro w hSw; (try dsimp only at hSw); have z0 := cell_later hSw s0; have z1 := cell_later hSw s1; have z2 := cell_later hSw s2; have z3 := cell_later hSw s3; have z4 := cell_later hSw s4; have z5 := cell_later hSw s5; clear hSw; go_simp; try with_reducible rfl)
            case' rest4rx14 => (try simp only [Act.put, List.setIfInBounds_toArray, List.set_cons_zero, List.set_cons_succ])
            refine wpAnyH_take (i := 15) (oi := { dst := some 27, op := Op.load 26 (Operand.tmp 26), type := 26, pos := "l3_hull.go:9", after := #[{ on := 14, ground := Ground.data }, { on := 3, ground := Ground.guard }], guard := some (3, true) }) (v := ?v4rx15) rfl (by kernel_rfl) (by kernel_rfl) (by kernel_rfl) (fun _ _ _ h => h) (Or.inl ⟨by rfl, ?hy4rx15⟩) (by with_reducible assumption) ?rest4rx15
            case hy4rx15 => (intro w hSw; (try dsimp only at hSw); have z0 := cell_later hSw s0; have z1 := cell_later hSw s1; have z2 := cell_later hSw s2; have z3 := cell_later hSw s3; have z4 := cell_later hSw s4; have z5 := cell_later hSw s5; clear hSw; go_simp; try with_reducible rfl)
            case' rest4rx15 => (try simp only [Act.put, List.setIfInBounds_toArray, List.set_cons_zero, List.set_cons_succ])
            refine wpAnyH_take (i := 16) (oi := { dst := some 28, op := Op.load 26 (Operand.tmp 5), type := 26, pos := "l3_hull.go:9", after := #[{ on := 3, ground := Ground.guard }], guard := some (3, true) }) (v := ?v4rx16) rfl (by kernel_rfl) (by kernel_rfl) (by kernel_rfl) (fun _ _ _ h => h) (Or.inl ⟨by rfl, ?hy4rx16⟩) (by with_reducible assumption) ?rest4rx16
            case hy4rx16 => (intro w hSw; (try dsimp only at hSw); have z0 := cell_later hSw s0; have z1 := cell_later hSw s1; have z2 := cell_later hSw s2; have z3 := cell_later hSw s3; have z4 := cell_later hSw s4; have z5 := cell_later hSw s5; clear hSw; go_simp; try with_reducible rfl)
            case' rest4rx16 => (try simp only [Act.put, List.setIfInBounds_toArray, List.set_cons_zero, List.set_cons_succ])
            refine wpAnyH_ready (rs := [17]) (by kernel_rfl) (by simp) ?_
            refine AllReadyH.cons (o := { dst := some 29, op := Op.call { callee := Callee.value (Operand.func 79), args := #[Operand.tmp 21, Operand.tmp 27, Operand.tmp 28], argTypes := #[26, 26, 26] }, type := 3, pos := "l3_hull.go:9", after := #[{ on := 9, ground := Ground.data }, { on := 15, ground := Ground.data }, { on := 16, ground := Ground.data }, { on := 3, ground := Ground.chain }, { on := 3, ground := Ground.guard }], guard := some (3, true) }) rfl (fun K hK => ?_) AllReadyH.nil
            go_simp
            refine (side_c _ _ _ _ _ _ _).mono ?_
            rintro e w' ⟨rfl, hb⟩
            go_wp2_with fail
            refine hK.out _ _ ?_ (fun hHeld => ?_)
            · exact grew (by with_reducible assumption) hb
            clear hK K
            try simp only [Act.put, List.setIfInBounds_toArray, List.set_cons_zero, List.set_cons_succ]
            refine wpAnyH_take (i := 18) (oi := { dst := some 30, op := Op.binOp BinOp.leq 3 (Operand.tmp 29) (Operand.const (Value.int IntKind.i64 0)) 3, type := 4, pos := "l3_hull.go:9", after := #[{ on := 17, ground := Ground.data }, { on := 3, ground := Ground.guard }], guard := some (3, true) }) (v := ?v4rx18) rfl (by kernel_rfl) (by kernel_rfl) (by kernel_rfl) (fun _ _ _ h => h) (Or.inl ⟨by rfl, ?hy4rx18⟩) (by with_reducible assumption) ?rest4rx18
            case hy4rx18 => (intro w hSw; (try dsimp only at hSw); have z0 := cell_later hSw s0; have z1 := cell_later hSw s1; have z2 := cell_later hSw s2; have z3 := cell_later hSw s3; have z4 := cell_later hSw s4; have z5 := cell_later hSw s5; clear hSw; go_simp; try with_reducible rfl)
            case' rest4rx18 => (try simp only [Act.put, List.setIfInBounds_toArray, List.set_cons_zero, List.set_cons_succ])
            refine wpAnyH_take (i := 19) (oi := { dst := some 31, op := Op.pick (Operand.tmp 15) (Operand.tmp 30) (Operand.const (Value.bool false)), type := 4, pos := "l3_hull.go:9", after := #[{ on := 3, ground := Ground.data }, { on := 18, ground := Ground.data }], guard := none }) (v := ?v4rx19) rfl (by kernel_rfl) (by kernel_rfl) (by kernel_rfl) (fun _ _ _ h => h) (Or.inl ⟨by rfl, ?hy4rx19⟩) (by with_reducible assumption) ?rest4rx19
            case hy4rx19 => (intro w hSw; (try dsimp only at hSw); have z0 := cell_later hSw s0; have z1 := cell_later hSw s1; have z2 := cell_later hSw s2; have z3 := cell_later hSw s3; have z4 := cell_later hSw s4; have z5 := cell_later hSw s5; clear hSw; go_simp; try with_reducible rfl)
            case' rest4rx19 => (try simp only [Act.put, List.setIfInBounds_toArray, List.set_cons_zero, List.set_cons_succ])
            refine wpAnyH_done (by kernel_rfl) ?_ _
            have hsw := hHeld.size
            have hs1 := hbA.size
            have hs2 := HBU.out.size
            have t4 := cell_later hHeld s4
            have t5 := cell_later hHeld s5
            go_wp2_with (at_builtin; refine wpList_append_cut rfl (.tmp 37) (.tmp 39) 29 rfl w.heap.size Tryd.underlying29 hi hz0 hz1 hz2 (by rfl) _ (L.take (keepB slB L (x, y) L.length)) [(x, y)] rfl (HO2.out.later (grew hHeld (by go_grown))) _ _ _ rfl rfl (fun j u hu => one_src _ x y _ rfl j u hu) (by simp) (by rw [List.length_take]; simp; omega) (by simp; omega) ?_; intro g cp w2 hO2 hg2 _; obtain ⟨ln, hln⟩ : ∃ ln, (L.take (keepB slB L (x, y) L.length)).length + [(x, y)].length = ln := ⟨_, rfl⟩; rw [hln] at hO2 ⊢; clear hln; have hB2 := OwnC.grownBelow (HO2.out.later (grew hHeld (by go_grown))) hg2 (by simp; omega); have HX := hid hO2; have HB := hid hB2; clear hg2 hO2 hB2)
            refine ⟨⟨k + 1, by omega, by go_num, ?_, ?_⟩, by simp [intOf]; omega⟩
            · rw [HS.out]
              exact HX.out
            · exact (grew (grew hbw (grew hbA (grew HBU.out hHeld))) (by go_grown)).trans HB.out
        · have hd : decide (1 < (n : Int)) = false := decide_eq_false (by omega)
          have HO2 : Hid (OwnC w.heap.size (.slice a3 n c3) (L.take (keepB slB L (x, y) L.length)) wr) := by
            refine half_step (HO.out.later (grew hbA HBU.out)) hn ?_
            rw [← HKN.out]
            exact (keepB_few hn1).symm
          have s4 := z0
          have s5 := z1
          clear z0 z1 r0 r1 hbu
          go_wp2
          refine wp_region_held_drew (S := (fun u => Below wr.heap.size wr u)) (by kernel_rfl) ?_ (fun hHeld => ?_)
          · exact (Below.refl _ _).drew
          refine wpAnyH_take (i := 0) (oi := { dst := some 12, op := Op.move (Operand.tmp 3), type := 29, pos := "l3_hull.go:9", after := #[], guard := none }) (v := ?v5rx0) rfl (by kernel_rfl) (by kernel_rfl) (by kernel_rfl) (fun _ _ _ h => h) (Or.inl ⟨by rfl, ?hy5rx0⟩) (by with_reducible assumption) ?rest5rx0
          case hy5rx0 => (intro w hSw; (try dsimp only at hSw); have z0 := cell_later hSw s4; have z1 := cell_later hSw s5; clear hSw; go_simp; try with_reducible rfl)
          case' rest5rx0 => (try simp only [Act.put, List.setIfInBounds_toArray, List.set_cons_zero, List.set_cons_succ])
          refine wpAnyH_take (i := 1) (oi := { dst := some 13, op := Op.call { callee := Callee.builtin Builtin.len, args := #[Operand.tmp 12], argTypes := #[29] }, type := 3, pos := "l3_hull.go:9", after := #[{ on := 0, ground := Ground.data }], guard := none }) (v := ?v5rx1) rfl (by kernel_rfl) (by kernel_rfl) (by kernel_rfl) (fun _ _ _ h => h) (Or.inl ⟨by rfl, ?hy5rx1⟩) (by with_reducible assumption) ?rest5rx1
          case hy5rx1 => (intro w hSw; (try dsimp only at hSw); have z0 := cell_later hSw s4; have z1 := cell_later hSw s5; clear hSw; go_simp; try with_reducible rfl)
          case' rest5rx1 => (try simp only [Act.put, List.setIfInBounds_toArray, List.set_cons_zero, List.set_cons_succ])
          refine wpAnyH_take (i := 2) (oi := { dst := some 14, op := Op.binOp BinOp.gtr 3 (Operand.tmp 13) (Operand.const (Value.int IntKind.i64 1)) 3, type := 4, pos := "l3_hull.go:9", after := #[{ on := 1, ground := Ground.data }], guard := none }) (v := ?v5rx2) rfl (by kernel_rfl) (by kernel_rfl) (by kernel_rfl) (fun _ _ _ h => h) (Or.inl ⟨by rfl, ?hy5rx2⟩) (by with_reducible assumption) ?rest5rx2
          case hy5rx2 => (intro w hSw; (try dsimp only at hSw); have z0 := cell_later hSw s4; have z1 := cell_later hSw s5; clear hSw; go_simp; try with_reducible rfl)
          case' rest5rx2 => (try simp only [Act.put, List.setIfInBounds_toArray, List.set_cons_zero, List.set_cons_succ])
          refine wpAnyH_take (i := 3) (oi := { dst := some 15, op := Op.move (Operand.tmp 14), type := 4, pos := "l3_hull.go:9", after := #[{ on := 2, ground := Ground.data }], guard := none }) (v := ?v5rx3) rfl (by kernel_rfl) (by kernel_rfl) (by kernel_rfl) (fun _ _ _ h => h) (Or.inl ⟨by rfl, ?hy5rx3⟩) (by with_reducible assumption) ?rest5rx3
          case hy5rx3 => (intro w hSw; (try dsimp only at hSw); have z0 := cell_later hSw s4; have z1 := cell_later hSw s5; clear hSw; go_simp; try with_reducible rfl)
          case' rest5rx3 => (try simp only [Act.put, List.setIfInBounds_toArray, List.set_cons_zero, List.set_cons_succ])
          refine wpAnyH_take (i := 4) (oi := { dst := some 16, op := Op.move (Operand.tmp 3), type := 29, pos := "l3_hull.go:9", after := #[{ on := 3, ground := Ground.guard }], guard := some (3, true) }) (v := undef) rfl (by kernel_rfl) (by kernel_rfl) (by kernel_rfl) (fun _ _ _ h => h) (Or.inr ⟨by rfl, rfl⟩) (by with_reducible assumption) ?rest5rx4
          case' rest5rx4 => (try simp only [Act.put, List.setIfInBounds_toArray, List.set_cons_zero, List.set_cons_succ])
          refine wpAnyH_take (i := 5) (oi := { dst := some 17, op := Op.move (Operand.tmp 3), type := 29, pos := "l3_hull.go:9", after := #[{ on := 3, ground := Ground.guard }], guard := some (3, true) }) (v := undef) rfl (by kernel_rfl) (by kernel_rfl) (by kernel_rfl) (fun _ _ _ h => h) (Or.inr ⟨by rfl, rfl⟩) (by with_reducible assumption) ?rest5rx5
          case' rest5rx5 => (try simp only [Act.put, List.setIfInBounds_toArray, List.set_cons_zero, List.set_cons_succ])
          refine wpAnyH_take (i := 6) (oi := { dst := some 18, op := Op.call { callee := Callee.builtin Builtin.len, args := #[Operand.tmp 17], argTypes := #[29] }, type := 3, pos := "l3_hull.go:9", after := #[{ on := 5, ground := Ground.data }, { on := 3, ground := Ground.guard }], guard := some (3, true) }) (v := undef) rfl (by kernel_rfl) (by kernel_rfl) (by kernel_rfl) (fun _ _ _ h => h) (Or.inr ⟨by rfl, rfl⟩) (by with_reducible assumption) ?rest5rx6
          case' rest5rx6 => (try simp only [Act.put, List.setIfInBounds_toArray, List.set_cons_zero, List.set_cons_succ])
          refine wpAnyH_take (i := 7) (oi := { dst := some 19, op := Op.binOp BinOp.sub 3 (Operand.tmp 18) (Operand.const (Value.int IntKind.i64 2)) 3, type := 3, pos := "l3_hull.go:9", after := #[{ on := 6, ground := Ground.data }, { on := 3, ground := Ground.guard }], guard := some (3, true) }) (v := undef) rfl (by kernel_rfl) (by kernel_rfl) (by kernel_rfl) (fun _ _ _ h => h) (Or.inr ⟨by rfl, rfl⟩) (by with_reducible assumption) ?rest5rx7
          case' rest5rx7 => (try simp only [Act.put, List.setIfInBounds_toArray, List.set_cons_zero, List.set_cons_succ])
          refine wpAnyH_take (i := 8) (oi := { dst := some 20, op := Op.indexAddr 29 (Operand.tmp 16) (Operand.tmp 19), type := 0, pos := "l3_hull.go:9", after := #[{ on := 4, ground := Ground.data }, { on := 7, ground := Ground.data }, { on := 3, ground := Ground.guard }], guard := some (3, true) }) (v := undef) rfl (by kernel_rfl) (by kernel_rfl) (by kernel_rfl) (fun _ _ _ h => h) (Or.inr ⟨by rfl, rfl⟩) (by with_reducible assumption) ?rest5rx8
          case' rest5rx8 => (try simp only [Act.put, List.setIfInBounds_toArray, List.set_cons_zero, List.set_cons_succ])
          refine wpAnyH_take (i := 9) (oi := { dst := some 21, op := Op.load 26 (Operand.tmp 20), type := 26, pos := "l3_hull.go:9", after := #[{ on := 8, ground := Ground.data }, { on := 3, ground := Ground.guard }], guard := some (3, true) }) (v := undef) rfl (by kernel_rfl) (by kernel_rfl) (by kernel_rfl) (fun _ _ _ h => h) (Or.inr ⟨by rfl, rfl⟩) (by with_reducible assumption) ?rest5rx9
          case' rest5rx9 => (try simp only [Act.put, List.setIfInBounds_toArray, List.set_cons_zero, List.set_cons_succ])
          refine wpAnyH_take (i := 10) (oi := { dst := some 22, op := Op.move (Operand.tmp 3), type := 29, pos := "l3_hull.go:9", after := #[{ on := 3, ground := Ground.guard }], guard := some (3, true) }) (v := undef) rfl (by kernel_rfl) (by kernel_rfl) (by kernel_rfl) (fun _ _ _ h => h) (Or.inr ⟨by rfl, rfl⟩) (by with_reducible assumption) ?rest5rx10
          case' rest5rx10 => (try simp only [Act.put, List.setIfInBounds_toArray, List.set_cons_zero, List.set_cons_succ])
          refine wpAnyH_take (i := 11) (oi := { dst := some 23, op := Op.move (Operand.tmp 3), type := 29, pos := "l3_hull.go:9", after := #[{ on := 3, ground := Ground.guard }], guard := some (3, true) }) (v := undef) rfl (by kernel_rfl) (by kernel_rfl) (by kernel_rfl) (fun _ _ _ h => h) (Or.inr ⟨by rfl, rfl⟩) (by with_reducible assumption) ?rest5rx11
          case' rest5rx11 => (try simp only [Act.put, List.setIfInBounds_toArray, List.set_cons_zero, List.set_cons_succ])
          refine wpAnyH_take (i := 12) (oi := { dst := some 24, op := Op.call { callee := Callee.builtin Builtin.len, args := #[Operand.tmp 23], argTypes := #[29] }, type := 3, pos := "l3_hull.go:9", after := #[{ on := 11, ground := Ground.data }, { on := 3, ground := Ground.guard }], guard := some (3, true) }) (v := undef) rfl (by kernel_rfl) (by kernel_rfl) (by kernel_rfl) (fun _ _ _ h => h) (Or.inr ⟨by rfl, rfl⟩) (by with_reducible assumption) ?rest5rx12
          case' rest5rx12 => (try simp only [Act.put, List.setIfInBounds_toArray, List.set_cons_zero, List.set_cons_succ])
          refine wpAnyH_take (i := 13) (oi := { dst := some 25, op := Op.binOp BinOp.sub 3 (Operand.tmp 24) (Operand.const (Value.int IntKind.i64 1)) 3, type := 3, pos := "l3_hull.go:9", after := #[{ on := 12, ground := Ground.data }, { on := 3, ground := Ground.guard }], guard := some (3, true) }) (v := undef) rfl (by kernel_rfl) (by kernel_rfl) (by kernel_rfl) (fun _ _ _ h => h) (Or.inr ⟨by rfl, rfl⟩) (by with_reducible assumption) ?rest5rx13
          case' rest5rx13 => (try simp only [Act.put, List.setIfInBounds_toArray, List.set_cons_zero, List.set_cons_succ])
          refine wpAnyH_take (i := 14) (oi := { dst := some 26, op := Op.indexAddr 29 (Operand.tmp 22) (Operand.tmp 25), type := 0, pos := "l3_hull.go:9", after := #[{ on := 10, ground := Ground.data }, { on := 13, ground := Ground.data }, { on := 3, ground := Ground.guard }], guard := some (3, true) }) (v := undef) rfl (by kernel_rfl) (by kernel_rfl) (by kernel_rfl) (fun _ _ _ h => h) (Or.inr ⟨by rfl, rfl⟩) (by with_reducible assumption) ?rest5rx14
          case' rest5rx14 => (try simp only [Act.put, List.setIfInBounds_toArray, List.set_cons_zero, List.set_cons_succ])
          refine wpAnyH_take (i := 15) (oi := { dst := some 27, op := Op.load 26 (Operand.tmp 26), type := 26, pos := "l3_hull.go:9", after := #[{ on := 14, ground := Ground.data }, { on := 3, ground := Ground.guard }], guard := some (3, true) }) (v := undef) rfl (by kernel_rfl) (by kernel_rfl) (by kernel_rfl) (fun _ _ _ h => h) (Or.inr ⟨by rfl, rfl⟩) (by with_reducible assumption) ?rest5rx15
          case' rest5rx15 => (try simp only [Act.put, List.setIfInBounds_toArray, List.set_cons_zero, List.set_cons_succ])
          refine wpAnyH_take (i := 16) (oi := { dst := some 28, op := Op.load 26 (Operand.tmp 5), type := 26, pos := "l3_hull.go:9", after := #[{ on := 3, ground := Ground.guard }], guard := some (3, true) }) (v := undef) rfl (by kernel_rfl) (by kernel_rfl) (by kernel_rfl) (fun _ _ _ h => h) (Or.inr ⟨by rfl, rfl⟩) (by with_reducible assumption) ?rest5rx16
          case' rest5rx16 => (try simp only [Act.put, List.setIfInBounds_toArray, List.set_cons_zero, List.set_cons_succ])
          refine wpAnyH_ready (rs := [17]) (by kernel_rfl) (by simp) ?_
          refine AllReadyH.cons (o := { dst := some 29, op := Op.call { callee := Callee.value (Operand.func 79), args := #[Operand.tmp 21, Operand.tmp 27, Operand.tmp 28], argTypes := #[26, 26, 26] }, type := 3, pos := "l3_hull.go:9", after := #[{ on := 9, ground := Ground.data }, { on := 15, ground := Ground.data }, { on := 16, ground := Ground.data }, { on := 3, ground := Ground.chain }, { on := 3, ground := Ground.guard }], guard := some (3, true) }) rfl (fun K hK => ?_) AllReadyH.nil
          go_simp
          refine hK.out _ _ ?_ (fun hHeld => ?_)
          · with_reducible assumption
          clear hK K
          try simp only [Act.put, List.setIfInBounds_toArray, List.set_cons_zero, List.set_cons_succ]
          refine wpAnyH_take (i := 18) (oi := { dst := some 30, op := Op.binOp BinOp.leq 3 (Operand.tmp 29) (Operand.const (Value.int IntKind.i64 0)) 3, type := 4, pos := "l3_hull.go:9", after := #[{ on := 17, ground := Ground.data }, { on := 3, ground := Ground.guard }], guard := some (3, true) }) (v := undef) rfl (by kernel_rfl) (by kernel_rfl) (by kernel_rfl) (fun _ _ _ h => h) (Or.inr ⟨by rfl, rfl⟩) (by with_reducible assumption) ?rest5rx18
          case' rest5rx18 => (try simp only [Act.put, List.setIfInBounds_toArray, List.set_cons_zero, List.set_cons_succ])
          refine wpAnyH_take (i := 19) (oi := { dst := some 31, op := Op.pick (Operand.tmp 15) (Operand.tmp 30) (Operand.const (Value.bool false)), type := 4, pos := "l3_hull.go:9", after := #[{ on := 3, ground := Ground.data }, { on := 18, ground := Ground.data }], guard := none }) (v := ?v5rx19) rfl (by kernel_rfl) (by kernel_rfl) (by kernel_rfl) (fun _ _ _ h => h) (Or.inl ⟨by rfl, ?hy5rx19⟩) (by with_reducible assumption) ?rest5rx19
          case hy5rx19 => (intro w hSw; (try dsimp only at hSw); have z0 := cell_later hSw s4; have z1 := cell_later hSw s5; clear hSw; go_simp; try with_reducible rfl)
          case' rest5rx19 => (try simp only [Act.put, List.setIfInBounds_toArray, List.set_cons_zero, List.set_cons_succ])
          refine wpAnyH_done (by kernel_rfl) ?_ _
          generalize wr.drew = wd at hHeld ⊢
          have hsw := hHeld.size
          have hs1 := hbA.size
          have hs2 := HBU.out.size
          have t4 := cell_later hHeld s4
          have t5 := cell_later hHeld s5
          go_wp2_with (at_builtin; refine wpList_append_cut rfl (.tmp 37) (.tmp 39) 29 rfl w.heap.size Tryd.underlying29 hi hz0 hz1 hz2 (by rfl) _ (L.take (keepB slB L (x, y) L.length)) [(x, y)] rfl (HO2.out.later (grew hHeld (by go_grown))) _ _ _ rfl rfl (fun j u hu => one_src _ x y _ rfl j u hu) (by simp) (by rw [List.length_take]; simp; omega) (by simp; omega) ?_; intro g cp w2 hO2 hg2 _; obtain ⟨ln, hln⟩ : ∃ ln, (L.take (keepB slB L (x, y) L.length)).length + [(x, y)].length = ln := ⟨_, rfl⟩; rw [hln] at hO2 ⊢; clear hln; have hB2 := OwnC.grownBelow (HO2.out.later (grew hHeld (by go_grown))) hg2 (by simp; omega); have HX := hid hO2; have HB := hid hB2; clear hg2 hO2 hB2)
          refine ⟨⟨k + 1, by omega, by go_num, ?_, ?_⟩, by simp [intOf]; omega⟩
          · rw [HS.out]
            exact HX.out
          · exact (grew (grew hbw (grew hbA (grew HBU.out hHeld))) (by go_grown)).trans HB.out
    · obtain rfl : k = l.length := by omega
      rw [List.take_length] at hO
      go_wp2
      go_ret
      exact ⟨_, rfl, hO, hbw⟩
end Go.Proofs.YtegmlemejmahiaaDoor
