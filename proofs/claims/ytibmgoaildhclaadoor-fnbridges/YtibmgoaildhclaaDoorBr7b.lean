/-
  The specification's test of a bridge; IsBridge, the program's and the specification's (contracts for the walks).
  Conditions: as each theorem states them.
-/
import Derived.Test.YtibmgoaildhclaaDoorBr7t
namespace Go.Proofs.YtibmgoaildhclaaDoor
open Go.RowKit Go.Shelf
set_option linter.unusedVariables false
set_option maxRecDepth 8000
set_option maxHeartbeats 4000000 in
theorem l7Bridge_c (a b : List (Int × Int)) (i j : Nat) (pa pb : Option Addr) (na ca nb cb : Nat) (w : World) (hla : a.length = na) (hlb : b.length = nb) (h1 : na ≤ 1048576) (h2 : nb ≤ 1048576) (hi : i < a.length) (hj : j < b.length) (hA : At w.heap.size pa a w) (hB : At w.heap.size pb b w) :
    Calls Tryd.prog 40 #[.slice pa na ca, .slice pb nb cb, .int .i64 (i : Int), .int .i64 (j : Int)] w fun e w' => e = .returned (.bool (brS a b i j)) ∧ Below w.heap.size w w' := by
  subst hla hlb
  have HA := hid hA
  have HB := hid hB
  clear hA hB
  have i0 : (0 : Int) ≤ (i : Int) := by omega
  have i1 : (i : Int) < (a.length : Int) := by omega
  have j0 : (0 : Int) ≤ (j : Int) := by omega
  have j1 : (j : Int) < (b.length : Int) := by omega
  go_enter Tryd.func40, Tryd.ntmps40
  go_wp2
  go_loopw [17] (fun q wr => ∃ k : Nat, k ≤ a.length ∧ q = .int .i64 (k : Int) ∧ YsTo (sdA (pt a i) (pt b j) a i) k ∧ Below w.heap.size w wr) (fun q _ => a.length - (intOf q).toNat)
  case atStart => exact ⟨0, Nat.zero_le _, rfl, fun i hi => absurd hi (Nat.not_lt_zero _), by go_grown⟩
  case round =>
    obtain ⟨k, hk, rfl, hC, hbw⟩ := hrel
    have HC := hid hC
    clear hC
    by_cases hkl : k < a.length
    · skip
      obtain ⟨b1, o1, e1, hbN, g0, g1⟩ := HA.out k hkl
      obtain ⟨b2, o2, e2, hbN2, g2, g3⟩ := HA.out i hi
      obtain ⟨b3, o3, e3, hbN3, g4, g5⟩ := HB.out j hj
      subst e2 e3
      obtain ⟨rfl, rfl⟩ : b2 = b1 ∧ o2 = o1 := by simpa using e1
      clear e1
      have q0 := cell_later hbw g0
      have q1 := cell_later hbw g1
      have q2 := cell_later hbw g2
      have q3 := cell_later hbw g3
      have q4 := cell_later hbw g4
      have q5 := cell_later hbw g5
      clear g0 g1 g2 g3 g4 g5
      have HE := hid (show sdA (pt a i) (pt b j) a i k = !(decide (sg (crossW (px a i) (py a i) (px b j) (py b j) (px a k) (py a k)) < 0) || (decide (sg (crossW (px a i) (py a i) (px b j) (py b j) (px a k) (py a k)) = 0) && decide (k < i))) from rfl)
      obtain ⟨x, hx⟩ : ∃ x, px a k = x := ⟨_, rfl⟩
      obtain ⟨y, hy⟩ : ∃ y, py a k = y := ⟨_, rfl⟩
      rw [hx, hy] at HE
      rw [hx] at q0
      rw [hy] at q1
      clear hx hy
      have nk : (0 : Int) ≤ (k : Int) := by omega
      have nk1 : (k : Int) < (a.length : Int) := by omega
      go_upto_region 4 with fail
      have hb8 : Below wr.heap.size wr (wr.alloc (.cells #[.int .i64 x, .int .i64 y] 44)) := by go_grown
      have k0 := box0 wr x y 44
      have k1 := box1 wr x y 44
      have hbx := grew hbw hb8
      replace q2 := cell_later hb8 q2
      replace q3 := cell_later hb8 q3
      replace q4 := cell_later hb8 q4
      replace q5 := cell_later hb8 q5
      clear hb8 hbw q0 q1
      generalize wr.alloc (.cells #[.int .i64 x, .int .i64 y] 44) = wp at *
      generalize wr.heap.size = B8 at *
      refine wp_region_held_drew (S := (fun u => Below wp.heap.size wp u)) (by kernel_rfl) ?_ (fun hHeld => ?_)
      · exact (Below.refl _ _).drew
      refine wpAnyH_take (i := 0) (oi := { dst := some 22, op := Op.move (Operand.tmp 0), type := 24, pos := "l7_tree.go:20", after := #[], guard := none }) (v := ?v2yx0u1) rfl (by kernel_rfl) (by kernel_rfl) (by kernel_rfl) (fun _ _ _ h => h) (Or.inl ⟨by rfl, ?hy2yx0u1⟩) (by with_reducible assumption) ?rest2yx0u1
      case hy2yx0u1 => (intro wS hSw; (try dsimp only at hSw); have z0 := cell_later hSw k0; have z1 := cell_later hSw k1; have z2 := cell_later hSw q2; have z3 := cell_later hSw q3; have z4 := cell_later hSw q4; have z5 := cell_later hSw q5; clear hSw; go_simp; try with_reducible rfl)
      case' rest2yx0u1 => (try simp only [Act.put, List.setIfInBounds_toArray, List.set_cons_zero, List.set_cons_succ])
      refine wpAnyH_take (i := 1) (oi := { dst := some 23, op := Op.move (Operand.tmp 2), type := 3, pos := "l7_tree.go:20", after := #[], guard := none }) (v := ?v3yx1u2) rfl (by kernel_rfl) (by kernel_rfl) (by kernel_rfl) (fun _ _ _ h => h) (Or.inl ⟨by rfl, ?hy3yx1u2⟩) (by with_reducible assumption) ?rest3yx1u2
      case hy3yx1u2 => (intro wS hSw; (try dsimp only at hSw); have z0 := cell_later hSw k0; have z1 := cell_later hSw k1; have z2 := cell_later hSw q2; have z3 := cell_later hSw q3; have z4 := cell_later hSw q4; have z5 := cell_later hSw q5; clear hSw; go_simp; try with_reducible rfl)
      case' rest3yx1u2 => (try simp only [Act.put, List.setIfInBounds_toArray, List.set_cons_zero, List.set_cons_succ])
      refine wpAnyH_take (i := 2) (oi := { dst := some 24, op := Op.indexAddr 24 (Operand.tmp 22) (Operand.tmp 23), type := 0, pos := "l7_tree.go:20", after := #[{ on := 0, ground := Ground.data }, { on := 1, ground := Ground.data }], guard := none }) (v := ?v4yx2u3) rfl (by kernel_rfl) (by kernel_rfl) (by kernel_rfl) (fun _ _ _ h => h) (Or.inl ⟨by rfl, ?hy4yx2u3⟩) (by with_reducible assumption) ?rest4yx2u3
      case hy4yx2u3 => (intro wS hSw; (try dsimp only at hSw); have z0 := cell_later hSw k0; have z1 := cell_later hSw k1; have z2 := cell_later hSw q2; have z3 := cell_later hSw q3; have z4 := cell_later hSw q4; have z5 := cell_later hSw q5; clear hSw; go_simp; try with_reducible rfl)
      case' rest4yx2u3 => (try simp only [Act.put, List.setIfInBounds_toArray, List.set_cons_zero, List.set_cons_succ])
      refine wpAnyH_take (i := 3) (oi := { dst := some 25, op := Op.load 44 (Operand.tmp 24), type := 44, pos := "l7_tree.go:20", after := #[{ on := 2, ground := Ground.data }], guard := none }) (v := ?v5yx3u4) rfl (by kernel_rfl) (by kernel_rfl) (by kernel_rfl) (fun _ _ _ h => h) (Or.inl ⟨by rfl, ?hy5yx3u4⟩) (by with_reducible assumption) ?rest5yx3u4
      case hy5yx3u4 => (intro wS hSw; (try dsimp only at hSw); have z0 := cell_later hSw k0; have z1 := cell_later hSw k1; have z2 := cell_later hSw q2; have z3 := cell_later hSw q3; have z4 := cell_later hSw q4; have z5 := cell_later hSw q5; clear hSw; go_simp; try with_reducible rfl)
      case' rest5yx3u4 => (try simp only [Act.put, List.setIfInBounds_toArray, List.set_cons_zero, List.set_cons_succ])
      refine wpAnyH_take (i := 4) (oi := { dst := some 26, op := Op.move (Operand.tmp 1), type := 24, pos := "l7_tree.go:20", after := #[], guard := none }) (v := ?v6yx4u5) rfl (by kernel_rfl) (by kernel_rfl) (by kernel_rfl) (fun _ _ _ h => h) (Or.inl ⟨by rfl, ?hy6yx4u5⟩) (by with_reducible assumption) ?rest6yx4u5
      case hy6yx4u5 => (intro wS hSw; (try dsimp only at hSw); have z0 := cell_later hSw k0; have z1 := cell_later hSw k1; have z2 := cell_later hSw q2; have z3 := cell_later hSw q3; have z4 := cell_later hSw q4; have z5 := cell_later hSw q5; clear hSw; go_simp; try with_reducible rfl)
      case' rest6yx4u5 => (try simp only [Act.put, List.setIfInBounds_toArray, List.set_cons_zero, List.set_cons_succ])
      refine wpAnyH_take (i := 5) (oi := { dst := some 27, op := Op.move (Operand.tmp 3), type := 3, pos := "l7_tree.go:20", after := #[], guard := none }) (v := ?v7yx5u6) rfl (by kernel_rfl) (by kernel_rfl) (by kernel_rfl) (fun _ _ _ h => h) (Or.inl ⟨by rfl, ?hy7yx5u6⟩) (by with_reducible assumption) ?rest7yx5u6
      case hy7yx5u6 => (intro wS hSw; (try dsimp only at hSw); have z0 := cell_later hSw k0; have z1 := cell_later hSw k1; have z2 := cell_later hSw q2; have z3 := cell_later hSw q3; have z4 := cell_later hSw q4; have z5 := cell_later hSw q5; clear hSw; go_simp; try with_reducible rfl)
      case' rest7yx5u6 => (try simp only [Act.put, List.setIfInBounds_toArray, List.set_cons_zero, List.set_cons_succ])
      refine wpAnyH_take (i := 6) (oi := { dst := some 28, op := Op.indexAddr 24 (Operand.tmp 26) (Operand.tmp 27), type := 0, pos := "l7_tree.go:20", after := #[{ on := 4, ground := Ground.data }, { on := 5, ground := Ground.data }], guard := none }) (v := ?v8yx6u7) rfl (by kernel_rfl) (by kernel_rfl) (by kernel_rfl) (fun _ _ _ h => h) (Or.inl ⟨by rfl, ?hy8yx6u7⟩) (by with_reducible assumption) ?rest8yx6u7
      case hy8yx6u7 => (intro wS hSw; (try dsimp only at hSw); have z0 := cell_later hSw k0; have z1 := cell_later hSw k1; have z2 := cell_later hSw q2; have z3 := cell_later hSw q3; have z4 := cell_later hSw q4; have z5 := cell_later hSw q5; clear hSw; go_simp; try with_reducible rfl)
      case' rest8yx6u7 => (try simp only [Act.put, List.setIfInBounds_toArray, List.set_cons_zero, List.set_cons_succ])
      refine wpAnyH_take (i := 7) (oi := { dst := some 29, op := Op.load 44 (Operand.tmp 28), type := 44, pos := "l7_tree.go:20", after := #[{ on := 6, ground := Ground.data }], guard := none }) (v := ?v9yx7u8) rfl (by kernel_rfl) (by kernel_rfl) (by kernel_rfl) (fun _ _ _ h => h) (Or.inl ⟨by rfl, ?hy9yx7u8⟩) (by with_reducible assumption) ?rest9yx7u8
      case hy9yx7u8 => (intro wS hSw; (try dsimp only at hSw); have z0 := cell_later hSw k0; have z1 := cell_later hSw k1; have z2 := cell_later hSw q2; have z3 := cell_later hSw q3; have z4 := cell_later hSw q4; have z5 := cell_later hSw q5; clear hSw; go_simp; try with_reducible rfl)
      case' rest9yx7u8 => (try simp only [Act.put, List.setIfInBounds_toArray, List.set_cons_zero, List.set_cons_succ])
      refine wpAnyH_take (i := 8) (oi := { dst := some 30, op := Op.load 44 (Operand.tmp 10), type := 44, pos := "l7_tree.go:20", after := #[], guard := none }) (v := ?v10yx8u9) rfl (by kernel_rfl) (by kernel_rfl) (by kernel_rfl) (fun _ _ _ h => h) (Or.inl ⟨by rfl, ?hy10yx8u9⟩) (by with_reducible assumption) ?rest10yx8u9
      case hy10yx8u9 => (intro wS hSw; (try dsimp only at hSw); have z0 := cell_later hSw k0; have z1 := cell_later hSw k1; have z2 := cell_later hSw q2; have z3 := cell_later hSw q3; have z4 := cell_later hSw q4; have z5 := cell_later hSw q5; clear hSw; go_simp; try with_reducible rfl)
      case' rest10yx8u9 => (try simp only [Act.put, List.setIfInBounds_toArray, List.set_cons_zero, List.set_cons_succ])
      refine wpAnyH_ready (rs := [9]) (by kernel_rfl) (by simp) ?_
      refine AllReadyH.cons (o := { dst := some 31, op := Op.call { callee := Callee.value (Operand.func 59), args := #[Operand.tmp 25, Operand.tmp 29, Operand.tmp 30], argTypes := #[44, 44, 44] }, type := 3, pos := "l7_tree.go:20", after := #[{ on := 3, ground := Ground.data }, { on := 7, ground := Ground.data }, { on := 8, ground := Ground.data }], guard := none }) rfl (fun K hK => ?_) AllReadyH.nil
      go_simp
      refine (side_c _ _ _ _ _ _ _).mono ?_
      rintro e w2 ⟨rfl, hb2⟩
      go_wp2_with fail
      refine hK.out _ _ ?_ (fun hHeld => ?_)
      · exact grew (by with_reducible assumption) hb2
      clear hK K
      try simp only [Act.put, List.setIfInBounds_toArray, List.set_cons_zero, List.set_cons_succ]
      refine wpAnyH_take (i := 10) (oi := { dst := some 11, op := Op.assign (Operand.tmp 31), type := 3, pos := "l7_tree.go:20", after := #[{ on := 9, ground := Ground.data }, { on := 9, ground := Ground.chain }, { on := 0, ground := Ground.phase }, { on := 1, ground := Ground.phase }, { on := 2, ground := Ground.phase }, { on := 3, ground := Ground.phase }, { on := 4, ground := Ground.phase }, { on := 5, ground := Ground.phase }, { on := 6, ground := Ground.phase }, { on := 7, ground := Ground.phase }, { on := 8, ground := Ground.phase }, { on := 9, ground := Ground.phase }], guard := none }) (v := ?v11yx10u10) rfl (by kernel_rfl) (by kernel_rfl) (by kernel_rfl) (fun _ _ _ h => h) (Or.inl ⟨by rfl, ?hy11yx10u10⟩) (by with_reducible assumption) ?rest11yx10u10
      case hy11yx10u10 => (intro wS hSw; (try dsimp only at hSw); have z0 := cell_later hSw k0; have z1 := cell_later hSw k1; have z2 := cell_later hSw q2; have z3 := cell_later hSw q3; have z4 := cell_later hSw q4; have z5 := cell_later hSw q5; clear hSw; go_simp; try with_reducible rfl)
      case' rest11yx10u10 => (try simp only [Act.put, List.setIfInBounds_toArray, List.set_cons_zero, List.set_cons_succ])
      refine wpAnyH_done (by kernel_rfl) ?_ _
      replace hbx := grew hbx (by with_reducible assumption)
      generalize sg (crossW (px a i) (py a i) (px b j) (py b j) x y) = s at HE ⊢
      by_cases s0 : s < 0
      · have E := hid (show sdA (pt a i) (pt b j) a i k = false by rw [HE.out, decide_eq_true s0]; rfl)
        go_wp2
        go_ret
        exact ⟨ret_bool (Eq.symm (show brS a b i j = false from by unfold brS; rw [aT_no hkl E.out]; rfl)), hbx⟩
      by_cases s1 : s = 0
      · have z : (s == 0) = true := by simp [s1]
        by_cases s2 : k < i
        · have s3 : (k : Int) < (i : Int) := by omega
          have E := hid (show sdA (pt a i) (pt b j) a i k = false by rw [HE.out, decide_eq_true s1, decide_eq_true s2]; simp)
          clear s1
          go_wp2
          go_ret
          exact ⟨ret_bool (Eq.symm (show brS a b i j = false from by unfold brS; rw [aT_no hkl E.out]; rfl)), hbx⟩
        · have s3 : ¬ ((k : Int) < (i : Int)) := by omega
          have E := hid (show sdA (pt a i) (pt b j) a i k = true by rw [HE.out, decide_eq_false s0, decide_eq_false s2]; simp)
          clear s1
          go_wp2
          go_roundw
          case rel => exact ⟨k + 1, by omega, by go_num, HC.out.succ E.out, hbx⟩
          case measure => simp [intOf]; omega
      · have z : (s == 0) = false := by simp [s1]
        have E := hid (show sdA (pt a i) (pt b j) a i k = true by rw [HE.out, decide_eq_false s0, decide_eq_false s1]; rfl)
        clear s1
        go_wp2
        go_roundw
        case rel => exact ⟨k + 1, by omega, by go_num, HC.out.succ E.out, hbx⟩
        case measure => simp [intOf]; omega
    · obtain rfl : k = a.length := by omega
      have EA := hid (aT_iff.2 HC.out)
      clear HC
      go_wp2
      generalize wr = wo at hbw ⊢
      go_loopw [46] (fun q wr => ∃ k : Nat, k ≤ b.length ∧ q = .int .i64 (k : Int) ∧ YsTo (sdB (pt a i) (pt b j) b j) k ∧ Below w.heap.size w wr) (fun q _ => b.length - (intOf q).toNat)
      case atStart => exact ⟨0, Nat.zero_le _, rfl, fun i hi => absurd hi (Nat.not_lt_zero _), hbw⟩
      case round =>
        clear hbw
        obtain ⟨k, hk, rfl, hC, hbw⟩ := hrel
        have HC := hid hC
        clear hC
        by_cases hkl : k < b.length
        · skip
          obtain ⟨b1, o1, e1, hbN, g0, g1⟩ := HB.out k hkl
          obtain ⟨b2, o2, e2, hbN2, g2, g3⟩ := HA.out i hi
          obtain ⟨b3, o3, e3, hbN3, g4, g5⟩ := HB.out j hj
          subst e2 e3
          obtain ⟨rfl, rfl⟩ : b3 = b1 ∧ o3 = o1 := by simpa using e1
          clear e1
          have q0 := cell_later hbw g0
          have q1 := cell_later hbw g1
          have q2 := cell_later hbw g2
          have q3 := cell_later hbw g3
          have q4 := cell_later hbw g4
          have q5 := cell_later hbw g5
          clear g0 g1 g2 g3 g4 g5
          have HE := hid (show sdB (pt a i) (pt b j) b j k = !(decide (sg (crossW (px a i) (py a i) (px b j) (py b j) (px b k) (py b k)) < 0) || (decide (sg (crossW (px a i) (py a i) (px b j) (py b j) (px b k) (py b k)) = 0) && decide (j < k))) from rfl)
          obtain ⟨x, hx⟩ : ∃ x, px b k = x := ⟨_, rfl⟩
          obtain ⟨y, hy⟩ : ∃ y, py b k = y := ⟨_, rfl⟩
          rw [hx, hy] at HE
          rw [hx] at q0
          rw [hy] at q1
          clear hx hy
          have nk : (0 : Int) ≤ (k : Int) := by omega
          have nk1 : (k : Int) < (b.length : Int) := by omega
          go_upto_region 11 with fail
          have hb8 : Below wr.heap.size wr (wr.alloc (.cells #[.int .i64 x, .int .i64 y] 44)) := by go_grown
          have k0 := box0 wr x y 44
          have k1 := box1 wr x y 44
          have hbx := grew hbw hb8
          replace q2 := cell_later hb8 q2
          replace q3 := cell_later hb8 q3
          replace q4 := cell_later hb8 q4
          replace q5 := cell_later hb8 q5
          clear hb8 hbw q0 q1
          generalize wr.alloc (.cells #[.int .i64 x, .int .i64 y] 44) = wp at *
          generalize wr.heap.size = B8 at *
          refine wp_region_held_drew (S := (fun u => Below wp.heap.size wp u)) (by kernel_rfl) ?_ (fun hHeld => ?_)
          · exact (Below.refl _ _).drew
          refine wpAnyH_take (i := 0) (oi := { dst := some 51, op := Op.move (Operand.tmp 0), type := 24, pos := "l7_tree.go:26", after := #[], guard := none }) (v := ?v35yx0u11) rfl (by kernel_rfl) (by kernel_rfl) (by kernel_rfl) (fun _ _ _ h => h) (Or.inl ⟨by rfl, ?hy35yx0u11⟩) (by with_reducible assumption) ?rest35yx0u11
          case hy35yx0u11 => (intro wS hSw; (try dsimp only at hSw); have z0 := cell_later hSw k0; have z1 := cell_later hSw k1; have z2 := cell_later hSw q2; have z3 := cell_later hSw q3; have z4 := cell_later hSw q4; have z5 := cell_later hSw q5; clear hSw; go_simp; try with_reducible rfl)
          case' rest35yx0u11 => (try simp only [Act.put, List.setIfInBounds_toArray, List.set_cons_zero, List.set_cons_succ])
          refine wpAnyH_take (i := 1) (oi := { dst := some 52, op := Op.move (Operand.tmp 2), type := 3, pos := "l7_tree.go:26", after := #[], guard := none }) (v := ?v36yx1u12) rfl (by kernel_rfl) (by kernel_rfl) (by kernel_rfl) (fun _ _ _ h => h) (Or.inl ⟨by rfl, ?hy36yx1u12⟩) (by with_reducible assumption) ?rest36yx1u12
          case hy36yx1u12 => (intro wS hSw; (try dsimp only at hSw); have z0 := cell_later hSw k0; have z1 := cell_later hSw k1; have z2 := cell_later hSw q2; have z3 := cell_later hSw q3; have z4 := cell_later hSw q4; have z5 := cell_later hSw q5; clear hSw; go_simp; try with_reducible rfl)
          case' rest36yx1u12 => (try simp only [Act.put, List.setIfInBounds_toArray, List.set_cons_zero, List.set_cons_succ])
          refine wpAnyH_take (i := 2) (oi := { dst := some 53, op := Op.indexAddr 24 (Operand.tmp 51) (Operand.tmp 52), type := 0, pos := "l7_tree.go:26", after := #[{ on := 0, ground := Ground.data }, { on := 1, ground := Ground.data }], guard := none }) (v := ?v37yx2u13) rfl (by kernel_rfl) (by kernel_rfl) (by kernel_rfl) (fun _ _ _ h => h) (Or.inl ⟨by rfl, ?hy37yx2u13⟩) (by with_reducible assumption) ?rest37yx2u13
          case hy37yx2u13 => (intro wS hSw; (try dsimp only at hSw); have z0 := cell_later hSw k0; have z1 := cell_later hSw k1; have z2 := cell_later hSw q2; have z3 := cell_later hSw q3; have z4 := cell_later hSw q4; have z5 := cell_later hSw q5; clear hSw; go_simp; try with_reducible rfl)
          case' rest37yx2u13 => (try simp only [Act.put, List.setIfInBounds_toArray, List.set_cons_zero, List.set_cons_succ])
          refine wpAnyH_take (i := 3) (oi := { dst := some 54, op := Op.load 44 (Operand.tmp 53), type := 44, pos := "l7_tree.go:26", after := #[{ on := 2, ground := Ground.data }], guard := none }) (v := ?v38yx3u14) rfl (by kernel_rfl) (by kernel_rfl) (by kernel_rfl) (fun _ _ _ h => h) (Or.inl ⟨by rfl, ?hy38yx3u14⟩) (by with_reducible assumption) ?rest38yx3u14
          case hy38yx3u14 => (intro wS hSw; (try dsimp only at hSw); have z0 := cell_later hSw k0; have z1 := cell_later hSw k1; have z2 := cell_later hSw q2; have z3 := cell_later hSw q3; have z4 := cell_later hSw q4; have z5 := cell_later hSw q5; clear hSw; go_simp; try with_reducible rfl)
          case' rest38yx3u14 => (try simp only [Act.put, List.setIfInBounds_toArray, List.set_cons_zero, List.set_cons_succ])
          refine wpAnyH_take (i := 4) (oi := { dst := some 55, op := Op.move (Operand.tmp 1), type := 24, pos := "l7_tree.go:26", after := #[], guard := none }) (v := ?v39yx4u15) rfl (by kernel_rfl) (by kernel_rfl) (by kernel_rfl) (fun _ _ _ h => h) (Or.inl ⟨by rfl, ?hy39yx4u15⟩) (by with_reducible assumption) ?rest39yx4u15
          case hy39yx4u15 => (intro wS hSw; (try dsimp only at hSw); have z0 := cell_later hSw k0; have z1 := cell_later hSw k1; have z2 := cell_later hSw q2; have z3 := cell_later hSw q3; have z4 := cell_later hSw q4; have z5 := cell_later hSw q5; clear hSw; go_simp; try with_reducible rfl)
          case' rest39yx4u15 => (try simp only [Act.put, List.setIfInBounds_toArray, List.set_cons_zero, List.set_cons_succ])
          refine wpAnyH_take (i := 5) (oi := { dst := some 56, op := Op.move (Operand.tmp 3), type := 3, pos := "l7_tree.go:26", after := #[], guard := none }) (v := ?v40yx5u16) rfl (by kernel_rfl) (by kernel_rfl) (by kernel_rfl) (fun _ _ _ h => h) (Or.inl ⟨by rfl, ?hy40yx5u16⟩) (by with_reducible assumption) ?rest40yx5u16
          case hy40yx5u16 => (intro wS hSw; (try dsimp only at hSw); have z0 := cell_later hSw k0; have z1 := cell_later hSw k1; have z2 := cell_later hSw q2; have z3 := cell_later hSw q3; have z4 := cell_later hSw q4; have z5 := cell_later hSw q5; clear hSw; go_simp; try with_reducible rfl)
          case' rest40yx5u16 => (try simp only [Act.put, List.setIfInBounds_toArray, List.set_cons_zero, List.set_cons_succ])
          refine wpAnyH_take (i := 6) (oi := { dst := some 57, op := Op.indexAddr 24 (Operand.tmp 55) (Operand.tmp 56), type := 0, pos := "l7_tree.go:26", after := #[{ on := 4, ground := Ground.data }, { on := 5, ground := Ground.data }], guard := none }) (v := ?v41yx6u17) rfl (by kernel_rfl) (by kernel_rfl) (by kernel_rfl) (fun _ _ _ h => h) (Or.inl ⟨by rfl, ?hy41yx6u17⟩) (by with_reducible assumption) ?rest41yx6u17
          case hy41yx6u17 => (intro wS hSw; (try dsimp only at hSw); have z0 := cell_later hSw k0; have z1 := cell_later hSw k1; have z2 := cell_later hSw q2; have z3 := cell_later hSw q3; have z4 := cell_later hSw q4; have z5 := cell_later hSw q5; clear hSw; go_simp; try with_reducible rfl)
          case' rest41yx6u17 => (try simp only [Act.put, List.setIfInBounds_toArray, List.set_cons_zero, List.set_cons_succ])
          refine wpAnyH_take (i := 7) (oi := { dst := some 58, op := Op.load 44 (Operand.tmp 57), type := 44, pos := "l7_tree.go:26", after := #[{ on := 6, ground := Ground.data }], guard := none }) (v := ?v42yx7u18) rfl (by kernel_rfl) (by kernel_rfl) (by kernel_rfl) (fun _ _ _ h => h) (Or.inl ⟨by rfl, ?hy42yx7u18⟩) (by with_reducible assumption) ?rest42yx7u18
          case hy42yx7u18 => (intro wS hSw; (try dsimp only at hSw); have z0 := cell_later hSw k0; have z1 := cell_later hSw k1; have z2 := cell_later hSw q2; have z3 := cell_later hSw q3; have z4 := cell_later hSw q4; have z5 := cell_later hSw q5; clear hSw; go_simp; try with_reducible rfl)
          case' rest42yx7u18 => (try simp only [Act.put, List.setIfInBounds_toArray, List.set_cons_zero, List.set_cons_succ])
          refine wpAnyH_take (i := 8) (oi := { dst := some 59, op := Op.load 44 (Operand.tmp 13), type := 44, pos := "l7_tree.go:26", after := #[], guard := none }) (v := ?v43yx8u19) rfl (by kernel_rfl) (by kernel_rfl) (by kernel_rfl) (fun _ _ _ h => h) (Or.inl ⟨by rfl, ?hy43yx8u19⟩) (by with_reducible assumption) ?rest43yx8u19
          case hy43yx8u19 => (intro wS hSw; (try dsimp only at hSw); have z0 := cell_later hSw k0; have z1 := cell_later hSw k1; have z2 := cell_later hSw q2; have z3 := cell_later hSw q3; have z4 := cell_later hSw q4; have z5 := cell_later hSw q5; clear hSw; go_simp; try with_reducible rfl)
          case' rest43yx8u19 => (try simp only [Act.put, List.setIfInBounds_toArray, List.set_cons_zero, List.set_cons_succ])
          refine wpAnyH_ready (rs := [9]) (by kernel_rfl) (by simp) ?_
          refine AllReadyH.cons (o := { dst := some 60, op := Op.call { callee := Callee.value (Operand.func 59), args := #[Operand.tmp 54, Operand.tmp 58, Operand.tmp 59], argTypes := #[44, 44, 44] }, type := 3, pos := "l7_tree.go:26", after := #[{ on := 3, ground := Ground.data }, { on := 7, ground := Ground.data }, { on := 8, ground := Ground.data }], guard := none }) rfl (fun K hK => ?_) AllReadyH.nil
          go_simp
          refine (side_c _ _ _ _ _ _ _).mono ?_
          rintro e w2 ⟨rfl, hb2⟩
          go_wp2_with fail
          refine hK.out _ _ ?_ (fun hHeld => ?_)
          · exact grew (by with_reducible assumption) hb2
          clear hK K
          try simp only [Act.put, List.setIfInBounds_toArray, List.set_cons_zero, List.set_cons_succ]
          refine wpAnyH_take (i := 10) (oi := { dst := some 14, op := Op.assign (Operand.tmp 60), type := 3, pos := "l7_tree.go:26", after := #[{ on := 9, ground := Ground.data }, { on := 9, ground := Ground.chain }, { on := 0, ground := Ground.phase }, { on := 1, ground := Ground.phase }, { on := 2, ground := Ground.phase }, { on := 3, ground := Ground.phase }, { on := 4, ground := Ground.phase }, { on := 5, ground := Ground.phase }, { on := 6, ground := Ground.phase }, { on := 7, ground := Ground.phase }, { on := 8, ground := Ground.phase }, { on := 9, ground := Ground.phase }], guard := none }) (v := ?v44yx10u20) rfl (by kernel_rfl) (by kernel_rfl) (by kernel_rfl) (fun _ _ _ h => h) (Or.inl ⟨by rfl, ?hy44yx10u20⟩) (by with_reducible assumption) ?rest44yx10u20
          case hy44yx10u20 => (intro wS hSw; (try dsimp only at hSw); have z0 := cell_later hSw k0; have z1 := cell_later hSw k1; have z2 := cell_later hSw q2; have z3 := cell_later hSw q3; have z4 := cell_later hSw q4; have z5 := cell_later hSw q5; clear hSw; go_simp; try with_reducible rfl)
          case' rest44yx10u20 => (try simp only [Act.put, List.setIfInBounds_toArray, List.set_cons_zero, List.set_cons_succ])
          refine wpAnyH_done (by kernel_rfl) ?_ _
          replace hbx := grew hbx (by with_reducible assumption)
          generalize sg (crossW (px a i) (py a i) (px b j) (py b j) x y) = s at HE ⊢
          by_cases s0 : s < 0
          · have E := hid (show sdB (pt a i) (pt b j) b j k = false by rw [HE.out, decide_eq_true s0]; rfl)
            go_wp2
            go_ret
            exact ⟨ret_bool (Eq.symm (show brS a b i j = false from by unfold brS; rw [aT_no hkl E.out, Bool.and_false])), hbx⟩
          by_cases s1 : s = 0
          · have z : (s == 0) = true := by simp [s1]
            by_cases s2 : j < k
            · have s3 : (j : Int) < (k : Int) := by omega
              have E := hid (show sdB (pt a i) (pt b j) b j k = false by rw [HE.out, decide_eq_true s1, decide_eq_true s2]; simp)
              clear s1
              go_wp2
              go_ret
              exact ⟨ret_bool (Eq.symm (show brS a b i j = false from by unfold brS; rw [aT_no hkl E.out, Bool.and_false])), hbx⟩
            · have s3 : ¬ ((j : Int) < (k : Int)) := by omega
              have E := hid (show sdB (pt a i) (pt b j) b j k = true by rw [HE.out, decide_eq_false s0, decide_eq_false s2]; simp)
              clear s1
              go_wp2
              go_roundw
              case rel => exact ⟨k + 1, by omega, by go_num, HC.out.succ E.out, hbx⟩
              case measure => simp [intOf]; omega
          · have z : (s == 0) = false := by simp [s1]
            have E := hid (show sdB (pt a i) (pt b j) b j k = true by rw [HE.out, decide_eq_false s0, decide_eq_false s1]; rfl)
            clear s1
            go_wp2
            go_roundw
            case rel => exact ⟨k + 1, by omega, by go_num, HC.out.succ E.out, hbx⟩
            case measure => simp [intOf]; omega
        · obtain rfl : k = b.length := by omega
          have EB := hid (aT_iff.2 HC.out)
          clear HC
          go_wp2
          go_ret
          exact ⟨ret_bool (by unfold brS; rw [EA.out, EB.out]; rfl), hbw⟩
def ibOk (a b : List (Int × Int)) (i j : Int) : Bool := twI a b && (decide (0 ≤ i ∧ i < a.length) && decide (0 ≤ j ∧ j < b.length))
def ibV (a b : List (Int × Int)) (i j : Int) : Bool := ibOk a b i j && brS a b i.toNat j.toNat
theorem l1In_c (n lo hi : Int) (w : World) : Calls Tryd.prog 39 #[.int .i64 n, .int .i64 lo, .int .i64 hi] w fun e w' => e = .returned (.bool (decide (lo ≤ n ∧ n ≤ hi))) ∧ w = w' := by
  by_cases h1 : lo ≤ n
  · by_cases h2 : n ≤ hi
    · rw [decide_eq_true ⟨h1, h2⟩]
      go_enter Tryd.func39, Tryd.ntmps39
      go_wp2
      go_ret
      exact ⟨rfl, rfl⟩
    · rw [decide_eq_false (fun h => h2 h.2)]
      go_enter Tryd.func39, Tryd.ntmps39
      go_wp2
      go_ret
      exact ⟨rfl, rfl⟩
  · rw [decide_eq_false (fun h => h1 h.1)]
    go_enter Tryd.func39, Tryd.ntmps39
    go_wp2
    go_ret
    exact ⟨rfl, rfl⟩
theorem ret_bbS {a b c d : Bool} (h : a = b) (k : c = d) : Ending.returned (.tuple #[.bool a, .bool c]) = .returned (.tuple #[.bool b, .bool d]) := by rw [h, k]
set_option maxHeartbeats 4000000 in
theorem isBridgeSpec_c (a b : List (Int × Int)) (i j : Int) (pa pb : Option Addr) (na ca nb cb : Nat) (w : World) (hla : a.length = na) (hlb : b.length = nb) (h1 : na ≤ 1048576) (h2 : nb ≤ 1048576) (hA : At w.heap.size pa a w) (hB : At w.heap.size pb b w) :
    Calls Tryd.prog 21 #[.slice pa na ca, .slice pb nb cb, .int .i64 i, .int .i64 j] w fun e w' => e = .returned (.tuple #[.bool (ibV a b i j), .bool (ibOk a b i j)]) ∧ Below w.heap.size w w' := by
  subst hla hlb
  have HA := hid hA
  have HB := hid hB
  clear hA hB
  have hwa : IntKind.i64.wrap ((a.length : Int) - 1) = (a.length : Int) - 1 := by rw [IntKind.wrap_i64]; omega
  have hwb : IntKind.i64.wrap ((b.length : Int) - 1) = (b.length : Int) - 1 := by rw [IntKind.wrap_i64]; omega
  have HOK := hid (show ibOk a b i j = (twI a b && (decide (0 ≤ i ∧ i ≤ (a.length : Int) - 1) && decide (0 ≤ j ∧ j ≤ (b.length : Int) - 1))) by
    unfold ibOk
    rw [decide_eq_decide.2 (show (0 ≤ i ∧ i < (a.length : Int)) ↔ (0 ≤ i ∧ i ≤ (a.length : Int) - 1) by omega), decide_eq_decide.2 (show (0 ≤ j ∧ j < (b.length : Int)) ↔ (0 ≤ j ∧ j ≤ (b.length : Int) - 1) by omega)])
  cases hT : twI a b
  · have E := hid (show ibOk a b i j = false by unfold ibOk; rw [hT]; rfl)
    go_enter Tryd.func21, Tryd.ntmps21
    go_wp2_with (go_at_call 22; refine (l7Two_c a b _ _ _ _ _ _ _ rfl rfl h1 h2 HA.out HB.out).mono ?_; rw [hT]; rintro e w1 ⟨rfl, hb1⟩)
    go_ret2
    exact ⟨ret_bbS (by unfold ibV; rw [E.out]; rfl) (by first | rfl | exact E.out.symm), hb1⟩
  rw [hT] at HOK
  cases hI : decide (0 ≤ i ∧ i ≤ (a.length : Int) - 1)
  · have E := hid (show ibOk a b i j = false by rw [HOK.out, hI]; rfl)
    go_enter Tryd.func21, Tryd.ntmps21
    go_wp2_with (first
      | (go_at_call 22; refine (l7Two_c a b _ _ _ _ _ _ _ rfl rfl h1 h2 HA.out HB.out).mono ?_; rw [hT]; rintro e w1 ⟨rfl, hb1⟩)
      | (go_at_call 39; refine (l1In_c _ _ _ _).mono ?_; rw [hI]; rintro e w2 ⟨rfl, rfl⟩))
    go_ret2
    exact ⟨ret_bbS (by unfold ibV; rw [E.out]; rfl) (by first | rfl | exact E.out.symm), hb1⟩
  cases hJ : decide (0 ≤ j ∧ j ≤ (b.length : Int) - 1)
  · have E := hid (show ibOk a b i j = false by rw [HOK.out, hI, hJ]; rfl)
    have tok : True := trivial
    go_enter Tryd.func21, Tryd.ntmps21
    go_wp2_with (first
      | (go_at_call 22; refine (l7Two_c a b _ _ _ _ _ _ _ rfl rfl h1 h2 HA.out HB.out).mono ?_; rw [hT]; rintro e w1 ⟨rfl, hb1⟩)
      | (go_at_call 39; clear tok; refine (l1In_c _ _ _ _).mono ?_; rw [hI]; rintro e w2 ⟨rfl, rfl⟩)
      | (go_at_call 39; refine (l1In_c _ _ _ _).mono ?_; rw [hJ]; rintro e w2 ⟨rfl, rfl⟩))
    go_ret2
    exact ⟨ret_bbS (by unfold ibV; rw [E.out]; rfl) (by first | rfl | exact E.out.symm), hb1⟩
  · have E := hid (show ibOk a b i j = true by rw [HOK.out, hI, hJ]; rfl)
    have dI := of_decide_eq_true hI
    have dJ := of_decide_eq_true hJ
    obtain ⟨m, rfl⟩ : ∃ m : Nat, i = (m : Int) := ⟨i.toNat, by omega⟩
    obtain ⟨n, rfl⟩ : ∃ n : Nat, j = (n : Int) := ⟨j.toNat, by omega⟩
    have hm : m < a.length := by omega
    have hn : n < b.length := by omega
    have EV := hid (show ibV a b (m : Int) (n : Int) = brS a b m n by unfold ibV; rw [E.out]; rfl)
    have HR := hid (fun (u : World) (hu : Below w.heap.size w u) => l7Bridge_c a b m n pa pb a.length ca b.length cb u rfl rfl h1 h2 hm hn ((HA.out.later hu).mono hu.size) ((HB.out.later hu).mono hu.size))
    have tok : True := trivial
    clear dI dJ
    go_enter Tryd.func21, Tryd.ntmps21
    go_wp2_with (first
      | (go_at_call 22; refine (l7Two_c a b _ _ _ _ _ _ _ rfl rfl h1 h2 HA.out HB.out).mono ?_; rw [hT]; rintro e w1 ⟨rfl, hb1⟩)
      | (go_at_call 39; clear tok; refine (l1In_c _ _ _ _).mono ?_; rw [hI]; rintro e w2 ⟨rfl, rfl⟩)
      | (go_at_call 39; refine (l1In_c _ _ _ _).mono ?_; rw [hJ]; rintro e w2 ⟨rfl, rfl⟩)
      | (go_at_call 40; refine (HR.out _ hb1).mono ?_; rintro e w2 ⟨rfl, hb2⟩))
    go_ret2
    exact ⟨ret_bbS EV.out.symm (by first | rfl | exact E.out.symm), grew hb1 hb2⟩
set_option maxHeartbeats 4000000 in
theorem isBridgeImpl_c (a b : List (Int × Int)) (i j : Int) (pa pb : Option Addr) (na ca nb cb : Nat) (w : World) (hla : a.length = na) (hlb : b.length = nb) (h1 : na ≤ 1048576) (h2 : nb ≤ 1048576) (hA : At w.heap.size pa a w) (hB : At w.heap.size pb b w) (c0 : w.cell? ⟨0, 0, none⟩ = some (.int .i64 1000000)) :
    Calls Tryd.prog 19 #[.slice pa na ca, .slice pb nb cb, .int .i64 i, .int .i64 j] w fun e w' => e = .returned (.tuple #[.bool (ibV a b i j), .bool (ibOk a b i j)]) ∧ Below w.heap.size w w' := by
  subst hla hlb
  have HA := hid hA
  have HB := hid hB
  have C0 := hid c0
  clear hA hB
  have hwa : IntKind.i64.wrap ((a.length : Int) - 1) = (a.length : Int) - 1 := by rw [IntKind.wrap_i64]; omega
  have hwb : IntKind.i64.wrap ((b.length : Int) - 1) = (b.length : Int) - 1 := by rw [IntKind.wrap_i64]; omega
  cases hT : twI a b
  · have E := hid (show ibOk a b i j = false by unfold ibOk; rw [hT]; rfl)
    go_enter Tryd.func19, Tryd.ntmps19
    go_wp2_with (go_at_call 25; refine (areChains_c a b _ _ _ _ _ _ _ rfl rfl h1 h2 HA.out HB.out C0.out).mono ?_; rw [hT]; rintro e w1 ⟨rfl, hb1⟩)
    go_ret2
    exact ⟨ret_bbS (by unfold ibV; rw [E.out]; rfl) (by first | rfl | exact E.out.symm), hb1⟩
  have mk : ¬ ((0 ≤ i ∧ i < (a.length : Int)) ∧ (0 ≤ j ∧ j < (b.length : Int))) → ibOk a b i j = false := fun h => by
    unfold ibOk
    rw [hT, Bool.true_and, ← Bool.decide_and]
    exact decide_eq_false h
  by_cases c1 : 0 ≤ i
  case neg =>
    have E := hid (mk (by omega))
    go_enter Tryd.func19, Tryd.ntmps19
    go_wp2_with (go_at_call 25; refine (areChains_c a b _ _ _ _ _ _ _ rfl rfl h1 h2 HA.out HB.out C0.out).mono ?_; rw [hT]; rintro e w1 ⟨rfl, hb1⟩)
    go_ret2
    exact ⟨ret_bbS (by unfold ibV; rw [E.out]; rfl) (by first | rfl | exact E.out.symm), hb1⟩
  by_cases c2 : i < (a.length : Int)
  case neg =>
    have E := hid (mk (by omega))
    have c2' : ¬ (i ≤ (a.length : Int) - 1) := by omega
    go_enter Tryd.func19, Tryd.ntmps19
    go_wp2_with (go_at_call 25; refine (areChains_c a b _ _ _ _ _ _ _ rfl rfl h1 h2 HA.out HB.out C0.out).mono ?_; rw [hT]; rintro e w1 ⟨rfl, hb1⟩)
    go_ret2
    exact ⟨ret_bbS (by unfold ibV; rw [E.out]; rfl) (by first | rfl | exact E.out.symm), hb1⟩
  by_cases c3 : 0 ≤ j
  case neg =>
    have E := hid (mk (by omega))
    have c2' : i ≤ (a.length : Int) - 1 := by omega
    go_enter Tryd.func19, Tryd.ntmps19
    go_wp2_with (go_at_call 25; refine (areChains_c a b _ _ _ _ _ _ _ rfl rfl h1 h2 HA.out HB.out C0.out).mono ?_; rw [hT]; rintro e w1 ⟨rfl, hb1⟩)
    go_ret2
    exact ⟨ret_bbS (by unfold ibV; rw [E.out]; rfl) (by first | rfl | exact E.out.symm), hb1⟩
  by_cases c4 : j < (b.length : Int)
  case neg =>
    have E := hid (mk (by omega))
    have c2' : i ≤ (a.length : Int) - 1 := by omega
    have c4' : ¬ (j ≤ (b.length : Int) - 1) := by omega
    go_enter Tryd.func19, Tryd.ntmps19
    go_wp2_with (go_at_call 25; refine (areChains_c a b _ _ _ _ _ _ _ rfl rfl h1 h2 HA.out HB.out C0.out).mono ?_; rw [hT]; rintro e w1 ⟨rfl, hb1⟩)
    go_ret2
    exact ⟨ret_bbS (by unfold ibV; rw [E.out]; rfl) (by first | rfl | exact E.out.symm), hb1⟩
  have E := hid (show ibOk a b i j = true by unfold ibOk; rw [hT, decide_eq_true ⟨c1, c2⟩, decide_eq_true ⟨c3, c4⟩]; rfl)
  have c2' : i ≤ (a.length : Int) - 1 := by omega
  have c4' : j ≤ (b.length : Int) - 1 := by omega
  obtain ⟨m, rfl⟩ : ∃ m : Nat, i = (m : Int) := ⟨i.toNat, by omega⟩
  obtain ⟨n, rfl⟩ : ∃ n : Nat, j = (n : Int) := ⟨j.toNat, by omega⟩
  have hm : m < a.length := by omega
  have hn : n < b.length := by omega
  have EV := hid (show ibV a b (m : Int) (n : Int) = brS a b m n by unfold ibV; rw [E.out]; rfl)
  clear mk
  have EQ := hid (EV.out.trans (br_eq hT hm hn).symm)
  obtain ⟨b1, o1, e1, hb1, g0, g1⟩ := HA.out m hm
  obtain ⟨b2, o2, e2, hb2', g2, g3⟩ := HB.out n hn
  subst e1 e2
  have H1 := hid (fun (u : World) (hu : Below w.heap.size w u) => lies_c a (px a m) (py a m) (px b n) (py b n) _ a.length ca u rfl h1 ((HA.out.later hu).mono hu.size) (cell_later hu C0.out))
  have H2 := hid (fun (u : World) (hu : Below w.heap.size w u) => lies_c b (px a m) (py a m) (px b n) (py b n) _ b.length cb u rfl h2 ((HB.out.later hu).mono hu.size) (cell_later hu C0.out))
  have m0 : (0 : Int) ≤ (m : Int) := by omega
  have m1 : (m : Int) < (a.length : Int) := by omega
  have n0 : (0 : Int) ≤ (n : Int) := by omega
  have n1 : (n : Int) < (b.length : Int) := by omega
  clear EV
  cases v1 : ovI (pt a m) (pt b n) a
  · simp only [pt] at v1 EQ
    rw [v1] at H1 EQ
    go_enter Tryd.func19, Tryd.ntmps19
    go_upto_region 3 with (go_at_call 25; refine (areChains_c a b _ _ _ _ _ _ _ rfl rfl h1 h2 HA.out HB.out C0.out).mono ?_; rw [hT]; rintro e w1 ⟨rfl, hbw⟩)
    have HBW := hid hbw
    have q0 := cell_later hbw g0
    have q1 := cell_later hbw g1
    have q2 := cell_later hbw g2
    have q3 := cell_later hbw g3
    clear g0 g1 g2 g3
    refine wp_region_held_drew (S := (fun u => Below w1.heap.size w1 u)) (by kernel_rfl) ?_ (fun hHeld => ?_)
    · exact (Below.refl _ _).drew
    refine wpAnyH_take (i := 0) (oi := { dst := some 34, op := Op.move (Operand.tmp 0), type := 24, pos := "l7_tree.go:56", after := #[], guard := none }) (v := ?v68yx0u21) rfl (by kernel_rfl) (by kernel_rfl) (by kernel_rfl) (fun _ _ _ h => h) (Or.inl ⟨by rfl, ?hy68yx0u21⟩) (by with_reducible assumption) ?rest68yx0u21
    case hy68yx0u21 => (intro wS hSw; (try dsimp only at hSw); have z0 := cell_later hSw q0; have z1 := cell_later hSw q1; have z2 := cell_later hSw q2; have z3 := cell_later hSw q3; clear hSw; go_simp; try with_reducible rfl)
    case' rest68yx0u21 => (try simp only [Act.put, List.setIfInBounds_toArray, List.set_cons_zero, List.set_cons_succ])
    refine wpAnyH_take (i := 1) (oi := { dst := some 35, op := Op.move (Operand.tmp 2), type := 3, pos := "l7_tree.go:56", after := #[], guard := none }) (v := ?v69yx1u22) rfl (by kernel_rfl) (by kernel_rfl) (by kernel_rfl) (fun _ _ _ h => h) (Or.inl ⟨by rfl, ?hy69yx1u22⟩) (by with_reducible assumption) ?rest69yx1u22
    case hy69yx1u22 => (intro wS hSw; (try dsimp only at hSw); have z0 := cell_later hSw q0; have z1 := cell_later hSw q1; have z2 := cell_later hSw q2; have z3 := cell_later hSw q3; clear hSw; go_simp; try with_reducible rfl)
    case' rest69yx1u22 => (try simp only [Act.put, List.setIfInBounds_toArray, List.set_cons_zero, List.set_cons_succ])
    refine wpAnyH_take (i := 2) (oi := { dst := some 36, op := Op.indexAddr 24 (Operand.tmp 34) (Operand.tmp 35), type := 0, pos := "l7_tree.go:56", after := #[{ on := 0, ground := Ground.data }, { on := 1, ground := Ground.data }], guard := none }) (v := ?v70yx2u23) rfl (by kernel_rfl) (by kernel_rfl) (by kernel_rfl) (fun _ _ _ h => h) (Or.inl ⟨by rfl, ?hy70yx2u23⟩) (by with_reducible assumption) ?rest70yx2u23
    case hy70yx2u23 => (intro wS hSw; (try dsimp only at hSw); have z0 := cell_later hSw q0; have z1 := cell_later hSw q1; have z2 := cell_later hSw q2; have z3 := cell_later hSw q3; clear hSw; go_simp; try with_reducible rfl)
    case' rest70yx2u23 => (try simp only [Act.put, List.setIfInBounds_toArray, List.set_cons_zero, List.set_cons_succ])
    refine wpAnyH_take (i := 3) (oi := { dst := some 37, op := Op.load 44 (Operand.tmp 36), type := 44, pos := "l7_tree.go:56", after := #[{ on := 2, ground := Ground.data }], guard := none }) (v := ?v71yx3u24) rfl (by kernel_rfl) (by kernel_rfl) (by kernel_rfl) (fun _ _ _ h => h) (Or.inl ⟨by rfl, ?hy71yx3u24⟩) (by with_reducible assumption) ?rest71yx3u24
    case hy71yx3u24 => (intro wS hSw; (try dsimp only at hSw); have z0 := cell_later hSw q0; have z1 := cell_later hSw q1; have z2 := cell_later hSw q2; have z3 := cell_later hSw q3; clear hSw; go_simp; try with_reducible rfl)
    case' rest71yx3u24 => (try simp only [Act.put, List.setIfInBounds_toArray, List.set_cons_zero, List.set_cons_succ])
    refine wpAnyH_take (i := 4) (oi := { dst := some 38, op := Op.move (Operand.tmp 1), type := 24, pos := "l7_tree.go:56", after := #[], guard := none }) (v := ?v72yx4u25) rfl (by kernel_rfl) (by kernel_rfl) (by kernel_rfl) (fun _ _ _ h => h) (Or.inl ⟨by rfl, ?hy72yx4u25⟩) (by with_reducible assumption) ?rest72yx4u25
    case hy72yx4u25 => (intro wS hSw; (try dsimp only at hSw); have z0 := cell_later hSw q0; have z1 := cell_later hSw q1; have z2 := cell_later hSw q2; have z3 := cell_later hSw q3; clear hSw; go_simp; try with_reducible rfl)
    case' rest72yx4u25 => (try simp only [Act.put, List.setIfInBounds_toArray, List.set_cons_zero, List.set_cons_succ])
    refine wpAnyH_take (i := 5) (oi := { dst := some 39, op := Op.move (Operand.tmp 3), type := 3, pos := "l7_tree.go:56", after := #[], guard := none }) (v := ?v73yx5u26) rfl (by kernel_rfl) (by kernel_rfl) (by kernel_rfl) (fun _ _ _ h => h) (Or.inl ⟨by rfl, ?hy73yx5u26⟩) (by with_reducible assumption) ?rest73yx5u26
    case hy73yx5u26 => (intro wS hSw; (try dsimp only at hSw); have z0 := cell_later hSw q0; have z1 := cell_later hSw q1; have z2 := cell_later hSw q2; have z3 := cell_later hSw q3; clear hSw; go_simp; try with_reducible rfl)
    case' rest73yx5u26 => (try simp only [Act.put, List.setIfInBounds_toArray, List.set_cons_zero, List.set_cons_succ])
    refine wpAnyH_take (i := 6) (oi := { dst := some 40, op := Op.indexAddr 24 (Operand.tmp 38) (Operand.tmp 39), type := 0, pos := "l7_tree.go:56", after := #[{ on := 4, ground := Ground.data }, { on := 5, ground := Ground.data }], guard := none }) (v := ?v74yx6u27) rfl (by kernel_rfl) (by kernel_rfl) (by kernel_rfl) (fun _ _ _ h => h) (Or.inl ⟨by rfl, ?hy74yx6u27⟩) (by with_reducible assumption) ?rest74yx6u27
    case hy74yx6u27 => (intro wS hSw; (try dsimp only at hSw); have z0 := cell_later hSw q0; have z1 := cell_later hSw q1; have z2 := cell_later hSw q2; have z3 := cell_later hSw q3; clear hSw; go_simp; try with_reducible rfl)
    case' rest74yx6u27 => (try simp only [Act.put, List.setIfInBounds_toArray, List.set_cons_zero, List.set_cons_succ])
    refine wpAnyH_take (i := 7) (oi := { dst := some 41, op := Op.load 44 (Operand.tmp 40), type := 44, pos := "l7_tree.go:56", after := #[{ on := 6, ground := Ground.data }], guard := none }) (v := ?v75yx7u28) rfl (by kernel_rfl) (by kernel_rfl) (by kernel_rfl) (fun _ _ _ h => h) (Or.inl ⟨by rfl, ?hy75yx7u28⟩) (by with_reducible assumption) ?rest75yx7u28
    case hy75yx7u28 => (intro wS hSw; (try dsimp only at hSw); have z0 := cell_later hSw q0; have z1 := cell_later hSw q1; have z2 := cell_later hSw q2; have z3 := cell_later hSw q3; clear hSw; go_simp; try with_reducible rfl)
    case' rest75yx7u28 => (try simp only [Act.put, List.setIfInBounds_toArray, List.set_cons_zero, List.set_cons_succ])
    refine wpAnyH_take (i := 8) (oi := { dst := some 42, op := Op.move (Operand.tmp 0), type := 24, pos := "l7_tree.go:56", after := #[], guard := none }) (v := ?v76yx8u29) rfl (by kernel_rfl) (by kernel_rfl) (by kernel_rfl) (fun _ _ _ h => h) (Or.inl ⟨by rfl, ?hy76yx8u29⟩) (by with_reducible assumption) ?rest76yx8u29
    case hy76yx8u29 => (intro wS hSw; (try dsimp only at hSw); have z0 := cell_later hSw q0; have z1 := cell_later hSw q1; have z2 := cell_later hSw q2; have z3 := cell_later hSw q3; clear hSw; go_simp; try with_reducible rfl)
    case' rest76yx8u29 => (try simp only [Act.put, List.setIfInBounds_toArray, List.set_cons_zero, List.set_cons_succ])
    refine wpAnyH_ready (rs := [9]) (by kernel_rfl) (by simp) ?_
    refine AllReadyH.cons (o := { dst := some 43, op := Op.call { callee := Callee.value (Operand.func 36), args := #[Operand.tmp 37, Operand.tmp 41, Operand.tmp 42], argTypes := #[44, 44, 24] }, type := 4, pos := "l7_tree.go:56", after := #[{ on := 3, ground := Ground.data }, { on := 7, ground := Ground.data }, { on := 8, ground := Ground.data }], guard := none }) rfl (fun K hK => ?_) AllReadyH.nil
    go_simp
    refine (H1.out _ (grew HBW.out hHeld)).mono ?_
    rintro e w2 ⟨rfl, hb2⟩
    go_wp2_with fail
    refine hK.out _ _ ?_ (fun hHeld => ?_)
    · exact grew (by with_reducible assumption) hb2
    clear hK K
    try simp only [Act.put, List.setIfInBounds_toArray, List.set_cons_zero, List.set_cons_succ]
    refine wpAnyH_take (i := 10) (oi := { dst := some 44, op := Op.move (Operand.tmp 43), type := 4, pos := "l7_tree.go:56", after := #[{ on := 9, ground := Ground.data }, { on := 9, ground := Ground.chain }], guard := none }) (v := ?v77yx10u30) rfl (by kernel_rfl) (by kernel_rfl) (by kernel_rfl) (fun _ _ _ h => h) (Or.inl ⟨by rfl, ?hy77yx10u30⟩) (by with_reducible assumption) ?rest77yx10u30
    case hy77yx10u30 => (intro wS hSw; (try dsimp only at hSw); have z0 := cell_later hSw q0; have z1 := cell_later hSw q1; have z2 := cell_later hSw q2; have z3 := cell_later hSw q3; clear hSw; go_simp; try with_reducible rfl)
    case' rest77yx10u30 => (try simp only [Act.put, List.setIfInBounds_toArray, List.set_cons_zero, List.set_cons_succ])
    refine wpAnyH_take (i := 11) (oi := { dst := some 45, op := Op.move (Operand.tmp 0), type := 24, pos := "l7_tree.go:56", after := #[{ on := 10, ground := Ground.guard }], guard := some (10, true) }) (v := undef) rfl (by kernel_rfl) (by kernel_rfl) (by kernel_rfl) (fun _ _ _ h => h) (Or.inr ⟨by rfl, rfl⟩) (by with_reducible assumption) ?rest78sx11
    case' rest78sx11 => (try simp only [Act.put, List.setIfInBounds_toArray, List.set_cons_zero, List.set_cons_succ])
    refine wpAnyH_take (i := 12) (oi := { dst := some 46, op := Op.move (Operand.tmp 2), type := 3, pos := "l7_tree.go:56", after := #[{ on := 10, ground := Ground.guard }], guard := some (10, true) }) (v := undef) rfl (by kernel_rfl) (by kernel_rfl) (by kernel_rfl) (fun _ _ _ h => h) (Or.inr ⟨by rfl, rfl⟩) (by with_reducible assumption) ?rest79sx12
    case' rest79sx12 => (try simp only [Act.put, List.setIfInBounds_toArray, List.set_cons_zero, List.set_cons_succ])
    refine wpAnyH_take (i := 13) (oi := { dst := some 47, op := Op.indexAddr 24 (Operand.tmp 45) (Operand.tmp 46), type := 0, pos := "l7_tree.go:56", after := #[{ on := 11, ground := Ground.data }, { on := 12, ground := Ground.data }, { on := 10, ground := Ground.guard }], guard := some (10, true) }) (v := undef) rfl (by kernel_rfl) (by kernel_rfl) (by kernel_rfl) (fun _ _ _ h => h) (Or.inr ⟨by rfl, rfl⟩) (by with_reducible assumption) ?rest80sx13
    case' rest80sx13 => (try simp only [Act.put, List.setIfInBounds_toArray, List.set_cons_zero, List.set_cons_succ])
    refine wpAnyH_take (i := 14) (oi := { dst := some 48, op := Op.load 44 (Operand.tmp 47), type := 44, pos := "l7_tree.go:56", after := #[{ on := 13, ground := Ground.data }, { on := 10, ground := Ground.guard }], guard := some (10, true) }) (v := undef) rfl (by kernel_rfl) (by kernel_rfl) (by kernel_rfl) (fun _ _ _ h => h) (Or.inr ⟨by rfl, rfl⟩) (by with_reducible assumption) ?rest81sx14
    case' rest81sx14 => (try simp only [Act.put, List.setIfInBounds_toArray, List.set_cons_zero, List.set_cons_succ])
    refine wpAnyH_take (i := 15) (oi := { dst := some 49, op := Op.move (Operand.tmp 1), type := 24, pos := "l7_tree.go:56", after := #[{ on := 10, ground := Ground.guard }], guard := some (10, true) }) (v := undef) rfl (by kernel_rfl) (by kernel_rfl) (by kernel_rfl) (fun _ _ _ h => h) (Or.inr ⟨by rfl, rfl⟩) (by with_reducible assumption) ?rest82sx15
    case' rest82sx15 => (try simp only [Act.put, List.setIfInBounds_toArray, List.set_cons_zero, List.set_cons_succ])
    refine wpAnyH_take (i := 16) (oi := { dst := some 50, op := Op.move (Operand.tmp 3), type := 3, pos := "l7_tree.go:56", after := #[{ on := 10, ground := Ground.guard }], guard := some (10, true) }) (v := undef) rfl (by kernel_rfl) (by kernel_rfl) (by kernel_rfl) (fun _ _ _ h => h) (Or.inr ⟨by rfl, rfl⟩) (by with_reducible assumption) ?rest83sx16
    case' rest83sx16 => (try simp only [Act.put, List.setIfInBounds_toArray, List.set_cons_zero, List.set_cons_succ])
    refine wpAnyH_take (i := 17) (oi := { dst := some 51, op := Op.indexAddr 24 (Operand.tmp 49) (Operand.tmp 50), type := 0, pos := "l7_tree.go:56", after := #[{ on := 15, ground := Ground.data }, { on := 16, ground := Ground.data }, { on := 10, ground := Ground.guard }], guard := some (10, true) }) (v := undef) rfl (by kernel_rfl) (by kernel_rfl) (by kernel_rfl) (fun _ _ _ h => h) (Or.inr ⟨by rfl, rfl⟩) (by with_reducible assumption) ?rest84sx17
    case' rest84sx17 => (try simp only [Act.put, List.setIfInBounds_toArray, List.set_cons_zero, List.set_cons_succ])
    refine wpAnyH_take (i := 18) (oi := { dst := some 52, op := Op.load 44 (Operand.tmp 51), type := 44, pos := "l7_tree.go:56", after := #[{ on := 17, ground := Ground.data }, { on := 10, ground := Ground.guard }], guard := some (10, true) }) (v := undef) rfl (by kernel_rfl) (by kernel_rfl) (by kernel_rfl) (fun _ _ _ h => h) (Or.inr ⟨by rfl, rfl⟩) (by with_reducible assumption) ?rest85sx18
    case' rest85sx18 => (try simp only [Act.put, List.setIfInBounds_toArray, List.set_cons_zero, List.set_cons_succ])
    refine wpAnyH_take (i := 19) (oi := { dst := some 53, op := Op.move (Operand.tmp 1), type := 24, pos := "l7_tree.go:56", after := #[{ on := 10, ground := Ground.guard }], guard := some (10, true) }) (v := undef) rfl (by kernel_rfl) (by kernel_rfl) (by kernel_rfl) (fun _ _ _ h => h) (Or.inr ⟨by rfl, rfl⟩) (by with_reducible assumption) ?rest86sx19
    case' rest86sx19 => (try simp only [Act.put, List.setIfInBounds_toArray, List.set_cons_zero, List.set_cons_succ])
    refine wpAnyH_take (i := 20) (oi := { dst := some 54, op := Op.call { callee := Callee.value (Operand.func 36), args := #[Operand.tmp 48, Operand.tmp 52, Operand.tmp 53], argTypes := #[44, 44, 24] }, type := 4, pos := "l7_tree.go:56", after := #[{ on := 14, ground := Ground.data }, { on := 18, ground := Ground.data }, { on := 19, ground := Ground.data }, { on := 10, ground := Ground.chain }, { on := 10, ground := Ground.guard }], guard := some (10, true) }) (v := undef) rfl (by kernel_rfl) (by kernel_rfl) (by kernel_rfl) (fun _ _ _ h => h) (Or.inr ⟨by rfl, rfl⟩) (by with_reducible assumption) ?rest87sx20
    case' rest87sx20 => (try simp only [Act.put, List.setIfInBounds_toArray, List.set_cons_zero, List.set_cons_succ])
    refine wpAnyH_take (i := 21) (oi := { dst := some 55, op := Op.pick (Operand.tmp 44) (Operand.tmp 54) (Operand.const (Value.bool false)), type := 4, pos := "l7_tree.go:56", after := #[{ on := 10, ground := Ground.data }, { on := 20, ground := Ground.data }], guard := none }) (v := ?v88yx21u31) rfl (by kernel_rfl) (by kernel_rfl) (by kernel_rfl) (fun _ _ _ h => h) (Or.inl ⟨by rfl, ?hy88yx21u31⟩) (by with_reducible assumption) ?rest88yx21u31
    case hy88yx21u31 => (intro wS hSw; (try dsimp only at hSw); have z0 := cell_later hSw q0; have z1 := cell_later hSw q1; have z2 := cell_later hSw q2; have z3 := cell_later hSw q3; clear hSw; go_simp; try with_reducible rfl)
    case' rest88yx21u31 => (try simp only [Act.put, List.setIfInBounds_toArray, List.set_cons_zero, List.set_cons_succ])
    refine wpAnyH_take (i := 22) (oi := { dst := some 8, op := Op.assign (Operand.tmp 55), type := 4, pos := "l7_tree.go:56", after := #[{ on := 21, ground := Ground.data }, { on := 20, ground := Ground.chain }, { on := 0, ground := Ground.phase }, { on := 1, ground := Ground.phase }, { on := 2, ground := Ground.phase }, { on := 3, ground := Ground.phase }, { on := 4, ground := Ground.phase }, { on := 5, ground := Ground.phase }, { on := 6, ground := Ground.phase }, { on := 7, ground := Ground.phase }, { on := 8, ground := Ground.phase }, { on := 9, ground := Ground.phase }, { on := 10, ground := Ground.phase }, { on := 11, ground := Ground.phase }, { on := 12, ground := Ground.phase }, { on := 13, ground := Ground.phase }, { on := 14, ground := Ground.phase }, { on := 15, ground := Ground.phase }, { on := 16, ground := Ground.phase }, { on := 17, ground := Ground.phase }, { on := 18, ground := Ground.phase }, { on := 19, ground := Ground.phase }, { on := 20, ground := Ground.phase }, { on := 21, ground := Ground.phase }], guard := none }) (v := ?v89yx22u32) rfl (by kernel_rfl) (by kernel_rfl) (by kernel_rfl) (fun _ _ _ h => h) (Or.inl ⟨by rfl, ?hy89yx22u32⟩) (by with_reducible assumption) ?rest89yx22u32
    case hy89yx22u32 => (intro wS hSw; (try dsimp only at hSw); have z0 := cell_later hSw q0; have z1 := cell_later hSw q1; have z2 := cell_later hSw q2; have z3 := cell_later hSw q3; clear hSw; go_simp; try with_reducible rfl)
    case' rest89yx22u32 => (try simp only [Act.put, List.setIfInBounds_toArray, List.set_cons_zero, List.set_cons_succ])
    refine wpAnyH_take (i := 23) (oi := { dst := some 9, op := Op.assign (Operand.const (Value.bool true)), type := 4, pos := "l7_tree.go:56", after := #[{ on := 22, ground := Ground.chain }, { on := 0, ground := Ground.phase }, { on := 1, ground := Ground.phase }, { on := 2, ground := Ground.phase }, { on := 3, ground := Ground.phase }, { on := 4, ground := Ground.phase }, { on := 5, ground := Ground.phase }, { on := 6, ground := Ground.phase }, { on := 7, ground := Ground.phase }, { on := 8, ground := Ground.phase }, { on := 9, ground := Ground.phase }, { on := 10, ground := Ground.phase }, { on := 11, ground := Ground.phase }, { on := 12, ground := Ground.phase }, { on := 13, ground := Ground.phase }, { on := 14, ground := Ground.phase }, { on := 15, ground := Ground.phase }, { on := 16, ground := Ground.phase }, { on := 17, ground := Ground.phase }, { on := 18, ground := Ground.phase }, { on := 19, ground := Ground.phase }, { on := 20, ground := Ground.phase }, { on := 21, ground := Ground.phase }, { on := 22, ground := Ground.phase }], guard := none }) (v := ?v90yx23u33) rfl (by kernel_rfl) (by kernel_rfl) (by kernel_rfl) (fun _ _ _ h => h) (Or.inl ⟨by rfl, ?hy90yx23u33⟩) (by with_reducible assumption) ?rest90yx23u33
    case hy90yx23u33 => (intro wS hSw; (try dsimp only at hSw); have z0 := cell_later hSw q0; have z1 := cell_later hSw q1; have z2 := cell_later hSw q2; have z3 := cell_later hSw q3; clear hSw; go_simp; try with_reducible rfl)
    case' rest90yx23u33 => (try simp only [Act.put, List.setIfInBounds_toArray, List.set_cons_zero, List.set_cons_succ])
    refine wpAnyH_done (by kernel_rfl) ?_ _
    go_wp2
    go_ret2
    exact ⟨ret_bbS (EQ.out.symm) (by first | rfl | exact E.out.symm), grew HBW.out (by with_reducible assumption)⟩
  · simp only [pt] at v1 EQ
    rw [v1] at H1 EQ
    obtain ⟨v2, hv2⟩ : ∃ v, ovI (px a m, py a m) (px b n, py b n) b = v := ⟨_, rfl⟩
    rw [hv2] at H2 EQ
    go_enter Tryd.func19, Tryd.ntmps19
    go_upto_region 3 with (go_at_call 25; refine (areChains_c a b _ _ _ _ _ _ _ rfl rfl h1 h2 HA.out HB.out C0.out).mono ?_; rw [hT]; rintro e w1 ⟨rfl, hbw⟩)
    have HBW := hid hbw
    have q0 := cell_later hbw g0
    have q1 := cell_later hbw g1
    have q2 := cell_later hbw g2
    have q3 := cell_later hbw g3
    clear g0 g1 g2 g3
    refine wp_region_held_drew (S := (fun u => Below w1.heap.size w1 u)) (by kernel_rfl) ?_ (fun hHeld => ?_)
    · exact (Below.refl _ _).drew
    refine wpAnyH_take (i := 0) (oi := { dst := some 34, op := Op.move (Operand.tmp 0), type := 24, pos := "l7_tree.go:56", after := #[], guard := none }) (v := ?v92yx0u34) rfl (by kernel_rfl) (by kernel_rfl) (by kernel_rfl) (fun _ _ _ h => h) (Or.inl ⟨by rfl, ?hy92yx0u34⟩) (by with_reducible assumption) ?rest92yx0u34
    case hy92yx0u34 => (intro wS hSw; (try dsimp only at hSw); have z0 := cell_later hSw q0; have z1 := cell_later hSw q1; have z2 := cell_later hSw q2; have z3 := cell_later hSw q3; clear hSw; go_simp; try with_reducible rfl)
    case' rest92yx0u34 => (try simp only [Act.put, List.setIfInBounds_toArray, List.set_cons_zero, List.set_cons_succ])
    refine wpAnyH_take (i := 1) (oi := { dst := some 35, op := Op.move (Operand.tmp 2), type := 3, pos := "l7_tree.go:56", after := #[], guard := none }) (v := ?v93yx1u35) rfl (by kernel_rfl) (by kernel_rfl) (by kernel_rfl) (fun _ _ _ h => h) (Or.inl ⟨by rfl, ?hy93yx1u35⟩) (by with_reducible assumption) ?rest93yx1u35
    case hy93yx1u35 => (intro wS hSw; (try dsimp only at hSw); have z0 := cell_later hSw q0; have z1 := cell_later hSw q1; have z2 := cell_later hSw q2; have z3 := cell_later hSw q3; clear hSw; go_simp; try with_reducible rfl)
    case' rest93yx1u35 => (try simp only [Act.put, List.setIfInBounds_toArray, List.set_cons_zero, List.set_cons_succ])
    refine wpAnyH_take (i := 2) (oi := { dst := some 36, op := Op.indexAddr 24 (Operand.tmp 34) (Operand.tmp 35), type := 0, pos := "l7_tree.go:56", after := #[{ on := 0, ground := Ground.data }, { on := 1, ground := Ground.data }], guard := none }) (v := ?v94yx2u36) rfl (by kernel_rfl) (by kernel_rfl) (by kernel_rfl) (fun _ _ _ h => h) (Or.inl ⟨by rfl, ?hy94yx2u36⟩) (by with_reducible assumption) ?rest94yx2u36
    case hy94yx2u36 => (intro wS hSw; (try dsimp only at hSw); have z0 := cell_later hSw q0; have z1 := cell_later hSw q1; have z2 := cell_later hSw q2; have z3 := cell_later hSw q3; clear hSw; go_simp; try with_reducible rfl)
    case' rest94yx2u36 => (try simp only [Act.put, List.setIfInBounds_toArray, List.set_cons_zero, List.set_cons_succ])
    refine wpAnyH_take (i := 3) (oi := { dst := some 37, op := Op.load 44 (Operand.tmp 36), type := 44, pos := "l7_tree.go:56", after := #[{ on := 2, ground := Ground.data }], guard := none }) (v := ?v95yx3u37) rfl (by kernel_rfl) (by kernel_rfl) (by kernel_rfl) (fun _ _ _ h => h) (Or.inl ⟨by rfl, ?hy95yx3u37⟩) (by with_reducible assumption) ?rest95yx3u37
    case hy95yx3u37 => (intro wS hSw; (try dsimp only at hSw); have z0 := cell_later hSw q0; have z1 := cell_later hSw q1; have z2 := cell_later hSw q2; have z3 := cell_later hSw q3; clear hSw; go_simp; try with_reducible rfl)
    case' rest95yx3u37 => (try simp only [Act.put, List.setIfInBounds_toArray, List.set_cons_zero, List.set_cons_succ])
    refine wpAnyH_take (i := 4) (oi := { dst := some 38, op := Op.move (Operand.tmp 1), type := 24, pos := "l7_tree.go:56", after := #[], guard := none }) (v := ?v96yx4u38) rfl (by kernel_rfl) (by kernel_rfl) (by kernel_rfl) (fun _ _ _ h => h) (Or.inl ⟨by rfl, ?hy96yx4u38⟩) (by with_reducible assumption) ?rest96yx4u38
    case hy96yx4u38 => (intro wS hSw; (try dsimp only at hSw); have z0 := cell_later hSw q0; have z1 := cell_later hSw q1; have z2 := cell_later hSw q2; have z3 := cell_later hSw q3; clear hSw; go_simp; try with_reducible rfl)
    case' rest96yx4u38 => (try simp only [Act.put, List.setIfInBounds_toArray, List.set_cons_zero, List.set_cons_succ])
    refine wpAnyH_take (i := 5) (oi := { dst := some 39, op := Op.move (Operand.tmp 3), type := 3, pos := "l7_tree.go:56", after := #[], guard := none }) (v := ?v97yx5u39) rfl (by kernel_rfl) (by kernel_rfl) (by kernel_rfl) (fun _ _ _ h => h) (Or.inl ⟨by rfl, ?hy97yx5u39⟩) (by with_reducible assumption) ?rest97yx5u39
    case hy97yx5u39 => (intro wS hSw; (try dsimp only at hSw); have z0 := cell_later hSw q0; have z1 := cell_later hSw q1; have z2 := cell_later hSw q2; have z3 := cell_later hSw q3; clear hSw; go_simp; try with_reducible rfl)
    case' rest97yx5u39 => (try simp only [Act.put, List.setIfInBounds_toArray, List.set_cons_zero, List.set_cons_succ])
    refine wpAnyH_take (i := 6) (oi := { dst := some 40, op := Op.indexAddr 24 (Operand.tmp 38) (Operand.tmp 39), type := 0, pos := "l7_tree.go:56", after := #[{ on := 4, ground := Ground.data }, { on := 5, ground := Ground.data }], guard := none }) (v := ?v98yx6u40) rfl (by kernel_rfl) (by kernel_rfl) (by kernel_rfl) (fun _ _ _ h => h) (Or.inl ⟨by rfl, ?hy98yx6u40⟩) (by with_reducible assumption) ?rest98yx6u40
    case hy98yx6u40 => (intro wS hSw; (try dsimp only at hSw); have z0 := cell_later hSw q0; have z1 := cell_later hSw q1; have z2 := cell_later hSw q2; have z3 := cell_later hSw q3; clear hSw; go_simp; try with_reducible rfl)
    case' rest98yx6u40 => (try simp only [Act.put, List.setIfInBounds_toArray, List.set_cons_zero, List.set_cons_succ])
    refine wpAnyH_take (i := 7) (oi := { dst := some 41, op := Op.load 44 (Operand.tmp 40), type := 44, pos := "l7_tree.go:56", after := #[{ on := 6, ground := Ground.data }], guard := none }) (v := ?v99yx7u41) rfl (by kernel_rfl) (by kernel_rfl) (by kernel_rfl) (fun _ _ _ h => h) (Or.inl ⟨by rfl, ?hy99yx7u41⟩) (by with_reducible assumption) ?rest99yx7u41
    case hy99yx7u41 => (intro wS hSw; (try dsimp only at hSw); have z0 := cell_later hSw q0; have z1 := cell_later hSw q1; have z2 := cell_later hSw q2; have z3 := cell_later hSw q3; clear hSw; go_simp; try with_reducible rfl)
    case' rest99yx7u41 => (try simp only [Act.put, List.setIfInBounds_toArray, List.set_cons_zero, List.set_cons_succ])
    refine wpAnyH_take (i := 8) (oi := { dst := some 42, op := Op.move (Operand.tmp 0), type := 24, pos := "l7_tree.go:56", after := #[], guard := none }) (v := ?v100yx8u42) rfl (by kernel_rfl) (by kernel_rfl) (by kernel_rfl) (fun _ _ _ h => h) (Or.inl ⟨by rfl, ?hy100yx8u42⟩) (by with_reducible assumption) ?rest100yx8u42
    case hy100yx8u42 => (intro wS hSw; (try dsimp only at hSw); have z0 := cell_later hSw q0; have z1 := cell_later hSw q1; have z2 := cell_later hSw q2; have z3 := cell_later hSw q3; clear hSw; go_simp; try with_reducible rfl)
    case' rest100yx8u42 => (try simp only [Act.put, List.setIfInBounds_toArray, List.set_cons_zero, List.set_cons_succ])
    refine wpAnyH_ready (rs := [9]) (by kernel_rfl) (by simp) ?_
    refine AllReadyH.cons (o := { dst := some 43, op := Op.call { callee := Callee.value (Operand.func 36), args := #[Operand.tmp 37, Operand.tmp 41, Operand.tmp 42], argTypes := #[44, 44, 24] }, type := 4, pos := "l7_tree.go:56", after := #[{ on := 3, ground := Ground.data }, { on := 7, ground := Ground.data }, { on := 8, ground := Ground.data }], guard := none }) rfl (fun K hK => ?_) AllReadyH.nil
    go_simp
    refine (H1.out _ (grew HBW.out hHeld)).mono ?_
    rintro e w2 ⟨rfl, hb2⟩
    go_wp2_with fail
    refine hK.out _ _ ?_ (fun hHeld => ?_)
    · exact grew (by with_reducible assumption) hb2
    clear hK K
    try simp only [Act.put, List.setIfInBounds_toArray, List.set_cons_zero, List.set_cons_succ]
    refine wpAnyH_take (i := 10) (oi := { dst := some 44, op := Op.move (Operand.tmp 43), type := 4, pos := "l7_tree.go:56", after := #[{ on := 9, ground := Ground.data }, { on := 9, ground := Ground.chain }], guard := none }) (v := ?v101yx10u43) rfl (by kernel_rfl) (by kernel_rfl) (by kernel_rfl) (fun _ _ _ h => h) (Or.inl ⟨by rfl, ?hy101yx10u43⟩) (by with_reducible assumption) ?rest101yx10u43
    case hy101yx10u43 => (intro wS hSw; (try dsimp only at hSw); have z0 := cell_later hSw q0; have z1 := cell_later hSw q1; have z2 := cell_later hSw q2; have z3 := cell_later hSw q3; clear hSw; go_simp; try with_reducible rfl)
    case' rest101yx10u43 => (try simp only [Act.put, List.setIfInBounds_toArray, List.set_cons_zero, List.set_cons_succ])
    refine wpAnyH_take (i := 11) (oi := { dst := some 45, op := Op.move (Operand.tmp 0), type := 24, pos := "l7_tree.go:56", after := #[{ on := 10, ground := Ground.guard }], guard := some (10, true) }) (v := ?v102yx11u44) rfl (by kernel_rfl) (by kernel_rfl) (by kernel_rfl) (fun _ _ _ h => h) (Or.inl ⟨by rfl, ?hy102yx11u44⟩) (by with_reducible assumption) ?rest102yx11u44
    case hy102yx11u44 => (intro wS hSw; (try dsimp only at hSw); have z0 := cell_later hSw q0; have z1 := cell_later hSw q1; have z2 := cell_later hSw q2; have z3 := cell_later hSw q3; clear hSw; go_simp; try with_reducible rfl)
    case' rest102yx11u44 => (try simp only [Act.put, List.setIfInBounds_toArray, List.set_cons_zero, List.set_cons_succ])
    refine wpAnyH_take (i := 12) (oi := { dst := some 46, op := Op.move (Operand.tmp 2), type := 3, pos := "l7_tree.go:56", after := #[{ on := 10, ground := Ground.guard }], guard := some (10, true) }) (v := ?v103yx12u45) rfl (by kernel_rfl) (by kernel_rfl) (by kernel_rfl) (fun _ _ _ h => h) (Or.inl ⟨by rfl, ?hy103yx12u45⟩) (by with_reducible assumption) ?rest103yx12u45
    case hy103yx12u45 => (intro wS hSw; (try dsimp only at hSw); have z0 := cell_later hSw q0; have z1 := cell_later hSw q1; have z2 := cell_later hSw q2; have z3 := cell_later hSw q3; clear hSw; go_simp; try with_reducible rfl)
    case' rest103yx12u45 => (try simp only [Act.put, List.setIfInBounds_toArray, List.set_cons_zero, List.set_cons_succ])
    refine wpAnyH_take (i := 13) (oi := { dst := some 47, op := Op.indexAddr 24 (Operand.tmp 45) (Operand.tmp 46), type := 0, pos := "l7_tree.go:56", after := #[{ on := 11, ground := Ground.data }, { on := 12, ground := Ground.data }, { on := 10, ground := Ground.guard }], guard := some (10, true) }) (v := ?v104yx13u46) rfl (by kernel_rfl) (by kernel_rfl) (by kernel_rfl) (fun _ _ _ h => h) (Or.inl ⟨by rfl, ?hy104yx13u46⟩) (by with_reducible assumption) ?rest104yx13u46
    case hy104yx13u46 => (intro wS hSw; (try dsimp only at hSw); have z0 := cell_later hSw q0; have z1 := cell_later hSw q1; have z2 := cell_later hSw q2; have z3 := cell_later hSw q3; clear hSw; go_simp; try with_reducible rfl)
    case' rest104yx13u46 => (try simp only [Act.put, List.setIfInBounds_toArray, List.set_cons_zero, List.set_cons_succ])
    refine wpAnyH_take (i := 14) (oi := { dst := some 48, op := Op.load 44 (Operand.tmp 47), type := 44, pos := "l7_tree.go:56", after := #[{ on := 13, ground := Ground.data }, { on := 10, ground := Ground.guard }], guard := some (10, true) }) (v := ?v105yx14u47) rfl (by kernel_rfl) (by kernel_rfl) (by kernel_rfl) (fun _ _ _ h => h) (Or.inl ⟨by rfl, ?hy105yx14u47⟩) (by with_reducible assumption) ?rest105yx14u47
    case hy105yx14u47 => (intro wS hSw; (try dsimp only at hSw); have z0 := cell_later hSw q0; have z1 := cell_later hSw q1; have z2 := cell_later hSw q2; have z3 := cell_later hSw q3; clear hSw; go_simp; try with_reducible rfl)
    case' rest105yx14u47 => (try simp only [Act.put, List.setIfInBounds_toArray, List.set_cons_zero, List.set_cons_succ])
    refine wpAnyH_take (i := 15) (oi := { dst := some 49, op := Op.move (Operand.tmp 1), type := 24, pos := "l7_tree.go:56", after := #[{ on := 10, ground := Ground.guard }], guard := some (10, true) }) (v := ?v106yx15u48) rfl (by kernel_rfl) (by kernel_rfl) (by kernel_rfl) (fun _ _ _ h => h) (Or.inl ⟨by rfl, ?hy106yx15u48⟩) (by with_reducible assumption) ?rest106yx15u48
    case hy106yx15u48 => (intro wS hSw; (try dsimp only at hSw); have z0 := cell_later hSw q0; have z1 := cell_later hSw q1; have z2 := cell_later hSw q2; have z3 := cell_later hSw q3; clear hSw; go_simp; try with_reducible rfl)
    case' rest106yx15u48 => (try simp only [Act.put, List.setIfInBounds_toArray, List.set_cons_zero, List.set_cons_succ])
    refine wpAnyH_take (i := 16) (oi := { dst := some 50, op := Op.move (Operand.tmp 3), type := 3, pos := "l7_tree.go:56", after := #[{ on := 10, ground := Ground.guard }], guard := some (10, true) }) (v := ?v107yx16u49) rfl (by kernel_rfl) (by kernel_rfl) (by kernel_rfl) (fun _ _ _ h => h) (Or.inl ⟨by rfl, ?hy107yx16u49⟩) (by with_reducible assumption) ?rest107yx16u49
    case hy107yx16u49 => (intro wS hSw; (try dsimp only at hSw); have z0 := cell_later hSw q0; have z1 := cell_later hSw q1; have z2 := cell_later hSw q2; have z3 := cell_later hSw q3; clear hSw; go_simp; try with_reducible rfl)
    case' rest107yx16u49 => (try simp only [Act.put, List.setIfInBounds_toArray, List.set_cons_zero, List.set_cons_succ])
    refine wpAnyH_take (i := 17) (oi := { dst := some 51, op := Op.indexAddr 24 (Operand.tmp 49) (Operand.tmp 50), type := 0, pos := "l7_tree.go:56", after := #[{ on := 15, ground := Ground.data }, { on := 16, ground := Ground.data }, { on := 10, ground := Ground.guard }], guard := some (10, true) }) (v := ?v108yx17u50) rfl (by kernel_rfl) (by kernel_rfl) (by kernel_rfl) (fun _ _ _ h => h) (Or.inl ⟨by rfl, ?hy108yx17u50⟩) (by with_reducible assumption) ?rest108yx17u50
    case hy108yx17u50 => (intro wS hSw; (try dsimp only at hSw); have z0 := cell_later hSw q0; have z1 := cell_later hSw q1; have z2 := cell_later hSw q2; have z3 := cell_later hSw q3; clear hSw; go_simp; try with_reducible rfl)
    case' rest108yx17u50 => (try simp only [Act.put, List.setIfInBounds_toArray, List.set_cons_zero, List.set_cons_succ])
    refine wpAnyH_take (i := 18) (oi := { dst := some 52, op := Op.load 44 (Operand.tmp 51), type := 44, pos := "l7_tree.go:56", after := #[{ on := 17, ground := Ground.data }, { on := 10, ground := Ground.guard }], guard := some (10, true) }) (v := ?v109yx18u51) rfl (by kernel_rfl) (by kernel_rfl) (by kernel_rfl) (fun _ _ _ h => h) (Or.inl ⟨by rfl, ?hy109yx18u51⟩) (by with_reducible assumption) ?rest109yx18u51
    case hy109yx18u51 => (intro wS hSw; (try dsimp only at hSw); have z0 := cell_later hSw q0; have z1 := cell_later hSw q1; have z2 := cell_later hSw q2; have z3 := cell_later hSw q3; clear hSw; go_simp; try with_reducible rfl)
    case' rest109yx18u51 => (try simp only [Act.put, List.setIfInBounds_toArray, List.set_cons_zero, List.set_cons_succ])
    refine wpAnyH_take (i := 19) (oi := { dst := some 53, op := Op.move (Operand.tmp 1), type := 24, pos := "l7_tree.go:56", after := #[{ on := 10, ground := Ground.guard }], guard := some (10, true) }) (v := ?v110yx19u52) rfl (by kernel_rfl) (by kernel_rfl) (by kernel_rfl) (fun _ _ _ h => h) (Or.inl ⟨by rfl, ?hy110yx19u52⟩) (by with_reducible assumption) ?rest110yx19u52
    case hy110yx19u52 => (intro wS hSw; (try dsimp only at hSw); have z0 := cell_later hSw q0; have z1 := cell_later hSw q1; have z2 := cell_later hSw q2; have z3 := cell_later hSw q3; clear hSw; go_simp; try with_reducible rfl)
    case' rest110yx19u52 => (try simp only [Act.put, List.setIfInBounds_toArray, List.set_cons_zero, List.set_cons_succ])
    refine wpAnyH_ready (rs := [20]) (by kernel_rfl) (by simp) ?_
    refine AllReadyH.cons (o := { dst := some 54, op := Op.call { callee := Callee.value (Operand.func 36), args := #[Operand.tmp 48, Operand.tmp 52, Operand.tmp 53], argTypes := #[44, 44, 24] }, type := 4, pos := "l7_tree.go:56", after := #[{ on := 14, ground := Ground.data }, { on := 18, ground := Ground.data }, { on := 19, ground := Ground.data }, { on := 10, ground := Ground.chain }, { on := 10, ground := Ground.guard }], guard := some (10, true) }) rfl (fun K hK => ?_) AllReadyH.nil
    go_simp
    refine (H2.out _ (grew HBW.out hHeld)).mono ?_
    rintro e w3 ⟨rfl, hb2⟩
    go_wp2_with fail
    refine hK.out _ _ ?_ (fun hHeld => ?_)
    · exact grew (by with_reducible assumption) hb2
    clear hK K
    try simp only [Act.put, List.setIfInBounds_toArray, List.set_cons_zero, List.set_cons_succ]
    refine wpAnyH_take (i := 21) (oi := { dst := some 55, op := Op.pick (Operand.tmp 44) (Operand.tmp 54) (Operand.const (Value.bool false)), type := 4, pos := "l7_tree.go:56", after := #[{ on := 10, ground := Ground.data }, { on := 20, ground := Ground.data }], guard := none }) (v := ?v111yx21u53) rfl (by kernel_rfl) (by kernel_rfl) (by kernel_rfl) (fun _ _ _ h => h) (Or.inl ⟨by rfl, ?hy111yx21u53⟩) (by with_reducible assumption) ?rest111yx21u53
    case hy111yx21u53 => (intro wS hSw; (try dsimp only at hSw); have z0 := cell_later hSw q0; have z1 := cell_later hSw q1; have z2 := cell_later hSw q2; have z3 := cell_later hSw q3; clear hSw; go_simp; try with_reducible rfl)
    case' rest111yx21u53 => (try simp only [Act.put, List.setIfInBounds_toArray, List.set_cons_zero, List.set_cons_succ])
    refine wpAnyH_take (i := 22) (oi := { dst := some 8, op := Op.assign (Operand.tmp 55), type := 4, pos := "l7_tree.go:56", after := #[{ on := 21, ground := Ground.data }, { on := 20, ground := Ground.chain }, { on := 0, ground := Ground.phase }, { on := 1, ground := Ground.phase }, { on := 2, ground := Ground.phase }, { on := 3, ground := Ground.phase }, { on := 4, ground := Ground.phase }, { on := 5, ground := Ground.phase }, { on := 6, ground := Ground.phase }, { on := 7, ground := Ground.phase }, { on := 8, ground := Ground.phase }, { on := 9, ground := Ground.phase }, { on := 10, ground := Ground.phase }, { on := 11, ground := Ground.phase }, { on := 12, ground := Ground.phase }, { on := 13, ground := Ground.phase }, { on := 14, ground := Ground.phase }, { on := 15, ground := Ground.phase }, { on := 16, ground := Ground.phase }, { on := 17, ground := Ground.phase }, { on := 18, ground := Ground.phase }, { on := 19, ground := Ground.phase }, { on := 20, ground := Ground.phase }, { on := 21, ground := Ground.phase }], guard := none }) (v := ?v112yx22u54) rfl (by kernel_rfl) (by kernel_rfl) (by kernel_rfl) (fun _ _ _ h => h) (Or.inl ⟨by rfl, ?hy112yx22u54⟩) (by with_reducible assumption) ?rest112yx22u54
    case hy112yx22u54 => (intro wS hSw; (try dsimp only at hSw); have z0 := cell_later hSw q0; have z1 := cell_later hSw q1; have z2 := cell_later hSw q2; have z3 := cell_later hSw q3; clear hSw; go_simp; try with_reducible rfl)
    case' rest112yx22u54 => (try simp only [Act.put, List.setIfInBounds_toArray, List.set_cons_zero, List.set_cons_succ])
    refine wpAnyH_take (i := 23) (oi := { dst := some 9, op := Op.assign (Operand.const (Value.bool true)), type := 4, pos := "l7_tree.go:56", after := #[{ on := 22, ground := Ground.chain }, { on := 0, ground := Ground.phase }, { on := 1, ground := Ground.phase }, { on := 2, ground := Ground.phase }, { on := 3, ground := Ground.phase }, { on := 4, ground := Ground.phase }, { on := 5, ground := Ground.phase }, { on := 6, ground := Ground.phase }, { on := 7, ground := Ground.phase }, { on := 8, ground := Ground.phase }, { on := 9, ground := Ground.phase }, { on := 10, ground := Ground.phase }, { on := 11, ground := Ground.phase }, { on := 12, ground := Ground.phase }, { on := 13, ground := Ground.phase }, { on := 14, ground := Ground.phase }, { on := 15, ground := Ground.phase }, { on := 16, ground := Ground.phase }, { on := 17, ground := Ground.phase }, { on := 18, ground := Ground.phase }, { on := 19, ground := Ground.phase }, { on := 20, ground := Ground.phase }, { on := 21, ground := Ground.phase }, { on := 22, ground := Ground.phase }], guard := none }) (v := ?v113yx23u55) rfl (by kernel_rfl) (by kernel_rfl) (by kernel_rfl) (fun _ _ _ h => h) (Or.inl ⟨by rfl, ?hy113yx23u55⟩) (by with_reducible assumption) ?rest113yx23u55
    case hy113yx23u55 => (intro wS hSw; (try dsimp only at hSw); have z0 := cell_later hSw q0; have z1 := cell_later hSw q1; have z2 := cell_later hSw q2; have z3 := cell_later hSw q3; clear hSw; go_simp; try with_reducible rfl)
    case' rest113yx23u55 => (try simp only [Act.put, List.setIfInBounds_toArray, List.set_cons_zero, List.set_cons_succ])
    refine wpAnyH_done (by kernel_rfl) ?_ _
    go_wp2
    go_ret2
    exact ⟨ret_bbS (EQ.out.symm) (by first | rfl | exact E.out.symm), grew HBW.out (by with_reducible assumption)⟩
end Go.Proofs.YtibmgoaildhclaaDoor
