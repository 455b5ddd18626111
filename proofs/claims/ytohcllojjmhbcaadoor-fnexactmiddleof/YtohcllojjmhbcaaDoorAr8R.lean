/-
  The steps on a side and the points of the rim, as the program reckons them (contracts for the walks).
  Conditions: as each theorem states them.
-/
import Derived.Test.YtohcllojjmhbcaaDoorSumOf
import Derived.Test.YtohcllojjmhbcaaDoorAr8S
namespace Go.Proofs.YtohcllojjmhbcaaDoor
open Go.RowKit Go.Shelf
set_option linter.unusedVariables false
set_option maxRecDepth 8000
set_option maxHeartbeats 2000000 in
theorem l8StepsI_c (ax ay bx b_y : Int) (w : World) (hx : -2000000 ≤ bx - ax ∧ bx - ax ≤ 2000000) (hy : -2000000 ≤ b_y - ay ∧ b_y - ay ≤ 2000000) :
    Calls Tryd.prog 59 #[.agg #[.int .i64 ax, .int .i64 ay], .agg #[.int .i64 bx, .int .i64 b_y]] w fun e w' => e = .returned (.int .i64 (stp (ax, ay) (bx, b_y))) ∧ Below w.heap.size w w' := by
  have HS := hid (show stp (ax, ay) (bx, b_y) = (Int.gcd (bx - ax) (b_y - ay) : Nat) from rfl)
  have w1 : IntKind.i64.wrap (bx - ax) = bx - ax := by rw [IntKind.wrap_i64]; omega
  have w2 : IntKind.i64.wrap (b_y - ay) = b_y - ay := by rw [IntKind.wrap_i64]; omega
  generalize stp (ax, ay) (bx, b_y) = S at HS ⊢
  obtain ⟨dx, hdx⟩ : ∃ d, bx - ax = d := ⟨_, rfl⟩
  obtain ⟨dy, hdy⟩ : ∃ d, b_y - ay = d := ⟨_, rfl⟩
  have HS2 := HS.out
  rw [hdx, hdy] at HS2
  rw [hdx] at w1 hx
  rw [hdy] at w2 hy
  have HX := hid hdx
  have HY := hid hdy
  replace HS := hid HS2
  clear HS2
  have W1 : IntKind.i64.wrap (bx - ax) = dx := by rw [hdx]; exact w1
  have W2 : IntKind.i64.wrap (b_y - ay) = dy := by rw [hdy]; exact w2
  clear hdx hdy w1 w2
  have hbw : Below w.heap.size w ((w.alloc (.cells #[.int .i64 ax, .int .i64 ay] 26)).alloc (.cells #[.int .i64 bx, .int .i64 b_y] 26)) := by go_grown
  have HBW := hid hbw
  clear hbw
  go_enter Tryd.func59, Tryd.ntmps59
  go_wp2
  go_quiet (fail)
  go_wp2
  go_loopw [5, 6] (fun xx yy wr => ∃ m n : Int, xx = .int .i64 m ∧ yy = .int .i64 n ∧ Int.gcd m n = Int.gcd dx dy ∧ m.natAbs ≤ 2000000 ∧ n.natAbs ≤ 2000000 ∧ Below w.heap.size w wr) (fun _ yy _ => (intOf yy).natAbs)
  case atStart => exact ⟨dx, dy, rfl, rfl, rfl, by omega, by omega, grew HBW.out (drewN_below _ _)⟩
  case round =>
    obtain ⟨m, n, rfl, rfl, hg, hm, hn, hbw⟩ := hrel
    by_cases h0 : n = 0
    · subst h0
      by_cases h1 : m < 0
      · have e : S = -m := by rw [HS.out, ← hg, Int.gcd_zero_right]; omega
        have hw : IntKind.i64.wrap (-m) = -m := by rw [IntKind.wrap_i64]; omega
        have hx : max m (-m) = -m := by omega
        go_wp2
        go_ret
        exact ⟨ret_int (by first | rfl | exact e.symm | omega), hbw⟩
      · have e : S = m := by rw [HS.out, ← hg, Int.gcd_zero_right]; omega
        have hw : IntKind.i64.wrap (-m) = -m := by rw [IntKind.wrap_i64]; omega
        have hx : max m (-m) = m := by omega
        go_wp2
        go_ret
        exact ⟨ret_int (by first | rfl | exact e.symm | omega), hbw⟩
    · have hlt : (Int.tmod m n).natAbs < n.natAbs := by rw [Int.natAbs_tmod]; exact Nat.mod_lt _ (by omega)
      have HG := hid ((gcd_step m n h0).trans hg)
      have hw : IntKind.i64.wrap (Int.tmod m n) = Int.tmod m n := by rw [IntKind.wrap_i64]; omega
      have hnz : (n != 0) = true := by simp [h0]
      go_wp2
      go_quiet (fail)
      go_wp2
      generalize Int.tmod m n = r at hlt HG hw ⊢
      go_roundw
      case rel => exact ⟨n, r, rfl, by first | rfl | go_num, HG.out, hn, by omega, grew hbw (drewN_below _ _)⟩
      case measure => simp [intOf]; omega
/-- The function that rimPoints hands in. -/
theorem rim1_c (l : List (Int × Int)) (k B : Nat) (a : Option Addr) (len cap : Nat) (wu : World) (hl : l.length = len) (h60 : len ≤ 60) (hkl : k < len) (hG : allG l) (hA : At wu.heap.size a l wu) (hB : BoxV wu B (.slice a len cap) 24) :
    Calls Tryd.prog 92 #[.int .i64 (k : Int), .pointer (some ⟨B, 0, none⟩)] wu fun e u' => e = .returned (.int .i64 (stp (pt l k) (pt l ((k + 1) % l.length)))) ∧ Below wu.heap.size wu u' := by
  subst hl
  have HA := hid hA
  have HG := hid hG
  clear hA hG
  have hm : (k + 1) % l.length < l.length := Nat.mod_lt _ (by omega)
  obtain ⟨HD1, HD2⟩ := stp_d HG.out hkl hm
  have qb := hB.c0
  obtain ⟨b, off, rfl, hbN, q0, q1⟩ := HA.out k hkl
  have k0 : (0 : Int) ≤ (k : Int) := by omega
  have k1 : (k : Int) < (l.length : Int) := by omega
  clear hB
  go_enter Tryd.func92, Tryd.ntmps92
  go_upto_region 1 with fail
  refine wp_region_held_drew (S := (fun u => Below wu.heap.size wu u)) (by kernel_rfl) ?_ (fun hHeld => ?_)
  · exact (Below.refl _ _).drew
  refine wpAnyH_take (i := 0) (oi := { dst := some 4, op := Op.load 24 (Operand.tmp 1), type := 24, pos := "l8_area.go:116", after := #[], guard := none }) (v := ?v2yx0) rfl (by kernel_rfl) (by kernel_rfl) (by kernel_rfl) (fun _ _ _ h => h) (Or.inl ⟨by rfl, ?hy2yx0⟩) (by with_reducible assumption) ?rest2yx0
  case hy2yx0 => (intro wS hSw; (try dsimp only at hSw); have z0 := cell_later hSw q0; have z1 := cell_later hSw q1; have z2 := cell_later hSw qb; clear hSw; go_simp; try with_reducible rfl)
  case' rest2yx0 => (try simp only [Act.put, List.setIfInBounds_toArray, List.set_cons_zero, List.set_cons_succ])
  refine wpAnyH_take (i := 1) (oi := { dst := some 5, op := Op.move (Operand.tmp 0), type := 3, pos := "l8_area.go:116", after := #[], guard := none }) (v := ?v3yx1) rfl (by kernel_rfl) (by kernel_rfl) (by kernel_rfl) (fun _ _ _ h => h) (Or.inl ⟨by rfl, ?hy3yx1⟩) (by with_reducible assumption) ?rest3yx1
  case hy3yx1 => (intro wS hSw; (try dsimp only at hSw); have z0 := cell_later hSw q0; have z1 := cell_later hSw q1; have z2 := cell_later hSw qb; clear hSw; go_simp; try with_reducible rfl)
  case' rest3yx1 => (try simp only [Act.put, List.setIfInBounds_toArray, List.set_cons_zero, List.set_cons_succ])
  refine wpAnyH_take (i := 2) (oi := { dst := some 6, op := Op.indexAddr 24 (Operand.tmp 4) (Operand.tmp 5), type := 0, pos := "l8_area.go:116", after := #[{ on := 0, ground := Ground.data }, { on := 1, ground := Ground.data }], guard := none }) (v := ?v4yx2) rfl (by kernel_rfl) (by kernel_rfl) (by kernel_rfl) (fun _ _ _ h => h) (Or.inl ⟨by rfl, ?hy4yx2⟩) (by with_reducible assumption) ?rest4yx2
  case hy4yx2 => (intro wS hSw; (try dsimp only at hSw); have z0 := cell_later hSw q0; have z1 := cell_later hSw q1; have z2 := cell_later hSw qb; clear hSw; go_simp; try with_reducible rfl)
  case' rest4yx2 => (try simp only [Act.put, List.setIfInBounds_toArray, List.set_cons_zero, List.set_cons_succ])
  refine wpAnyH_take (i := 3) (oi := { dst := some 7, op := Op.load 26 (Operand.tmp 6), type := 26, pos := "l8_area.go:116", after := #[{ on := 2, ground := Ground.data }], guard := none }) (v := ?v5yx3) rfl (by kernel_rfl) (by kernel_rfl) (by kernel_rfl) (fun _ _ _ h => h) (Or.inl ⟨by rfl, ?hy5yx3⟩) (by with_reducible assumption) ?rest5yx3
  case hy5yx3 => (intro wS hSw; (try dsimp only at hSw); have z0 := cell_later hSw q0; have z1 := cell_later hSw q1; have z2 := cell_later hSw qb; clear hSw; go_simp; try with_reducible rfl)
  case' rest5yx3 => (try simp only [Act.put, List.setIfInBounds_toArray, List.set_cons_zero, List.set_cons_succ])
  refine wpAnyH_take (i := 4) (oi := { dst := some 8, op := Op.load 24 (Operand.tmp 1), type := 24, pos := "l8_area.go:116", after := #[], guard := none }) (v := ?v6yx4) rfl (by kernel_rfl) (by kernel_rfl) (by kernel_rfl) (fun _ _ _ h => h) (Or.inl ⟨by rfl, ?hy6yx4⟩) (by with_reducible assumption) ?rest6yx4
  case hy6yx4 => (intro wS hSw; (try dsimp only at hSw); have z0 := cell_later hSw q0; have z1 := cell_later hSw q1; have z2 := cell_later hSw qb; clear hSw; go_simp; try with_reducible rfl)
  case' rest6yx4 => (try simp only [Act.put, List.setIfInBounds_toArray, List.set_cons_zero, List.set_cons_succ])
  refine wpAnyH_take (i := 5) (oi := { dst := some 9, op := Op.move (Operand.tmp 0), type := 3, pos := "l8_area.go:116", after := #[], guard := none }) (v := ?v7yx5) rfl (by kernel_rfl) (by kernel_rfl) (by kernel_rfl) (fun _ _ _ h => h) (Or.inl ⟨by rfl, ?hy7yx5⟩) (by with_reducible assumption) ?rest7yx5
  case hy7yx5 => (intro wS hSw; (try dsimp only at hSw); have z0 := cell_later hSw q0; have z1 := cell_later hSw q1; have z2 := cell_later hSw qb; clear hSw; go_simp; try with_reducible rfl)
  case' rest7yx5 => (try simp only [Act.put, List.setIfInBounds_toArray, List.set_cons_zero, List.set_cons_succ])
  refine wpAnyH_ready (rs := [6]) (by kernel_rfl) (by simp) ?_
  refine AllReadyH.cons (o := { dst := some 10, op := Op.call { callee := Callee.value (Operand.func 93), args := #[Operand.tmp 8, Operand.tmp 9], argTypes := #[24, 3] }, type := 26, pos := "l8_area.go:116", after := #[{ on := 4, ground := Ground.data }, { on := 5, ground := Ground.data }], guard := none }) rfl (fun K hK => ?_) AllReadyH.nil
  go_simp
  refine (nextOf_c l k _ _ _ _ rfl (by omega) hkl ((HA.out.later hHeld).mono hHeld.size)).mono ?_
  rintro e w1 ⟨rfl, hb1⟩
  go_wp2_with fail
  refine hK.out _ _ ?_ (fun hHeld => ?_)
  · exact grew (by with_reducible assumption) hb1
  clear hK K
  try simp only [Act.put, List.setIfInBounds_toArray, List.set_cons_zero, List.set_cons_succ]
  refine wpAnyH_ready (rs := [7]) (by kernel_rfl) (by simp) ?_
  refine AllReadyH.cons (o := { dst := some 11, op := Op.call { callee := Callee.value (Operand.func 59), args := #[Operand.tmp 7, Operand.tmp 10], argTypes := #[26, 26] }, type := 3, pos := "l8_area.go:116", after := #[{ on := 3, ground := Ground.data }, { on := 6, ground := Ground.data }, { on := 6, ground := Ground.chain }], guard := none }) rfl (fun K hK => ?_) AllReadyH.nil
  go_simp
  refine (l8StepsI_c _ _ _ _ _ HD1 HD2).mono ?_
  rintro e w2 ⟨rfl, hb2⟩
  go_wp2_with fail
  refine hK.out _ _ ?_ (fun hHeld => ?_)
  · exact grew (by with_reducible assumption) hb2
  clear hK K
  try simp only [Act.put, List.setIfInBounds_toArray, List.set_cons_zero, List.set_cons_succ]
  refine wpAnyH_take (i := 8) (oi := { dst := some 3, op := Op.assign (Operand.tmp 11), type := 3, pos := "l8_area.go:116", after := #[{ on := 7, ground := Ground.data }, { on := 7, ground := Ground.chain }, { on := 0, ground := Ground.phase }, { on := 1, ground := Ground.phase }, { on := 2, ground := Ground.phase }, { on := 3, ground := Ground.phase }, { on := 4, ground := Ground.phase }, { on := 5, ground := Ground.phase }, { on := 6, ground := Ground.phase }, { on := 7, ground := Ground.phase }], guard := none }) (v := ?v8yx8) rfl (by kernel_rfl) (by kernel_rfl) (by kernel_rfl) (fun _ _ _ h => h) (Or.inl ⟨by rfl, ?hy8yx8⟩) (by with_reducible assumption) ?rest8yx8
  case hy8yx8 => (intro wS hSw; (try dsimp only at hSw); have z0 := cell_later hSw q0; have z1 := cell_later hSw q1; have z2 := cell_later hSw qb; clear hSw; go_simp; try with_reducible rfl)
  case' rest8yx8 => (try simp only [Act.put, List.setIfInBounds_toArray, List.set_cons_zero, List.set_cons_succ])
  refine wpAnyH_done (by kernel_rfl) ?_ _
  go_wp2
  go_ret
  exact ⟨rfl, by with_reducible assumption⟩
theorem enter92 (xs : Array Value) (u : World) : Sem.run Tryd.prog (callFunc 92 xs) u = Result.ok (Next.enter 92 xs) u := by
  simp [callFunc, go_sem, Tryd.f92]
set_option maxHeartbeats 4000000 in
theorem rimI_c (l : List (Int × Int)) (a : Option Addr) (len cap : Nat) (w : World) (hl : l.length = len) (h60 : len ≤ 60) (hA : At w.heap.size a l w) (hG : allG l) :
    Calls Tryd.prog 64 #[.slice a len cap] w fun e w' => e = .returned (.int .i64 (rim8 l)) ∧ Below w.heap.size w w' := by
  subst hl
  have HA := hid hA
  have HG := hid hG
  clear hA hG
  have hbb : Below w.heap.size w (w.alloc (.cells #[.slice a l.length cap] 24)) := by go_grown
  have KB := BoxV.new w (.slice a l.length cap) 24
  by_cases e0 : l.length = 0
  · have e : rim8 l = 0 := by unfold rim8; rw [if_pos e0]
    have z : ((l.length : Int) == 0) = true := by simp [e0]
    have E := hid e
    have HBB := hid hbb
    clear e e0 hbb
    go_enter Tryd.func64, Tryd.ntmps64
    go_wp2
    go_ret
    exact ⟨ret_int (by rw [E.out]), HBB.out⟩
  by_cases e1 : l.length = 1
  · have e : rim8 l = 1 := by unfold rim8; rw [if_neg e0, if_pos e1]
    have z : ((l.length : Int) == 1) = true := by simp [e1]
    have z0 : ((l.length : Int) == 0) = false := by simp [e0]
    have hw : IntKind.i64.wrap ((l.length : Int) - 1) = 0 := by rw [IntKind.wrap_i64]; omega
    have E := hid e
    obtain ⟨HD1, HD2⟩ := stp_d HG.out (i := 0) (j := 0) (by omega) (by omega)
    have HW := hid (show IntKind.i64.wrap (stp (pt l 0) (pt l 0) + 1) = rim8 l by rw [IntKind.wrap_i64, e, stp_self]; omega)
    obtain ⟨b, off, rfl, hbN, g0, g1⟩ := HA.out 0 (by omega)
    simp only [Nat.zero_mul, Nat.add_zero] at g0 g1
    have q0 := cell_later hbb g0
    have q1 := cell_later hbb g1
    have qb := KB.c0
    have HBB := hid hbb
    have n0 : 0 < l.length := by omega
    clear e e0 e1 g0 g1 hbb KB
    go_enter Tryd.func64, Tryd.ntmps64
    go_upto_region 6 with fail
    generalize w.alloc (.cells #[.slice (some ⟨b, off, none⟩) l.length cap] 24) = wb at *
    refine wp_region_held_drew (S := (fun u => Below wb.heap.size wb u)) (by kernel_rfl) ?_ (fun hHeld => ?_)
    · exact (Below.refl _ _).drew
    refine wpAnyH_take (i := 0) (oi := { dst := some 10, op := Op.load 24 (Operand.tmp 1), type := 24, pos := "l8_area.go:114", after := #[], guard := none }) (v := ?v22yx0) rfl (by kernel_rfl) (by kernel_rfl) (by kernel_rfl) (fun _ _ _ h => h) (Or.inl ⟨by rfl, ?hy22yx0⟩) (by with_reducible assumption) ?rest22yx0
    case hy22yx0 => (intro wS hSw; (try dsimp only at hSw); have z0 := cell_later hSw qb; have z1 := cell_later hSw q0; have z2 := cell_later hSw q1; clear hSw; go_simp; try with_reducible rfl)
    case' rest22yx0 => (try simp only [Act.put, List.setIfInBounds_toArray, List.set_cons_zero, List.set_cons_succ])
    refine wpAnyH_take (i := 1) (oi := { dst := some 11, op := Op.indexAddr 24 (Operand.tmp 10) (Operand.const (Value.int IntKind.i64 0)), type := 0, pos := "l8_area.go:114", after := #[{ on := 0, ground := Ground.data }], guard := none }) (v := ?v23yx1) rfl (by kernel_rfl) (by kernel_rfl) (by kernel_rfl) (fun _ _ _ h => h) (Or.inl ⟨by rfl, ?hy23yx1⟩) (by with_reducible assumption) ?rest23yx1
    case hy23yx1 => (intro wS hSw; (try dsimp only at hSw); have z0 := cell_later hSw qb; have z1 := cell_later hSw q0; have z2 := cell_later hSw q1; clear hSw; go_simp; try with_reducible rfl)
    case' rest23yx1 => (try simp only [Act.put, List.setIfInBounds_toArray, List.set_cons_zero, List.set_cons_succ])
    refine wpAnyH_take (i := 2) (oi := { dst := some 12, op := Op.load 26 (Operand.tmp 11), type := 26, pos := "l8_area.go:114", after := #[{ on := 1, ground := Ground.data }], guard := none }) (v := ?v24yx2) rfl (by kernel_rfl) (by kernel_rfl) (by kernel_rfl) (fun _ _ _ h => h) (Or.inl ⟨by rfl, ?hy24yx2⟩) (by with_reducible assumption) ?rest24yx2
    case hy24yx2 => (intro wS hSw; (try dsimp only at hSw); have z0 := cell_later hSw qb; have z1 := cell_later hSw q0; have z2 := cell_later hSw q1; clear hSw; go_simp; try with_reducible rfl)
    case' rest24yx2 => (try simp only [Act.put, List.setIfInBounds_toArray, List.set_cons_zero, List.set_cons_succ])
    refine wpAnyH_take (i := 3) (oi := { dst := some 13, op := Op.load 24 (Operand.tmp 1), type := 24, pos := "l8_area.go:114", after := #[], guard := none }) (v := ?v25yx3) rfl (by kernel_rfl) (by kernel_rfl) (by kernel_rfl) (fun _ _ _ h => h) (Or.inl ⟨by rfl, ?hy25yx3⟩) (by with_reducible assumption) ?rest25yx3
    case hy25yx3 => (intro wS hSw; (try dsimp only at hSw); have z0 := cell_later hSw qb; have z1 := cell_later hSw q0; have z2 := cell_later hSw q1; clear hSw; go_simp; try with_reducible rfl)
    case' rest25yx3 => (try simp only [Act.put, List.setIfInBounds_toArray, List.set_cons_zero, List.set_cons_succ])
    refine wpAnyH_take (i := 4) (oi := { dst := some 14, op := Op.load 24 (Operand.tmp 1), type := 24, pos := "l8_area.go:114", after := #[], guard := none }) (v := ?v26yx4) rfl (by kernel_rfl) (by kernel_rfl) (by kernel_rfl) (fun _ _ _ h => h) (Or.inl ⟨by rfl, ?hy26yx4⟩) (by with_reducible assumption) ?rest26yx4
    case hy26yx4 => (intro wS hSw; (try dsimp only at hSw); have z0 := cell_later hSw qb; have z1 := cell_later hSw q0; have z2 := cell_later hSw q1; clear hSw; go_simp; try with_reducible rfl)
    case' rest26yx4 => (try simp only [Act.put, List.setIfInBounds_toArray, List.set_cons_zero, List.set_cons_succ])
    refine wpAnyH_take (i := 5) (oi := { dst := some 15, op := Op.call { callee := Callee.builtin Builtin.len, args := #[Operand.tmp 14], argTypes := #[24] }, type := 3, pos := "l8_area.go:114", after := #[{ on := 4, ground := Ground.data }], guard := none }) (v := ?v27yx5) rfl (by kernel_rfl) (by kernel_rfl) (by kernel_rfl) (fun _ _ _ h => h) (Or.inl ⟨by rfl, ?hy27yx5⟩) (by with_reducible assumption) ?rest27yx5
    case hy27yx5 => (intro wS hSw; (try dsimp only at hSw); have z0 := cell_later hSw qb; have z1 := cell_later hSw q0; have z2 := cell_later hSw q1; clear hSw; go_simp; try with_reducible rfl)
    case' rest27yx5 => (try simp only [Act.put, List.setIfInBounds_toArray, List.set_cons_zero, List.set_cons_succ])
    refine wpAnyH_take (i := 6) (oi := { dst := some 16, op := Op.binOp BinOp.sub 3 (Operand.tmp 15) (Operand.const (Value.int IntKind.i64 1)) 3, type := 3, pos := "l8_area.go:114", after := #[{ on := 5, ground := Ground.data }], guard := none }) (v := ?v28yx6) rfl (by kernel_rfl) (by kernel_rfl) (by kernel_rfl) (fun _ _ _ h => h) (Or.inl ⟨by rfl, ?hy28yx6⟩) (by with_reducible assumption) ?rest28yx6
    case hy28yx6 => (intro wS hSw; (try dsimp only at hSw); have z0 := cell_later hSw qb; have z1 := cell_later hSw q0; have z2 := cell_later hSw q1; clear hSw; go_simp; try with_reducible rfl)
    case' rest28yx6 => (try simp only [Act.put, List.setIfInBounds_toArray, List.set_cons_zero, List.set_cons_succ])
    refine wpAnyH_take (i := 7) (oi := { dst := some 17, op := Op.indexAddr 24 (Operand.tmp 13) (Operand.tmp 16), type := 0, pos := "l8_area.go:114", after := #[{ on := 3, ground := Ground.data }, { on := 6, ground := Ground.data }], guard := none }) (v := ?v29yx7) rfl (by kernel_rfl) (by kernel_rfl) (by kernel_rfl) (fun _ _ _ h => h) (Or.inl ⟨by rfl, ?hy29yx7⟩) (by with_reducible assumption) ?rest29yx7
    case hy29yx7 => (intro wS hSw; (try dsimp only at hSw); have z0 := cell_later hSw qb; have z1 := cell_later hSw q0; have z2 := cell_later hSw q1; clear hSw; go_simp; try with_reducible rfl)
    case' rest29yx7 => (try simp only [Act.put, List.setIfInBounds_toArray, List.set_cons_zero, List.set_cons_succ])
    refine wpAnyH_take (i := 8) (oi := { dst := some 18, op := Op.load 26 (Operand.tmp 17), type := 26, pos := "l8_area.go:114", after := #[{ on := 7, ground := Ground.data }], guard := none }) (v := ?v30yx8) rfl (by kernel_rfl) (by kernel_rfl) (by kernel_rfl) (fun _ _ _ h => h) (Or.inl ⟨by rfl, ?hy30yx8⟩) (by with_reducible assumption) ?rest30yx8
    case hy30yx8 => (intro wS hSw; (try dsimp only at hSw); have z0 := cell_later hSw qb; have z1 := cell_later hSw q0; have z2 := cell_later hSw q1; clear hSw; go_simp; try with_reducible rfl)
    case' rest30yx8 => (try simp only [Act.put, List.setIfInBounds_toArray, List.set_cons_zero, List.set_cons_succ])
    refine wpAnyH_ready (rs := [9]) (by kernel_rfl) (by simp) ?_
    refine AllReadyH.cons (o := { dst := some 19, op := Op.call { callee := Callee.value (Operand.func 59), args := #[Operand.tmp 12, Operand.tmp 18], argTypes := #[26, 26] }, type := 3, pos := "l8_area.go:114", after := #[{ on := 2, ground := Ground.data }, { on := 8, ground := Ground.data }], guard := none }) rfl (fun K hK => ?_) AllReadyH.nil
    go_simp
    refine (l8StepsI_c _ _ _ _ _ HD1 HD2).mono ?_
    rintro e w1 ⟨rfl, hb1⟩
    go_wp2_with fail
    refine hK.out _ _ ?_ (fun hHeld => ?_)
    · exact grew (by with_reducible assumption) hb1
    clear hK K
    try simp only [Act.put, List.setIfInBounds_toArray, List.set_cons_zero, List.set_cons_succ]
    refine wpAnyH_take (i := 10) (oi := { dst := some 20, op := Op.binOp BinOp.add 3 (Operand.tmp 19) (Operand.const (Value.int IntKind.i64 1)) 3, type := 3, pos := "l8_area.go:114", after := #[{ on := 9, ground := Ground.data }], guard := none }) (v := ?v31yx10) rfl (by kernel_rfl) (by kernel_rfl) (by kernel_rfl) (fun _ _ _ h => h) (Or.inl ⟨by rfl, ?hy31yx10⟩) (by with_reducible assumption) ?rest31yx10
    case hy31yx10 => (intro wS hSw; (try dsimp only at hSw); have z0 := cell_later hSw qb; have z1 := cell_later hSw q0; have z2 := cell_later hSw q1; clear hSw; go_simp; try with_reducible rfl)
    case' rest31yx10 => (try simp only [Act.put, List.setIfInBounds_toArray, List.set_cons_zero, List.set_cons_succ])
    refine wpAnyH_take (i := 11) (oi := { dst := some 2, op := Op.assign (Operand.tmp 20), type := 3, pos := "l8_area.go:114", after := #[{ on := 10, ground := Ground.data }, { on := 9, ground := Ground.chain }, { on := 0, ground := Ground.phase }, { on := 1, ground := Ground.phase }, { on := 2, ground := Ground.phase }, { on := 3, ground := Ground.phase }, { on := 4, ground := Ground.phase }, { on := 5, ground := Ground.phase }, { on := 6, ground := Ground.phase }, { on := 7, ground := Ground.phase }, { on := 8, ground := Ground.phase }, { on := 9, ground := Ground.phase }, { on := 10, ground := Ground.phase }], guard := none }) (v := ?v32yx11) rfl (by kernel_rfl) (by kernel_rfl) (by kernel_rfl) (fun _ _ _ h => h) (Or.inl ⟨by rfl, ?hy32yx11⟩) (by with_reducible assumption) ?rest32yx11
    case hy32yx11 => (intro wS hSw; (try dsimp only at hSw); have z0 := cell_later hSw qb; have z1 := cell_later hSw q0; have z2 := cell_later hSw q1; clear hSw; go_simp; try with_reducible rfl)
    case' rest32yx11 => (try simp only [Act.put, List.setIfInBounds_toArray, List.set_cons_zero, List.set_cons_succ])
    refine wpAnyH_done (by kernel_rfl) ?_ _
    go_wp2
    go_ret
    exact ⟨ret_int HW.out, grew HBB.out (by with_reducible assumption)⟩
  by_cases e2 : l.length = 2
  · have e : rim8 l = stp (pt l 0) (pt l 1) + 1 := by unfold rim8; rw [if_neg e0, if_neg e1, if_pos e2]
    have z : ((l.length : Int) == 2) = true := by simp [e2]
    have z0 : ((l.length : Int) == 0) = false := by simp [e0]
    have z1 : ((l.length : Int) == 1) = false := by simp; omega
    have hw : IntKind.i64.wrap ((l.length : Int) - 1) = 1 := by rw [IntKind.wrap_i64]; omega
    have E := hid e
    obtain ⟨HD1, HD2⟩ := stp_d HG.out (i := 0) (j := 1) (by omega) (by omega)
    have hs := stp_small (HG.out _ (pt_mem (l := l) (i := 0) (by omega))) (HG.out _ (pt_mem (l := l) (i := 1) (by omega)))
    have hn := stp_nn (pt l 0) (pt l 1)
    have HW := hid (show IntKind.i64.wrap (stp (pt l 0) (pt l 1) + 1) = rim8 l by rw [IntKind.wrap_i64, e]; omega)
    obtain ⟨b, off, rfl, hbN, g0, g1⟩ := HA.out 0 (by omega)
    obtain ⟨b1, off1, ee1, _, g2, g3⟩ := HA.out 1 (by omega)
    obtain ⟨rfl, rfl⟩ : b = b1 ∧ off = off1 := by simpa using ee1
    simp only [Nat.zero_mul, Nat.add_zero, Nat.one_mul] at g0 g1 g2 g3
    have q0 := cell_later hbb g0
    have q1 := cell_later hbb g1
    have q2 := cell_later hbb g2
    have q3 := cell_later hbb g3
    have qb := KB.c0
    have HBB := hid hbb
    have n0 : 0 < l.length := by omega
    have n1 : (1 : Int) < (l.length : Int) := by omega
    clear e e0 e1 e2 hs hn ee1 g0 g1 g2 g3 hbb KB
    go_enter Tryd.func64, Tryd.ntmps64
    go_upto_region 6 with fail
    generalize w.alloc (.cells #[.slice (some ⟨b, off, none⟩) l.length cap] 24) = wb at *
    refine wp_region_held_drew (S := (fun u => Below wb.heap.size wb u)) (by kernel_rfl) ?_ (fun hHeld => ?_)
    · exact (Below.refl _ _).drew
    refine wpAnyH_take (i := 0) (oi := { dst := some 10, op := Op.load 24 (Operand.tmp 1), type := 24, pos := "l8_area.go:114", after := #[], guard := none }) (v := ?v10yx0) rfl (by kernel_rfl) (by kernel_rfl) (by kernel_rfl) (fun _ _ _ h => h) (Or.inl ⟨by rfl, ?hy10yx0⟩) (by with_reducible assumption) ?rest10yx0
    case hy10yx0 => (intro wS hSw; (try dsimp only at hSw); have z0 := cell_later hSw qb; have z1 := cell_later hSw q0; have z2 := cell_later hSw q1; have z3 := cell_later hSw q2; have z4 := cell_later hSw q3; clear hSw; go_simp; try with_reducible rfl)
    case' rest10yx0 => (try simp only [Act.put, List.setIfInBounds_toArray, List.set_cons_zero, List.set_cons_succ])
    refine wpAnyH_take (i := 1) (oi := { dst := some 11, op := Op.indexAddr 24 (Operand.tmp 10) (Operand.const (Value.int IntKind.i64 0)), type := 0, pos := "l8_area.go:114", after := #[{ on := 0, ground := Ground.data }], guard := none }) (v := ?v11yx1) rfl (by kernel_rfl) (by kernel_rfl) (by kernel_rfl) (fun _ _ _ h => h) (Or.inl ⟨by rfl, ?hy11yx1⟩) (by with_reducible assumption) ?rest11yx1
    case hy11yx1 => (intro wS hSw; (try dsimp only at hSw); have z0 := cell_later hSw qb; have z1 := cell_later hSw q0; have z2 := cell_later hSw q1; have z3 := cell_later hSw q2; have z4 := cell_later hSw q3; clear hSw; go_simp; try with_reducible rfl)
    case' rest11yx1 => (try simp only [Act.put, List.setIfInBounds_toArray, List.set_cons_zero, List.set_cons_succ])
    refine wpAnyH_take (i := 2) (oi := { dst := some 12, op := Op.load 26 (Operand.tmp 11), type := 26, pos := "l8_area.go:114", after := #[{ on := 1, ground := Ground.data }], guard := none }) (v := ?v12yx2) rfl (by kernel_rfl) (by kernel_rfl) (by kernel_rfl) (fun _ _ _ h => h) (Or.inl ⟨by rfl, ?hy12yx2⟩) (by with_reducible assumption) ?rest12yx2
    case hy12yx2 => (intro wS hSw; (try dsimp only at hSw); have z0 := cell_later hSw qb; have z1 := cell_later hSw q0; have z2 := cell_later hSw q1; have z3 := cell_later hSw q2; have z4 := cell_later hSw q3; clear hSw; go_simp; try with_reducible rfl)
    case' rest12yx2 => (try simp only [Act.put, List.setIfInBounds_toArray, List.set_cons_zero, List.set_cons_succ])
    refine wpAnyH_take (i := 3) (oi := { dst := some 13, op := Op.load 24 (Operand.tmp 1), type := 24, pos := "l8_area.go:114", after := #[], guard := none }) (v := ?v13yx3) rfl (by kernel_rfl) (by kernel_rfl) (by kernel_rfl) (fun _ _ _ h => h) (Or.inl ⟨by rfl, ?hy13yx3⟩) (by with_reducible assumption) ?rest13yx3
    case hy13yx3 => (intro wS hSw; (try dsimp only at hSw); have z0 := cell_later hSw qb; have z1 := cell_later hSw q0; have z2 := cell_later hSw q1; have z3 := cell_later hSw q2; have z4 := cell_later hSw q3; clear hSw; go_simp; try with_reducible rfl)
    case' rest13yx3 => (try simp only [Act.put, List.setIfInBounds_toArray, List.set_cons_zero, List.set_cons_succ])
    refine wpAnyH_take (i := 4) (oi := { dst := some 14, op := Op.load 24 (Operand.tmp 1), type := 24, pos := "l8_area.go:114", after := #[], guard := none }) (v := ?v14yx4) rfl (by kernel_rfl) (by kernel_rfl) (by kernel_rfl) (fun _ _ _ h => h) (Or.inl ⟨by rfl, ?hy14yx4⟩) (by with_reducible assumption) ?rest14yx4
    case hy14yx4 => (intro wS hSw; (try dsimp only at hSw); have z0 := cell_later hSw qb; have z1 := cell_later hSw q0; have z2 := cell_later hSw q1; have z3 := cell_later hSw q2; have z4 := cell_later hSw q3; clear hSw; go_simp; try with_reducible rfl)
    case' rest14yx4 => (try simp only [Act.put, List.setIfInBounds_toArray, List.set_cons_zero, List.set_cons_succ])
    refine wpAnyH_take (i := 5) (oi := { dst := some 15, op := Op.call { callee := Callee.builtin Builtin.len, args := #[Operand.tmp 14], argTypes := #[24] }, type := 3, pos := "l8_area.go:114", after := #[{ on := 4, ground := Ground.data }], guard := none }) (v := ?v15yx5) rfl (by kernel_rfl) (by kernel_rfl) (by kernel_rfl) (fun _ _ _ h => h) (Or.inl ⟨by rfl, ?hy15yx5⟩) (by with_reducible assumption) ?rest15yx5
    case hy15yx5 => (intro wS hSw; (try dsimp only at hSw); have z0 := cell_later hSw qb; have z1 := cell_later hSw q0; have z2 := cell_later hSw q1; have z3 := cell_later hSw q2; have z4 := cell_later hSw q3; clear hSw; go_simp; try with_reducible rfl)
    case' rest15yx5 => (try simp only [Act.put, List.setIfInBounds_toArray, List.set_cons_zero, List.set_cons_succ])
    refine wpAnyH_take (i := 6) (oi := { dst := some 16, op := Op.binOp BinOp.sub 3 (Operand.tmp 15) (Operand.const (Value.int IntKind.i64 1)) 3, type := 3, pos := "l8_area.go:114", after := #[{ on := 5, ground := Ground.data }], guard := none }) (v := ?v16yx6) rfl (by kernel_rfl) (by kernel_rfl) (by kernel_rfl) (fun _ _ _ h => h) (Or.inl ⟨by rfl, ?hy16yx6⟩) (by with_reducible assumption) ?rest16yx6
    case hy16yx6 => (intro wS hSw; (try dsimp only at hSw); have z0 := cell_later hSw qb; have z1 := cell_later hSw q0; have z2 := cell_later hSw q1; have z3 := cell_later hSw q2; have z4 := cell_later hSw q3; clear hSw; go_simp; try with_reducible rfl)
    case' rest16yx6 => (try simp only [Act.put, List.setIfInBounds_toArray, List.set_cons_zero, List.set_cons_succ])
    refine wpAnyH_take (i := 7) (oi := { dst := some 17, op := Op.indexAddr 24 (Operand.tmp 13) (Operand.tmp 16), type := 0, pos := "l8_area.go:114", after := #[{ on := 3, ground := Ground.data }, { on := 6, ground := Ground.data }], guard := none }) (v := ?v17yx7) rfl (by kernel_rfl) (by kernel_rfl) (by kernel_rfl) (fun _ _ _ h => h) (Or.inl ⟨by rfl, ?hy17yx7⟩) (by with_reducible assumption) ?rest17yx7
    case hy17yx7 => (intro wS hSw; (try dsimp only at hSw); have z0 := cell_later hSw qb; have z1 := cell_later hSw q0; have z2 := cell_later hSw q1; have z3 := cell_later hSw q2; have z4 := cell_later hSw q3; clear hSw; go_simp; try with_reducible rfl)
    case' rest17yx7 => (try simp only [Act.put, List.setIfInBounds_toArray, List.set_cons_zero, List.set_cons_succ])
    refine wpAnyH_take (i := 8) (oi := { dst := some 18, op := Op.load 26 (Operand.tmp 17), type := 26, pos := "l8_area.go:114", after := #[{ on := 7, ground := Ground.data }], guard := none }) (v := ?v18yx8) rfl (by kernel_rfl) (by kernel_rfl) (by kernel_rfl) (fun _ _ _ h => h) (Or.inl ⟨by rfl, ?hy18yx8⟩) (by with_reducible assumption) ?rest18yx8
    case hy18yx8 => (intro wS hSw; (try dsimp only at hSw); have z0 := cell_later hSw qb; have z1 := cell_later hSw q0; have z2 := cell_later hSw q1; have z3 := cell_later hSw q2; have z4 := cell_later hSw q3; clear hSw; go_simp; try with_reducible rfl)
    case' rest18yx8 => (try simp only [Act.put, List.setIfInBounds_toArray, List.set_cons_zero, List.set_cons_succ])
    refine wpAnyH_ready (rs := [9]) (by kernel_rfl) (by simp) ?_
    refine AllReadyH.cons (o := { dst := some 19, op := Op.call { callee := Callee.value (Operand.func 59), args := #[Operand.tmp 12, Operand.tmp 18], argTypes := #[26, 26] }, type := 3, pos := "l8_area.go:114", after := #[{ on := 2, ground := Ground.data }, { on := 8, ground := Ground.data }], guard := none }) rfl (fun K hK => ?_) AllReadyH.nil
    go_simp
    refine (l8StepsI_c _ _ _ _ _ HD1 HD2).mono ?_
    rintro e w1 ⟨rfl, hb1⟩
    go_wp2_with fail
    refine hK.out _ _ ?_ (fun hHeld => ?_)
    · exact grew (by with_reducible assumption) hb1
    clear hK K
    try simp only [Act.put, List.setIfInBounds_toArray, List.set_cons_zero, List.set_cons_succ]
    refine wpAnyH_take (i := 10) (oi := { dst := some 20, op := Op.binOp BinOp.add 3 (Operand.tmp 19) (Operand.const (Value.int IntKind.i64 1)) 3, type := 3, pos := "l8_area.go:114", after := #[{ on := 9, ground := Ground.data }], guard := none }) (v := ?v19yx10) rfl (by kernel_rfl) (by kernel_rfl) (by kernel_rfl) (fun _ _ _ h => h) (Or.inl ⟨by rfl, ?hy19yx10⟩) (by with_reducible assumption) ?rest19yx10
    case hy19yx10 => (intro wS hSw; (try dsimp only at hSw); have z0 := cell_later hSw qb; have z1 := cell_later hSw q0; have z2 := cell_later hSw q1; have z3 := cell_later hSw q2; have z4 := cell_later hSw q3; clear hSw; go_simp; try with_reducible rfl)
    case' rest19yx10 => (try simp only [Act.put, List.setIfInBounds_toArray, List.set_cons_zero, List.set_cons_succ])
    refine wpAnyH_take (i := 11) (oi := { dst := some 2, op := Op.assign (Operand.tmp 20), type := 3, pos := "l8_area.go:114", after := #[{ on := 10, ground := Ground.data }, { on := 9, ground := Ground.chain }, { on := 0, ground := Ground.phase }, { on := 1, ground := Ground.phase }, { on := 2, ground := Ground.phase }, { on := 3, ground := Ground.phase }, { on := 4, ground := Ground.phase }, { on := 5, ground := Ground.phase }, { on := 6, ground := Ground.phase }, { on := 7, ground := Ground.phase }, { on := 8, ground := Ground.phase }, { on := 9, ground := Ground.phase }, { on := 10, ground := Ground.phase }], guard := none }) (v := ?v20yx11) rfl (by kernel_rfl) (by kernel_rfl) (by kernel_rfl) (fun _ _ _ h => h) (Or.inl ⟨by rfl, ?hy20yx11⟩) (by with_reducible assumption) ?rest20yx11
    case hy20yx11 => (intro wS hSw; (try dsimp only at hSw); have z0 := cell_later hSw qb; have z1 := cell_later hSw q0; have z2 := cell_later hSw q1; have z3 := cell_later hSw q2; have z4 := cell_later hSw q3; clear hSw; go_simp; try with_reducible rfl)
    case' rest20yx11 => (try simp only [Act.put, List.setIfInBounds_toArray, List.set_cons_zero, List.set_cons_succ])
    refine wpAnyH_done (by kernel_rfl) ?_ _
    go_wp2
    go_ret
    exact ⟨ret_int HW.out, grew HBB.out (by with_reducible assumption)⟩
  have e : rim8 l = rimT l l.length := by unfold rim8; rw [if_neg e0, if_neg e1, if_neg e2]
  have z0 : ((l.length : Int) == 0) = false := by simp [e0]
  have z1 : ((l.length : Int) == 1) = false := by simp; omega
  have z2 : ((l.length : Int) == 2) = false := by simp; omega
  have HS := hid (sumOf_c 92 w.heap.size (fun i => stp (pt l i) (pt l ((i + 1) % l.length))) l.length (w.alloc (.cells #[.slice a l.length cap] 24))
    (fun u k hu hk => rim1_c l k w.heap.size a l.length cap u rfl h60 hk HG.out ((HA.out.later (grew hbb hu)).mono (grew hbb hu).size) (KB.later hu)) enter92
    (fun k hk => by have := rimT_small HG.out k hk; rw [rim_sum, IntKind.wrap_i64]; omega) (by omega))
  have E := hid (show rim8 l = sumT (fun i => stp (pt l i) (pt l ((i + 1) % l.length))) l.length by rw [rim_sum]; exact e)
  generalize hF : sumT (fun i => stp (pt l i) (pt l ((i + 1) % l.length))) l.length = F at HS E
  have HBB := hid hbb
  clear e e0 e1 e2 hF hbb KB
  go_enter Tryd.func64, Tryd.ntmps64
  go_wp2_with (go_at_call 81; refine HS.out.mono ?_; rintro e w1 ⟨rfl, hb⟩)
  go_ret
  exact ⟨ret_int E.out.symm, grew HBB.out hb⟩
end Go.Proofs.YtohcllojjmhbcaaDoor
