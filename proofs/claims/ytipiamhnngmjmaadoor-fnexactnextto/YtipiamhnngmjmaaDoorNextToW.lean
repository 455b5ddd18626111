/-
  The walk of a law (see the text that imports this one).
  Conditions: as the theorem states them.
-/
import Derived.Test.YtipiamhnngmjmaaDoorNrHold
namespace Go.Proofs.YtipiamhnngmjmaaDoor.fnExactNextTo
open Go.RowKit
set_option linter.unusedVariables false
set_option maxRecDepth 8000
set_option maxHeartbeats 4000000 in
theorem walk (l : List (Int × Int)) (a : Option Addr) (len cap : Nat) (x y : Int) (w : World) (hl : l.length = len) (hm : len ≤ maxLen) (hA : At w.heap.size a l w) (c0 : w.cell? ⟨0, 0, none⟩ = some (.int .i64 1000000)) (c1 : w.cell? ⟨0, 1, none⟩ = some (.int .i64 1099511627776)) (c2 : w.cell? ⟨0, 2, none⟩ = some (.int .i64 4398046511104)) (c3 : w.cell? ⟨0, 3, none⟩ = some (.int .i64 40)) :
    Calls Tryd.prog 8 #[.slice a len cap, .agg #[.int .i64 x, .int .i64 y]] w fun e w' => e = .returned (.bool true) ∧ Below w.heap.size w w' := by
  have HA := hid hA
  have C0 := hid c0
  clear hA c0 c1 c2 c3
  by_cases h20 : len ≤ 1048576
  · clear hm
    have hn : (0 : Int) ≤ 1048576 - (len : Int) := by omega
    have tok2 : True := trivial
    obtain ⟨⟨ex0, ey0⟩, hE0⟩ : ∃ e, nxV l x y = e := ⟨_, rfl⟩
    have hQ0 : eqB ex0 ey0 ex0 ey0 = true := by unfold eqB; simp
    have B0 := box0 w x y 23
    have B1 := box1 w x y 23
    go_enter Tryd.func8, Tryd.ntmps8
    go_wp2_with (go_at_call 15; refine (szPointS_c _ _ _ _ ?_ ?_ _).mono ?_; (omega); (omega); rintro e w' ⟨rfl, rfl⟩)
    refine wp_region_held_drew (S := (fun u => u.cell? ⟨w.heap.size, 0, none⟩ = some (.int .i64 x) ∧ u.cell? ⟨w.heap.size, 1, none⟩ = some (.int .i64 y) ∧ Below w.heap.size w u)) (by kernel_rfl) ?_ (fun hHeld => ?_)
    · exact ⟨cell_later (Below.refl _ _).drew B0, cell_later (Below.refl _ _).drew B1, by go_grown⟩
    generalize (w.alloc (.cells #[.int .i64 x, .int .i64 y] 23)).drew = w0 at hHeld ⊢
    refine wpAnyH_take (i := 0) (oi := { dst := some 17, op := Op.move (Operand.tmp 0), type := 29, pos := "exact.go:1296", after := #[], guard := none }) (v := ?v1x0) rfl (by kernel_rfl) (by kernel_rfl) (by kernel_rfl) (fun _ _ _ h => h) (Or.inl ⟨by rfl, ?hy1x0⟩) (by with_reducible assumption) ?rest1x0
    case hy1x0 => (intro w hSw; (try dsimp only at hSw); go_simp; try with_reducible rfl)
    case' rest1x0 => (try simp only [Act.put, List.setIfInBounds_toArray, List.set_cons_zero, List.set_cons_succ])
    refine wpAnyH_take (i := 2) (oi := { dst := some 19, op := Op.load 23 (Operand.tmp 3), type := 23, pos := "exact.go:1296", after := #[], guard := none }) (v := ?v2x2) rfl (by kernel_rfl) (by kernel_rfl) (by kernel_rfl) (fun _ _ _ h => h) (Or.inl ⟨by rfl, ?hy2x2⟩) (by with_reducible assumption) ?rest2x2
    case hy2x2 => (intro w hSw; (try dsimp only at hSw); go_simp; try with_reducible rfl)
    case' rest2x2 => (try simp only [Act.put, List.setIfInBounds_toArray, List.set_cons_zero, List.set_cons_succ])
    refine wpAnyH_ready (rs := [1, 8]) (by kernel_rfl) (by simp) ?_
    refine (AllReadyH.cons (o := { dst := some 18, op := Op.call { callee := Callee.value (Operand.func 17), args := #[Operand.tmp 17], argTypes := #[29] }, type := 33, pos := "exact.go:1296", after := #[{ on := 0, ground := Ground.data }], guard := none }) rfl (fun K hK => ?_) (AllReadyH.cons (o := { dst := some 6, op := Op.alloc 26, type := 0, pos := "exact.go:1296", after := #[], guard := none }) rfl (fun K hK => ?_) AllReadyH.nil))
    · go_simp
      refine (toPointS_e l _ _ _ _ hl h20 ((HA.out.later hHeld.2.2).mono hHeld.2.2.size)).mono ?_
      rintro e w1 ⟨b1, rfl, hc1, hb1⟩
      go_wp2_with fail
      refine hK.out _ _ ?_ (fun hHeld => ?_)
      · exact keep2 hb1 (by with_reducible assumption)
      clear hK K
      try simp only [Act.put, List.setIfInBounds_toArray, List.set_cons_zero, List.set_cons_succ]
      have ha1 := hc1.at
      refine wpAnyH_ready (rs := [3, 8]) (by kernel_rfl) (by simp) ?_
      refine (AllReadyH.cons (o := { dst := some 20, op := Op.call { callee := Callee.value (Operand.func 13), args := #[Operand.tmp 19], argTypes := #[23] }, type := 26, pos := "exact.go:1296", after := #[{ on := 2, ground := Ground.data }, { on := 1, ground := Ground.chain }], guard := none }) rfl (fun K hK => ?_) (AllReadyH.cons (o := { dst := some 6, op := Op.alloc 26, type := 0, pos := "exact.go:1296", after := #[], guard := none }) rfl (fun K hK => ?_) AllReadyH.nil))
      · go_simp
        refine (toPoint_c _ _ _).mono ?_
        rintro e w2 ⟨rfl, hb2⟩
        go_wp2_with fail
        refine hK.out _ _ ?_ (fun hHeld => ?_)
        · exact keep2 hb2 (by with_reducible assumption)
        clear hK K
        try simp only [Act.put, List.setIfInBounds_toArray, List.set_cons_zero, List.set_cons_succ]
        replace ha1 := (ha1.later hb2).mono hb2.size
        refine wpAnyH_ready (rs := [4, 8]) (by kernel_rfl) (by simp) ?_
        refine (AllReadyH.cons (o := { dst := some 21, op := Op.call { callee := Callee.value (Operand.func 31), args := #[Operand.tmp 18, Operand.tmp 20], argTypes := #[33, 26] }, type := 45, pos := "exact.go:1296", after := #[{ on := 1, ground := Ground.data }, { on := 3, ground := Ground.data }, { on := 3, ground := Ground.chain }], guard := none }) rfl (fun K hK => ?_) (AllReadyH.cons (o := { dst := some 6, op := Op.alloc 26, type := 0, pos := "exact.go:1296", after := #[], guard := none }) rfl (fun K hK => ?_) AllReadyH.nil))
        · go_simp
          refine (nextSpec_c l x y _ _ _ _ hl h20 ha1).mono ?_
          rw [hE0]
          rintro e w3 ⟨rfl, hb3⟩
          go_wp2_with fail
          refine hK.out _ _ ?_ (fun hHeld => ?_)
          · exact keep2 hb3 (by with_reducible assumption)
          clear hK K
          try simp only [Act.put, List.setIfInBounds_toArray, List.set_cons_zero, List.set_cons_succ]
          replace ha1 := (ha1.later hb3).mono hb3.size
          refine wpAnyH_take (i := 5) (oi := { dst := some 16, op := Op.move (Operand.tmp 21), type := 45, pos := "exact.go:1296", after := #[{ on := 4, ground := Ground.data }], guard := none }) (v := ?v3x5) rfl (by kernel_rfl) (by kernel_rfl) (by kernel_rfl) (fun _ _ _ h => h) (Or.inl ⟨by rfl, ?hy3x5⟩) (by with_reducible assumption) ?rest3x5
          case hy3x5 => (intro w hSw; (try dsimp only at hSw); go_simp; try with_reducible rfl)
          case' rest3x5 => (try simp only [Act.put, List.setIfInBounds_toArray, List.set_cons_zero, List.set_cons_succ])
          refine wpAnyH_take (i := 6) (oi := { dst := some 22, op := Op.extract (Operand.tmp 16) 0, type := 26, pos := "exact.go:1296", after := #[{ on := 5, ground := Ground.data }], guard := none }) (v := ?v4x6) rfl (by kernel_rfl) (by kernel_rfl) (by kernel_rfl) (fun _ _ _ h => h) (Or.inl ⟨by rfl, ?hy4x6⟩) (by with_reducible assumption) ?rest4x6
          case hy4x6 => (intro w hSw; (try dsimp only at hSw); go_simp; try with_reducible rfl)
          case' rest4x6 => (try simp only [Act.put, List.setIfInBounds_toArray, List.set_cons_zero, List.set_cons_succ])
          refine wpAnyH_take (i := 7) (oi := { dst := some 23, op := Op.extract (Operand.tmp 16) 1, type := 4, pos := "exact.go:1296", after := #[{ on := 5, ground := Ground.data }, { on := 9, ground := Ground.gcOnly Departure.lateStores }], guard := none }) (v := ?v5x7) rfl (by kernel_rfl) (by kernel_rfl) (by kernel_rfl) (fun _ _ _ h => h) (Or.inl ⟨by rfl, ?hy5x7⟩) (by with_reducible assumption) ?rest5x7
          case hy5x7 => (intro w hSw; (try dsimp only at hSw); go_simp; try with_reducible rfl)
          case' rest5x7 => (try simp only [Act.put, List.setIfInBounds_toArray, List.set_cons_zero, List.set_cons_succ])
          refine wpAnyH_ready (rs := [8]) (by kernel_rfl) (by simp) ?_
          refine (AllReadyH.cons (o := { dst := some 6, op := Op.alloc 26, type := 0, pos := "exact.go:1296", after := #[], guard := none }) rfl (fun K hK => ?_) AllReadyH.nil)
          · go_simp
            refine hK.out _ _ ?_ (fun hHeld => ?_)
            · (refine keep2 ?_ (by with_reducible assumption); go_grown)
            clear hK K
            try simp only [Act.put, List.setIfInBounds_toArray, List.set_cons_zero, List.set_cons_succ]
            have hlt0 : w.heap.size < w3.heap.size := held_lt (by with_reducible assumption)
            have K0 := BoxP.new w3 0 0
            have hbB0 : Below w3.heap.size w3 (w3.alloc (.cells #[.int .i64 0, .int .i64 0] 26)) := by go_grown
            replace ha1 := (ha1.later hbB0).mono hbB0.size
            generalize w3.heap.size = B0 at K0 hlt0  ⊢
            generalize w3.alloc (.cells #[.int .i64 0, .int .i64 0] 26) = wB0 at *
            have f00 := K0.f 0
            have f01 := K0.f 1
            have d00 := K0.c0
            have d01 := K0.c1
            refine wpAnyH_ready (rs := [9]) (by kernel_rfl) (by simp) ?_
            refine AllReadyH.cons (o := { dst := none, op := Op.store 26 (Operand.tmp 6) (Operand.tmp 22), type := 0, pos := "exact.go:1296", after := #[{ on := 8, ground := Ground.data }, { on := 6, ground := Ground.data }, { on := 4, ground := Ground.chain }, { on := 0, ground := Ground.phase }, { on := 1, ground := Ground.phase }, { on := 2, ground := Ground.phase }, { on := 3, ground := Ground.phase }, { on := 4, ground := Ground.phase }, { on := 5, ground := Ground.phase }, { on := 6, ground := Ground.phase }, { on := 7, ground := Ground.textOnly Departure.lateStores }, { on := 8, ground := Ground.phase }], guard := none }) rfl (fun K hK => ?_) AllReadyH.nil
            go_simp
            refine hK.out _ _ ?_ (fun hHeld => ?_)
            · exact keepSt (B := B0) hHeld hlt0 _ _
            clear hK K
            try simp only [Act.put, List.setIfInBounds_toArray, List.set_cons_zero, List.set_cons_succ]
            clear f00 f01 d00 d01
            replace K0 := K0.set ex0 ey0
            generalize (wB0.setCell ⟨B0, 0, none⟩ (.int .i64 ex0)).setCell ⟨B0, 1, none⟩ (.int .i64 ey0) = wS0 at hHeld K0 ⊢
            refine wpAnyH_take (i := 10) (oi := { dst := some 7, op := Op.assign (Operand.tmp 23), type := 4, pos := "exact.go:1296", after := #[{ on := 7, ground := Ground.data }, { on := 9, ground := Ground.chain }, { on := 0, ground := Ground.phase }, { on := 1, ground := Ground.phase }, { on := 2, ground := Ground.phase }, { on := 3, ground := Ground.phase }, { on := 4, ground := Ground.phase }, { on := 5, ground := Ground.phase }, { on := 6, ground := Ground.phase }, { on := 7, ground := Ground.phase }, { on := 8, ground := Ground.phase }, { on := 9, ground := Ground.phase }], guard := none }) (v := ?v6x10) rfl (by kernel_rfl) (by kernel_rfl) (by kernel_rfl) (fun _ _ _ h => h) (Or.inl ⟨by rfl, ?hy6x10⟩) (by with_reducible assumption) ?rest6x10
            case hy6x10 => (intro w hSw; (try dsimp only at hSw); go_simp; try with_reducible rfl)
            case' rest6x10 => (try simp only [Act.put, List.setIfInBounds_toArray, List.set_cons_zero, List.set_cons_succ])
            refine wpAnyH_done (by kernel_rfl) ?_ _
            obtain ⟨r0, r1, hb3'⟩ := hHeld
            go_wp2_with (first
              | (go_at_call 17; clear tok2; refine (toPointS_e l _ _ _ _ hl h20 ((HA.out.later hb3').mono hb3'.size)).mono ?_; rintro e w4 ⟨b4, rfl, hc4, hb4⟩; have ha4 := hc4.at; have hb4' := grew hb3' hb4; have s0 := cell_later hb4 r0; have s1 := cell_later hb4 r1; replace K0 := K0.later hb4; clear hc4)
              | (go_at_call 13; refine (toPoint_c _ _ _).mono ?_; rintro e w5 ⟨rfl, hb5⟩; have hb5' := grew hb4' hb5; replace K0 := K0.later hb5; have ha5 := (ha4.later hb5).mono hb5.size)
              | (go_at_call 32; refine (nextImpl_c l x y _ _ _ _ hl h20 ha5 (cell_later hb5' C0.out)).mono ?_; rw [hE0]; rintro e w6 ⟨rfl, hb6⟩; have hb6' := grew hb5' hb6; replace K0 := K0.later hb6; have k0x := K0.c0; have k0y := K0.c1; have lk0 := K0.lt; have ha6 := (ha5.later hb6).mono hb6.size)
              | (go_at_call 19; refine (eqPoint_c _ _ _ _ _).mono ?_; rw [hQ0]; rintro e w9 ⟨rfl, hb9⟩; have hB9 : Below w6.heap.size w6 w9 := (by go_grown : Below w6.heap.size w6 (w6.alloc (.cells #[.int .i64 ex0, .int .i64 ey0] 26))).trans (hb9.mono (by go_size)); have hb9' := grew hb6' hB9; have ha9 := (ha6.later hB9).mono hB9.size)
              | (go_at_call 17; refine (toPointS_e l _ _ _ _ hl h20 ((HA.out.later hb9').mono hb9'.size)).mono ?_; rintro e w7 ⟨b7, rfl, hc7, hb7⟩; have ha7 := hc7.at; have hb7' := grew hb9' hb7; have ha67 := (ha9.later hb7).mono hb7.size; clear hc7)
              | (go_at_call 20; refine (eqPointS_c l l _ _ _ _ _ _ _ hl hl h20 h20 ha67 ha7).mono ?_; rintro e wA ⟨rfl, hbA⟩))
            go_ret
            exact ⟨rfl, grew hb7' hbA⟩
        · go_simp
          refine hK.out _ _ ?_ (fun hHeld => ?_)
          · (refine keep2 ?_ (by with_reducible assumption); go_grown)
          clear hK K
          try simp only [Act.put, List.setIfInBounds_toArray, List.set_cons_zero, List.set_cons_succ]
          have hlt0 : w.heap.size < w2.heap.size := held_lt (by with_reducible assumption)
          have K0 := BoxP.new w2 0 0
          have hbB0 : Below w2.heap.size w2 (w2.alloc (.cells #[.int .i64 0, .int .i64 0] 26)) := by go_grown
          replace ha1 := (ha1.later hbB0).mono hbB0.size
          generalize w2.heap.size = B0 at K0 hlt0  ⊢
          generalize w2.alloc (.cells #[.int .i64 0, .int .i64 0] 26) = wB0 at *
          refine wpAnyH_ready (rs := [4]) (by kernel_rfl) (by simp) ?_
          refine (AllReadyH.cons (o := { dst := some 21, op := Op.call { callee := Callee.value (Operand.func 31), args := #[Operand.tmp 18, Operand.tmp 20], argTypes := #[33, 26] }, type := 45, pos := "exact.go:1296", after := #[{ on := 1, ground := Ground.data }, { on := 3, ground := Ground.data }, { on := 3, ground := Ground.chain }], guard := none }) rfl (fun K hK => ?_) AllReadyH.nil)
          · go_simp
            refine (nextSpec_c l x y _ _ _ _ hl h20 ha1).mono ?_
            rw [hE0]
            rintro e w3 ⟨rfl, hb3⟩
            go_wp2_with fail
            refine hK.out _ _ ?_ (fun hHeld => ?_)
            · exact keep2 hb3 (by with_reducible assumption)
            clear hK K
            try simp only [Act.put, List.setIfInBounds_toArray, List.set_cons_zero, List.set_cons_succ]
            replace ha1 := (ha1.later hb3).mono hb3.size
            replace K0 := K0.later hb3
            refine wpAnyH_take (i := 5) (oi := { dst := some 16, op := Op.move (Operand.tmp 21), type := 45, pos := "exact.go:1296", after := #[{ on := 4, ground := Ground.data }], guard := none }) (v := ?v7x5) rfl (by kernel_rfl) (by kernel_rfl) (by kernel_rfl) (fun _ _ _ h => h) (Or.inl ⟨by rfl, ?hy7x5⟩) (by with_reducible assumption) ?rest7x5
            case hy7x5 => (intro w hSw; (try dsimp only at hSw); go_simp; try with_reducible rfl)
            case' rest7x5 => (try simp only [Act.put, List.setIfInBounds_toArray, List.set_cons_zero, List.set_cons_succ])
            refine wpAnyH_take (i := 6) (oi := { dst := some 22, op := Op.extract (Operand.tmp 16) 0, type := 26, pos := "exact.go:1296", after := #[{ on := 5, ground := Ground.data }], guard := none }) (v := ?v8x6) rfl (by kernel_rfl) (by kernel_rfl) (by kernel_rfl) (fun _ _ _ h => h) (Or.inl ⟨by rfl, ?hy8x6⟩) (by with_reducible assumption) ?rest8x6
            case hy8x6 => (intro w hSw; (try dsimp only at hSw); go_simp; try with_reducible rfl)
            case' rest8x6 => (try simp only [Act.put, List.setIfInBounds_toArray, List.set_cons_zero, List.set_cons_succ])
            refine wpAnyH_take (i := 7) (oi := { dst := some 23, op := Op.extract (Operand.tmp 16) 1, type := 4, pos := "exact.go:1296", after := #[{ on := 5, ground := Ground.data }, { on := 9, ground := Ground.gcOnly Departure.lateStores }], guard := none }) (v := ?v9x7) rfl (by kernel_rfl) (by kernel_rfl) (by kernel_rfl) (fun _ _ _ h => h) (Or.inl ⟨by rfl, ?hy9x7⟩) (by with_reducible assumption) ?rest9x7
            case hy9x7 => (intro w hSw; (try dsimp only at hSw); go_simp; try with_reducible rfl)
            case' rest9x7 => (try simp only [Act.put, List.setIfInBounds_toArray, List.set_cons_zero, List.set_cons_succ])
            have f00 := K0.f 0
            have f01 := K0.f 1
            have d00 := K0.c0
            have d01 := K0.c1
            refine wpAnyH_ready (rs := [9]) (by kernel_rfl) (by simp) ?_
            refine AllReadyH.cons (o := { dst := none, op := Op.store 26 (Operand.tmp 6) (Operand.tmp 22), type := 0, pos := "exact.go:1296", after := #[{ on := 8, ground := Ground.data }, { on := 6, ground := Ground.data }, { on := 4, ground := Ground.chain }, { on := 0, ground := Ground.phase }, { on := 1, ground := Ground.phase }, { on := 2, ground := Ground.phase }, { on := 3, ground := Ground.phase }, { on := 4, ground := Ground.phase }, { on := 5, ground := Ground.phase }, { on := 6, ground := Ground.phase }, { on := 7, ground := Ground.textOnly Departure.lateStores }, { on := 8, ground := Ground.phase }], guard := none }) rfl (fun K hK => ?_) AllReadyH.nil
            go_simp
            refine hK.out _ _ ?_ (fun hHeld => ?_)
            · exact keepSt (B := B0) hHeld hlt0 _ _
            clear hK K
            try simp only [Act.put, List.setIfInBounds_toArray, List.set_cons_zero, List.set_cons_succ]
            clear f00 f01 d00 d01
            replace K0 := K0.set ex0 ey0
            generalize (w3.setCell ⟨B0, 0, none⟩ (.int .i64 ex0)).setCell ⟨B0, 1, none⟩ (.int .i64 ey0) = wS0 at hHeld K0 ⊢
            refine wpAnyH_take (i := 10) (oi := { dst := some 7, op := Op.assign (Operand.tmp 23), type := 4, pos := "exact.go:1296", after := #[{ on := 7, ground := Ground.data }, { on := 9, ground := Ground.chain }, { on := 0, ground := Ground.phase }, { on := 1, ground := Ground.phase }, { on := 2, ground := Ground.phase }, { on := 3, ground := Ground.phase }, { on := 4, ground := Ground.phase }, { on := 5, ground := Ground.phase }, { on := 6, ground := Ground.phase }, { on := 7, ground := Ground.phase }, { on := 8, ground := Ground.phase }, { on := 9, ground := Ground.phase }], guard := none }) (v := ?v10x10) rfl (by kernel_rfl) (by kernel_rfl) (by kernel_rfl) (fun _ _ _ h => h) (Or.inl ⟨by rfl, ?hy10x10⟩) (by with_reducible assumption) ?rest10x10
            case hy10x10 => (intro w hSw; (try dsimp only at hSw); go_simp; try with_reducible rfl)
            case' rest10x10 => (try simp only [Act.put, List.setIfInBounds_toArray, List.set_cons_zero, List.set_cons_succ])
            refine wpAnyH_done (by kernel_rfl) ?_ _
            obtain ⟨r0, r1, hb3'⟩ := hHeld
            go_wp2_with (first
              | (go_at_call 17; clear tok2; refine (toPointS_e l _ _ _ _ hl h20 ((HA.out.later hb3').mono hb3'.size)).mono ?_; rintro e w4 ⟨b4, rfl, hc4, hb4⟩; have ha4 := hc4.at; have hb4' := grew hb3' hb4; have s0 := cell_later hb4 r0; have s1 := cell_later hb4 r1; replace K0 := K0.later hb4; clear hc4)
              | (go_at_call 13; refine (toPoint_c _ _ _).mono ?_; rintro e w5 ⟨rfl, hb5⟩; have hb5' := grew hb4' hb5; replace K0 := K0.later hb5; have ha5 := (ha4.later hb5).mono hb5.size)
              | (go_at_call 32; refine (nextImpl_c l x y _ _ _ _ hl h20 ha5 (cell_later hb5' C0.out)).mono ?_; rw [hE0]; rintro e w6 ⟨rfl, hb6⟩; have hb6' := grew hb5' hb6; replace K0 := K0.later hb6; have k0x := K0.c0; have k0y := K0.c1; have lk0 := K0.lt; have ha6 := (ha5.later hb6).mono hb6.size)
              | (go_at_call 19; refine (eqPoint_c _ _ _ _ _).mono ?_; rw [hQ0]; rintro e w9 ⟨rfl, hb9⟩; have hB9 : Below w6.heap.size w6 w9 := (by go_grown : Below w6.heap.size w6 (w6.alloc (.cells #[.int .i64 ex0, .int .i64 ey0] 26))).trans (hb9.mono (by go_size)); have hb9' := grew hb6' hB9; have ha9 := (ha6.later hB9).mono hB9.size)
              | (go_at_call 17; refine (toPointS_e l _ _ _ _ hl h20 ((HA.out.later hb9').mono hb9'.size)).mono ?_; rintro e w7 ⟨b7, rfl, hc7, hb7⟩; have ha7 := hc7.at; have hb7' := grew hb9' hb7; have ha67 := (ha9.later hb7).mono hb7.size; clear hc7)
              | (go_at_call 20; refine (eqPointS_c l l _ _ _ _ _ _ _ hl hl h20 h20 ha67 ha7).mono ?_; rintro e wA ⟨rfl, hbA⟩))
            go_ret
            exact ⟨rfl, grew hb7' hbA⟩
      · go_simp
        refine hK.out _ _ ?_ (fun hHeld => ?_)
        · (refine keep2 ?_ (by with_reducible assumption); go_grown)
        clear hK K
        try simp only [Act.put, List.setIfInBounds_toArray, List.set_cons_zero, List.set_cons_succ]
        have hlt0 : w.heap.size < w1.heap.size := held_lt (by with_reducible assumption)
        have K0 := BoxP.new w1 0 0
        have hbB0 : Below w1.heap.size w1 (w1.alloc (.cells #[.int .i64 0, .int .i64 0] 26)) := by go_grown
        replace ha1 := (ha1.later hbB0).mono hbB0.size
        generalize w1.heap.size = B0 at K0 hlt0  ⊢
        generalize w1.alloc (.cells #[.int .i64 0, .int .i64 0] 26) = wB0 at *
        refine wpAnyH_ready (rs := [3]) (by kernel_rfl) (by simp) ?_
        refine (AllReadyH.cons (o := { dst := some 20, op := Op.call { callee := Callee.value (Operand.func 13), args := #[Operand.tmp 19], argTypes := #[23] }, type := 26, pos := "exact.go:1296", after := #[{ on := 2, ground := Ground.data }, { on := 1, ground := Ground.chain }], guard := none }) rfl (fun K hK => ?_) AllReadyH.nil)
        · go_simp
          refine (toPoint_c _ _ _).mono ?_
          rintro e w2 ⟨rfl, hb2⟩
          go_wp2_with fail
          refine hK.out _ _ ?_ (fun hHeld => ?_)
          · exact keep2 hb2 (by with_reducible assumption)
          clear hK K
          try simp only [Act.put, List.setIfInBounds_toArray, List.set_cons_zero, List.set_cons_succ]
          replace ha1 := (ha1.later hb2).mono hb2.size
          replace K0 := K0.later hb2
          refine wpAnyH_ready (rs := [4]) (by kernel_rfl) (by simp) ?_
          refine (AllReadyH.cons (o := { dst := some 21, op := Op.call { callee := Callee.value (Operand.func 31), args := #[Operand.tmp 18, Operand.tmp 20], argTypes := #[33, 26] }, type := 45, pos := "exact.go:1296", after := #[{ on := 1, ground := Ground.data }, { on := 3, ground := Ground.data }, { on := 3, ground := Ground.chain }], guard := none }) rfl (fun K hK => ?_) AllReadyH.nil)
          · go_simp
            refine (nextSpec_c l x y _ _ _ _ hl h20 ha1).mono ?_
            rw [hE0]
            rintro e w3 ⟨rfl, hb3⟩
            go_wp2_with fail
            refine hK.out _ _ ?_ (fun hHeld => ?_)
            · exact keep2 hb3 (by with_reducible assumption)
            clear hK K
            try simp only [Act.put, List.setIfInBounds_toArray, List.set_cons_zero, List.set_cons_succ]
            replace ha1 := (ha1.later hb3).mono hb3.size
            replace K0 := K0.later hb3
            refine wpAnyH_take (i := 5) (oi := { dst := some 16, op := Op.move (Operand.tmp 21), type := 45, pos := "exact.go:1296", after := #[{ on := 4, ground := Ground.data }], guard := none }) (v := ?v11x5) rfl (by kernel_rfl) (by kernel_rfl) (by kernel_rfl) (fun _ _ _ h => h) (Or.inl ⟨by rfl, ?hy11x5⟩) (by with_reducible assumption) ?rest11x5
            case hy11x5 => (intro w hSw; (try dsimp only at hSw); go_simp; try with_reducible rfl)
            case' rest11x5 => (try simp only [Act.put, List.setIfInBounds_toArray, List.set_cons_zero, List.set_cons_succ])
            refine wpAnyH_take (i := 6) (oi := { dst := some 22, op := Op.extract (Operand.tmp 16) 0, type := 26, pos := "exact.go:1296", after := #[{ on := 5, ground := Ground.data }], guard := none }) (v := ?v12x6) rfl (by kernel_rfl) (by kernel_rfl) (by kernel_rfl) (fun _ _ _ h => h) (Or.inl ⟨by rfl, ?hy12x6⟩) (by with_reducible assumption) ?rest12x6
            case hy12x6 => (intro w hSw; (try dsimp only at hSw); go_simp; try with_reducible rfl)
            case' rest12x6 => (try simp only [Act.put, List.setIfInBounds_toArray, List.set_cons_zero, List.set_cons_succ])
            refine wpAnyH_take (i := 7) (oi := { dst := some 23, op := Op.extract (Operand.tmp 16) 1, type := 4, pos := "exact.go:1296", after := #[{ on := 5, ground := Ground.data }, { on := 9, ground := Ground.gcOnly Departure.lateStores }], guard := none }) (v := ?v13x7) rfl (by kernel_rfl) (by kernel_rfl) (by kernel_rfl) (fun _ _ _ h => h) (Or.inl ⟨by rfl, ?hy13x7⟩) (by with_reducible assumption) ?rest13x7
            case hy13x7 => (intro w hSw; (try dsimp only at hSw); go_simp; try with_reducible rfl)
            case' rest13x7 => (try simp only [Act.put, List.setIfInBounds_toArray, List.set_cons_zero, List.set_cons_succ])
            have f00 := K0.f 0
            have f01 := K0.f 1
            have d00 := K0.c0
            have d01 := K0.c1
            refine wpAnyH_ready (rs := [9]) (by kernel_rfl) (by simp) ?_
            refine AllReadyH.cons (o := { dst := none, op := Op.store 26 (Operand.tmp 6) (Operand.tmp 22), type := 0, pos := "exact.go:1296", after := #[{ on := 8, ground := Ground.data }, { on := 6, ground := Ground.data }, { on := 4, ground := Ground.chain }, { on := 0, ground := Ground.phase }, { on := 1, ground := Ground.phase }, { on := 2, ground := Ground.phase }, { on := 3, ground := Ground.phase }, { on := 4, ground := Ground.phase }, { on := 5, ground := Ground.phase }, { on := 6, ground := Ground.phase }, { on := 7, ground := Ground.textOnly Departure.lateStores }, { on := 8, ground := Ground.phase }], guard := none }) rfl (fun K hK => ?_) AllReadyH.nil
            go_simp
            refine hK.out _ _ ?_ (fun hHeld => ?_)
            · exact keepSt (B := B0) hHeld hlt0 _ _
            clear hK K
            try simp only [Act.put, List.setIfInBounds_toArray, List.set_cons_zero, List.set_cons_succ]
            clear f00 f01 d00 d01
            replace K0 := K0.set ex0 ey0
            generalize (w3.setCell ⟨B0, 0, none⟩ (.int .i64 ex0)).setCell ⟨B0, 1, none⟩ (.int .i64 ey0) = wS0 at hHeld K0 ⊢
            refine wpAnyH_take (i := 10) (oi := { dst := some 7, op := Op.assign (Operand.tmp 23), type := 4, pos := "exact.go:1296", after := #[{ on := 7, ground := Ground.data }, { on := 9, ground := Ground.chain }, { on := 0, ground := Ground.phase }, { on := 1, ground := Ground.phase }, { on := 2, ground := Ground.phase }, { on := 3, ground := Ground.phase }, { on := 4, ground := Ground.phase }, { on := 5, ground := Ground.phase }, { on := 6, ground := Ground.phase }, { on := 7, ground := Ground.phase }, { on := 8, ground := Ground.phase }, { on := 9, ground := Ground.phase }], guard := none }) (v := ?v14x10) rfl (by kernel_rfl) (by kernel_rfl) (by kernel_rfl) (fun _ _ _ h => h) (Or.inl ⟨by rfl, ?hy14x10⟩) (by with_reducible assumption) ?rest14x10
            case hy14x10 => (intro w hSw; (try dsimp only at hSw); go_simp; try with_reducible rfl)
            case' rest14x10 => (try simp only [Act.put, List.setIfInBounds_toArray, List.set_cons_zero, List.set_cons_succ])
            refine wpAnyH_done (by kernel_rfl) ?_ _
            obtain ⟨r0, r1, hb3'⟩ := hHeld
            go_wp2_with (first
              | (go_at_call 17; clear tok2; refine (toPointS_e l _ _ _ _ hl h20 ((HA.out.later hb3').mono hb3'.size)).mono ?_; rintro e w4 ⟨b4, rfl, hc4, hb4⟩; have ha4 := hc4.at; have hb4' := grew hb3' hb4; have s0 := cell_later hb4 r0; have s1 := cell_later hb4 r1; replace K0 := K0.later hb4; clear hc4)
              | (go_at_call 13; refine (toPoint_c _ _ _).mono ?_; rintro e w5 ⟨rfl, hb5⟩; have hb5' := grew hb4' hb5; replace K0 := K0.later hb5; have ha5 := (ha4.later hb5).mono hb5.size)
              | (go_at_call 32; refine (nextImpl_c l x y _ _ _ _ hl h20 ha5 (cell_later hb5' C0.out)).mono ?_; rw [hE0]; rintro e w6 ⟨rfl, hb6⟩; have hb6' := grew hb5' hb6; replace K0 := K0.later hb6; have k0x := K0.c0; have k0y := K0.c1; have lk0 := K0.lt; have ha6 := (ha5.later hb6).mono hb6.size)
              | (go_at_call 19; refine (eqPoint_c _ _ _ _ _).mono ?_; rw [hQ0]; rintro e w9 ⟨rfl, hb9⟩; have hB9 : Below w6.heap.size w6 w9 := (by go_grown : Below w6.heap.size w6 (w6.alloc (.cells #[.int .i64 ex0, .int .i64 ey0] 26))).trans (hb9.mono (by go_size)); have hb9' := grew hb6' hB9; have ha9 := (ha6.later hB9).mono hB9.size)
              | (go_at_call 17; refine (toPointS_e l _ _ _ _ hl h20 ((HA.out.later hb9').mono hb9'.size)).mono ?_; rintro e w7 ⟨b7, rfl, hc7, hb7⟩; have ha7 := hc7.at; have hb7' := grew hb9' hb7; have ha67 := (ha9.later hb7).mono hb7.size; clear hc7)
              | (go_at_call 20; refine (eqPointS_c l l _ _ _ _ _ _ _ hl hl h20 h20 ha67 ha7).mono ?_; rintro e wA ⟨rfl, hbA⟩))
            go_ret
            exact ⟨rfl, grew hb7' hbA⟩
    · go_simp
      refine hK.out _ _ ?_ (fun hHeld => ?_)
      · (refine keep2 ?_ (by with_reducible assumption); go_grown)
      clear hK K
      try simp only [Act.put, List.setIfInBounds_toArray, List.set_cons_zero, List.set_cons_succ]
      have hlt0 : w.heap.size < w0.heap.size := held_lt (by with_reducible assumption)
      have K0 := BoxP.new w0 0 0
      have hbB0 : Below w0.heap.size w0 (w0.alloc (.cells #[.int .i64 0, .int .i64 0] 26)) := by go_grown
      generalize w0.heap.size = B0 at K0 hlt0  ⊢
      generalize w0.alloc (.cells #[.int .i64 0, .int .i64 0] 26) = wB0 at *
      refine wpAnyH_ready (rs := [1]) (by kernel_rfl) (by simp) ?_
      refine (AllReadyH.cons (o := { dst := some 18, op := Op.call { callee := Callee.value (Operand.func 17), args := #[Operand.tmp 17], argTypes := #[29] }, type := 33, pos := "exact.go:1296", after := #[{ on := 0, ground := Ground.data }], guard := none }) rfl (fun K hK => ?_) AllReadyH.nil)
      · go_simp
        refine (toPointS_e l _ _ _ _ hl h20 ((HA.out.later hHeld.2.2).mono hHeld.2.2.size)).mono ?_
        rintro e w1 ⟨b1, rfl, hc1, hb1⟩
        go_wp2_with fail
        refine hK.out _ _ ?_ (fun hHeld => ?_)
        · exact keep2 hb1 (by with_reducible assumption)
        clear hK K
        try simp only [Act.put, List.setIfInBounds_toArray, List.set_cons_zero, List.set_cons_succ]
        replace K0 := K0.later hb1
        have ha1 := hc1.at
        refine wpAnyH_ready (rs := [3]) (by kernel_rfl) (by simp) ?_
        refine (AllReadyH.cons (o := { dst := some 20, op := Op.call { callee := Callee.value (Operand.func 13), args := #[Operand.tmp 19], argTypes := #[23] }, type := 26, pos := "exact.go:1296", after := #[{ on := 2, ground := Ground.data }, { on := 1, ground := Ground.chain }], guard := none }) rfl (fun K hK => ?_) AllReadyH.nil)
        · go_simp
          refine (toPoint_c _ _ _).mono ?_
          rintro e w2 ⟨rfl, hb2⟩
          go_wp2_with fail
          refine hK.out _ _ ?_ (fun hHeld => ?_)
          · exact keep2 hb2 (by with_reducible assumption)
          clear hK K
          try simp only [Act.put, List.setIfInBounds_toArray, List.set_cons_zero, List.set_cons_succ]
          replace ha1 := (ha1.later hb2).mono hb2.size
          replace K0 := K0.later hb2
          refine wpAnyH_ready (rs := [4]) (by kernel_rfl) (by simp) ?_
          refine (AllReadyH.cons (o := { dst := some 21, op := Op.call { callee := Callee.value (Operand.func 31), args := #[Operand.tmp 18, Operand.tmp 20], argTypes := #[33, 26] }, type := 45, pos := "exact.go:1296", after := #[{ on := 1, ground := Ground.data }, { on := 3, ground := Ground.data }, { on := 3, ground := Ground.chain }], guard := none }) rfl (fun K hK => ?_) AllReadyH.nil)
          · go_simp
            refine (nextSpec_c l x y _ _ _ _ hl h20 ha1).mono ?_
            rw [hE0]
            rintro e w3 ⟨rfl, hb3⟩
            go_wp2_with fail
            refine hK.out _ _ ?_ (fun hHeld => ?_)
            · exact keep2 hb3 (by with_reducible assumption)
            clear hK K
            try simp only [Act.put, List.setIfInBounds_toArray, List.set_cons_zero, List.set_cons_succ]
            replace ha1 := (ha1.later hb3).mono hb3.size
            replace K0 := K0.later hb3
            refine wpAnyH_take (i := 5) (oi := { dst := some 16, op := Op.move (Operand.tmp 21), type := 45, pos := "exact.go:1296", after := #[{ on := 4, ground := Ground.data }], guard := none }) (v := ?v15x5) rfl (by kernel_rfl) (by kernel_rfl) (by kernel_rfl) (fun _ _ _ h => h) (Or.inl ⟨by rfl, ?hy15x5⟩) (by with_reducible assumption) ?rest15x5
            case hy15x5 => (intro w hSw; (try dsimp only at hSw); go_simp; try with_reducible rfl)
            case' rest15x5 => (try simp only [Act.put, List.setIfInBounds_toArray, List.set_cons_zero, List.set_cons_succ])
            refine wpAnyH_take (i := 6) (oi := { dst := some 22, op := Op.extract (Operand.tmp 16) 0, type := 26, pos := "exact.go:1296", after := #[{ on := 5, ground := Ground.data }], guard := none }) (v := ?v16x6) rfl (by kernel_rfl) (by kernel_rfl) (by kernel_rfl) (fun _ _ _ h => h) (Or.inl ⟨by rfl, ?hy16x6⟩) (by with_reducible assumption) ?rest16x6
            case hy16x6 => (intro w hSw; (try dsimp only at hSw); go_simp; try with_reducible rfl)
            case' rest16x6 => (try simp only [Act.put, List.setIfInBounds_toArray, List.set_cons_zero, List.set_cons_succ])
            refine wpAnyH_take (i := 7) (oi := { dst := some 23, op := Op.extract (Operand.tmp 16) 1, type := 4, pos := "exact.go:1296", after := #[{ on := 5, ground := Ground.data }, { on := 9, ground := Ground.gcOnly Departure.lateStores }], guard := none }) (v := ?v17x7) rfl (by kernel_rfl) (by kernel_rfl) (by kernel_rfl) (fun _ _ _ h => h) (Or.inl ⟨by rfl, ?hy17x7⟩) (by with_reducible assumption) ?rest17x7
            case hy17x7 => (intro w hSw; (try dsimp only at hSw); go_simp; try with_reducible rfl)
            case' rest17x7 => (try simp only [Act.put, List.setIfInBounds_toArray, List.set_cons_zero, List.set_cons_succ])
            have f00 := K0.f 0
            have f01 := K0.f 1
            have d00 := K0.c0
            have d01 := K0.c1
            refine wpAnyH_ready (rs := [9]) (by kernel_rfl) (by simp) ?_
            refine AllReadyH.cons (o := { dst := none, op := Op.store 26 (Operand.tmp 6) (Operand.tmp 22), type := 0, pos := "exact.go:1296", after := #[{ on := 8, ground := Ground.data }, { on := 6, ground := Ground.data }, { on := 4, ground := Ground.chain }, { on := 0, ground := Ground.phase }, { on := 1, ground := Ground.phase }, { on := 2, ground := Ground.phase }, { on := 3, ground := Ground.phase }, { on := 4, ground := Ground.phase }, { on := 5, ground := Ground.phase }, { on := 6, ground := Ground.phase }, { on := 7, ground := Ground.textOnly Departure.lateStores }, { on := 8, ground := Ground.phase }], guard := none }) rfl (fun K hK => ?_) AllReadyH.nil
            go_simp
            refine hK.out _ _ ?_ (fun hHeld => ?_)
            · exact keepSt (B := B0) hHeld hlt0 _ _
            clear hK K
            try simp only [Act.put, List.setIfInBounds_toArray, List.set_cons_zero, List.set_cons_succ]
            clear f00 f01 d00 d01
            replace K0 := K0.set ex0 ey0
            generalize (w3.setCell ⟨B0, 0, none⟩ (.int .i64 ex0)).setCell ⟨B0, 1, none⟩ (.int .i64 ey0) = wS0 at hHeld K0 ⊢
            refine wpAnyH_take (i := 10) (oi := { dst := some 7, op := Op.assign (Operand.tmp 23), type := 4, pos := "exact.go:1296", after := #[{ on := 7, ground := Ground.data }, { on := 9, ground := Ground.chain }, { on := 0, ground := Ground.phase }, { on := 1, ground := Ground.phase }, { on := 2, ground := Ground.phase }, { on := 3, ground := Ground.phase }, { on := 4, ground := Ground.phase }, { on := 5, ground := Ground.phase }, { on := 6, ground := Ground.phase }, { on := 7, ground := Ground.phase }, { on := 8, ground := Ground.phase }, { on := 9, ground := Ground.phase }], guard := none }) (v := ?v18x10) rfl (by kernel_rfl) (by kernel_rfl) (by kernel_rfl) (fun _ _ _ h => h) (Or.inl ⟨by rfl, ?hy18x10⟩) (by with_reducible assumption) ?rest18x10
            case hy18x10 => (intro w hSw; (try dsimp only at hSw); go_simp; try with_reducible rfl)
            case' rest18x10 => (try simp only [Act.put, List.setIfInBounds_toArray, List.set_cons_zero, List.set_cons_succ])
            refine wpAnyH_done (by kernel_rfl) ?_ _
            obtain ⟨r0, r1, hb3'⟩ := hHeld
            go_wp2_with (first
              | (go_at_call 17; clear tok2; refine (toPointS_e l _ _ _ _ hl h20 ((HA.out.later hb3').mono hb3'.size)).mono ?_; rintro e w4 ⟨b4, rfl, hc4, hb4⟩; have ha4 := hc4.at; have hb4' := grew hb3' hb4; have s0 := cell_later hb4 r0; have s1 := cell_later hb4 r1; replace K0 := K0.later hb4; clear hc4)
              | (go_at_call 13; refine (toPoint_c _ _ _).mono ?_; rintro e w5 ⟨rfl, hb5⟩; have hb5' := grew hb4' hb5; replace K0 := K0.later hb5; have ha5 := (ha4.later hb5).mono hb5.size)
              | (go_at_call 32; refine (nextImpl_c l x y _ _ _ _ hl h20 ha5 (cell_later hb5' C0.out)).mono ?_; rw [hE0]; rintro e w6 ⟨rfl, hb6⟩; have hb6' := grew hb5' hb6; replace K0 := K0.later hb6; have k0x := K0.c0; have k0y := K0.c1; have lk0 := K0.lt; have ha6 := (ha5.later hb6).mono hb6.size)
              | (go_at_call 19; refine (eqPoint_c _ _ _ _ _).mono ?_; rw [hQ0]; rintro e w9 ⟨rfl, hb9⟩; have hB9 : Below w6.heap.size w6 w9 := (by go_grown : Below w6.heap.size w6 (w6.alloc (.cells #[.int .i64 ex0, .int .i64 ey0] 26))).trans (hb9.mono (by go_size)); have hb9' := grew hb6' hB9; have ha9 := (ha6.later hB9).mono hB9.size)
              | (go_at_call 17; refine (toPointS_e l _ _ _ _ hl h20 ((HA.out.later hb9').mono hb9'.size)).mono ?_; rintro e w7 ⟨b7, rfl, hc7, hb7⟩; have ha7 := hc7.at; have hb7' := grew hb9' hb7; have ha67 := (ha9.later hb7).mono hb7.size; clear hc7)
              | (go_at_call 20; refine (eqPointS_c l l _ _ _ _ _ _ _ hl hl h20 h20 ha67 ha7).mono ?_; rintro e wA ⟨rfl, hbA⟩))
            go_ret
            exact ⟨rfl, grew hb7' hbA⟩
  · have hn : (1048576 : Int) < (len : Int) := by omega
    go_enter Tryd.func8, Tryd.ntmps8
    go_wp2_with (go_at_call 15; refine (szPointS_f _ _ _ _ ?_ ?_ hm _).mono ?_; (omega); (omega); rintro e w' ⟨rfl, rfl⟩)
    go_ret
    exact ⟨rfl, by go_grown⟩
end Go.Proofs.YtipiamhnngmjmaaDoor.fnExactNextTo
