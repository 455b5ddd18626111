/-
  The walk of a law (see the text that imports this one).
  Conditions: as the theorem states them.
-/
import Derived.Test.YtegmlemejmahiaaDoorFar9
namespace Go.Proofs.YtegmlemejmahiaaDoor.fnExactTangentsFrom
open Go.RowKit
set_option linter.unusedVariables false
set_option maxHeartbeats 4000000 in
theorem walk (l : List (Int × Int)) (a : Option Addr) (len cap : Nat) (x y : Int) (w : World) (hl : l.length = len) (hm : len ≤ maxLen) (hA : At w.heap.size a l w) (c0 : w.cell? ⟨0, 0, none⟩ = some (.int .i64 1000000)) (c1 : w.cell? ⟨0, 1, none⟩ = some (.int .i64 1099511627776)) (c2 : w.cell? ⟨0, 2, none⟩ = some (.int .i64 4398046511104)) :
    Calls Tryd.prog 5 #[.slice a len cap, .agg #[.int .i64 x, .int .i64 y]] w fun e w' => e = .returned (.bool true) ∧ Below w.heap.size w w' := by
  have HA := hid hA
  have C0 := hid c0
  clear hA c0 c1 c2
  by_cases h20 : len ≤ 1048576
  · clear hm
    have hn : (0 : Int) ≤ 1048576 - (len : Int) := by omega
    have tok2 : True := trivial
    have tk8 : True := trivial
    obtain ⟨⟨ex0, ey0⟩, hE0⟩ : ∃ e, tgA l x y (-1) = e := ⟨_, rfl⟩
    have hQ0 : eqB ex0 ey0 ex0 ey0 = true := by unfold eqB; simp
    obtain ⟨⟨ex1, ey1⟩, hE1⟩ : ∃ e, tgA l x y 1 = e := ⟨_, rfl⟩
    have hQ1 : eqB ex1 ey1 ex1 ey1 = true := by unfold eqB; simp
    have B0 := box0 w x y 24
    have B1 := box1 w x y 24
    go_enter Tryd.func5, Tryd.ntmps5
    go_wp2_with (go_at_call 10; refine (szPointS_c _ _ _ _ ?_ ?_ _).mono ?_; (omega); (omega); rintro e w' ⟨rfl, rfl⟩)
    refine wp_region_held_drew (S := (fun u => u.cell? ⟨w.heap.size, 0, none⟩ = some (.int .i64 x) ∧ u.cell? ⟨w.heap.size, 1, none⟩ = some (.int .i64 y) ∧ Below w.heap.size w u)) (by kernel_rfl) ?_ (fun hHeld => ?_)
    · exact ⟨cell_later (Below.refl _ _).drew B0, cell_later (Below.refl _ _).drew B1, by go_grown⟩
    generalize (w.alloc (.cells #[.int .i64 x, .int .i64 y] 24)).drew = w0 at hHeld ⊢
    refine wpAnyH_take (i := 0) (oi := { dst := some 19, op := Op.move (Operand.tmp 0), type := 22, pos := "exact.go:3770", after := #[], guard := none }) (v := ?v19x0) rfl (by kernel_rfl) (by kernel_rfl) (by kernel_rfl) (fun _ _ _ h => h) (Or.inl ⟨by rfl, ?hy19x0⟩) (by with_reducible assumption) ?rest19x0
    case hy19x0 => (intro w hSw; (try dsimp only at hSw); go_simp; try with_reducible rfl)
    case' rest19x0 => (try simp only [Act.put, List.setIfInBounds_toArray, List.set_cons_zero, List.set_cons_succ])
    refine wpAnyH_take (i := 2) (oi := { dst := some 21, op := Op.load 24 (Operand.tmp 3), type := 24, pos := "exact.go:3770", after := #[], guard := none }) (v := ?v20x2) rfl (by kernel_rfl) (by kernel_rfl) (by kernel_rfl) (fun _ _ _ h => h) (Or.inl ⟨by rfl, ?hy20x2⟩) (by with_reducible assumption) ?rest20x2
    case hy20x2 => (intro w hSw; (try dsimp only at hSw); go_simp; try with_reducible rfl)
    case' rest20x2 => (try simp only [Act.put, List.setIfInBounds_toArray, List.set_cons_zero, List.set_cons_succ])
    refine wpAnyH_ready (rs := [1, 9, 10]) (by kernel_rfl) (by simp) ?_
    refine (AllReadyH.cons (o := { dst := some 20, op := Op.call { callee := Callee.value (Operand.func 12), args := #[Operand.tmp 19], argTypes := #[22] }, type := 29, pos := "exact.go:3770", after := #[{ on := 0, ground := Ground.data }], guard := none }) rfl (fun K hK => ?_) (AllReadyH.cons (o := { dst := some 6, op := Op.alloc 26, type := 0, pos := "exact.go:3770", after := #[], guard := none }) rfl (fun K hK => ?_) (AllReadyH.cons (o := { dst := some 7, op := Op.alloc 26, type := 0, pos := "exact.go:3770", after := #[], guard := none }) rfl (fun K hK => ?_) AllReadyH.nil)))
    · go_simp
      refine (toPointS_e l _ _ _ _ hl h20 ((HA.out.later hHeld.2.2).mono hHeld.2.2.size)).mono ?_
      rintro e w1 ⟨b1, rfl, hc1, hb1⟩
      go_wp2_with fail
      refine hK.out _ _ ?_ (fun hHeld => ?_)
      · exact keep2 hb1 (by with_reducible assumption)
      clear hK K
      try simp only [Act.put, List.setIfInBounds_toArray, List.set_cons_zero, List.set_cons_succ]
      have ha1 := hc1.at
      refine wpAnyH_ready (rs := [3, 9, 10]) (by kernel_rfl) (by simp) ?_
      refine (AllReadyH.cons (o := { dst := some 22, op := Op.call { callee := Callee.value (Operand.func 13), args := #[Operand.tmp 21], argTypes := #[24] }, type := 26, pos := "exact.go:3770", after := #[{ on := 2, ground := Ground.data }, { on := 1, ground := Ground.chain }], guard := none }) rfl (fun K hK => ?_) (AllReadyH.cons (o := { dst := some 6, op := Op.alloc 26, type := 0, pos := "exact.go:3770", after := #[], guard := none }) rfl (fun K hK => ?_) (AllReadyH.cons (o := { dst := some 7, op := Op.alloc 26, type := 0, pos := "exact.go:3770", after := #[], guard := none }) rfl (fun K hK => ?_) AllReadyH.nil)))
      · go_simp
        refine (toPoint_c _ _ _).mono ?_
        rintro e w2 ⟨rfl, hb2⟩
        go_wp2_with fail
        refine hK.out _ _ ?_ (fun hHeld => ?_)
        · exact keep2 hb2 (by with_reducible assumption)
        clear hK K
        try simp only [Act.put, List.setIfInBounds_toArray, List.set_cons_zero, List.set_cons_succ]
        replace ha1 := (ha1.later hb2).mono hb2.size
        refine wpAnyH_ready (rs := [4, 9, 10]) (by kernel_rfl) (by simp) ?_
        refine (AllReadyH.cons (o := { dst := some 23, op := Op.call { callee := Callee.value (Operand.func 19), args := #[Operand.tmp 20, Operand.tmp 22], argTypes := #[29, 26] }, type := 37, pos := "exact.go:3770", after := #[{ on := 1, ground := Ground.data }, { on := 3, ground := Ground.data }, { on := 3, ground := Ground.chain }], guard := none }) rfl (fun K hK => ?_) (AllReadyH.cons (o := { dst := some 6, op := Op.alloc 26, type := 0, pos := "exact.go:3770", after := #[], guard := none }) rfl (fun K hK => ?_) (AllReadyH.cons (o := { dst := some 7, op := Op.alloc 26, type := 0, pos := "exact.go:3770", after := #[], guard := none }) rfl (fun K hK => ?_) AllReadyH.nil)))
        · go_simp
          refine (tangentsSpec_c l x y _ _ _ _ hl h20 ha1).mono ?_
          rw [hE0, hE1]
          rintro e w3 ⟨rfl, hb3⟩
          go_wp2_with fail
          refine hK.out _ _ ?_ (fun hHeld => ?_)
          · exact keep2 hb3 (by with_reducible assumption)
          clear hK K
          try simp only [Act.put, List.setIfInBounds_toArray, List.set_cons_zero, List.set_cons_succ]
          replace ha1 := (ha1.later hb3).mono hb3.size
          refine wpAnyH_take (i := 5) (oi := { dst := some 18, op := Op.move (Operand.tmp 23), type := 37, pos := "exact.go:3770", after := #[{ on := 4, ground := Ground.data }], guard := none }) (v := ?v21x5) rfl (by kernel_rfl) (by kernel_rfl) (by kernel_rfl) (fun _ _ _ h => h) (Or.inl ⟨by rfl, ?hy21x5⟩) (by with_reducible assumption) ?rest21x5
          case hy21x5 => (intro w hSw; (try dsimp only at hSw); go_simp; try with_reducible rfl)
          case' rest21x5 => (try simp only [Act.put, List.setIfInBounds_toArray, List.set_cons_zero, List.set_cons_succ])
          refine wpAnyH_take (i := 6) (oi := { dst := some 24, op := Op.extract (Operand.tmp 18) 0, type := 26, pos := "exact.go:3770", after := #[{ on := 5, ground := Ground.data }], guard := none }) (v := ?v22x6) rfl (by kernel_rfl) (by kernel_rfl) (by kernel_rfl) (fun _ _ _ h => h) (Or.inl ⟨by rfl, ?hy22x6⟩) (by with_reducible assumption) ?rest22x6
          case hy22x6 => (intro w hSw; (try dsimp only at hSw); go_simp; try with_reducible rfl)
          case' rest22x6 => (try simp only [Act.put, List.setIfInBounds_toArray, List.set_cons_zero, List.set_cons_succ])
          refine wpAnyH_take (i := 7) (oi := { dst := some 25, op := Op.extract (Operand.tmp 18) 1, type := 26, pos := "exact.go:3770", after := #[{ on := 5, ground := Ground.data }, { on := 11, ground := Ground.gcOnly Departure.lateStores }], guard := none }) (v := ?v23x7) rfl (by kernel_rfl) (by kernel_rfl) (by kernel_rfl) (fun _ _ _ h => h) (Or.inl ⟨by rfl, ?hy23x7⟩) (by with_reducible assumption) ?rest23x7
          case hy23x7 => (intro w hSw; (try dsimp only at hSw); go_simp; try with_reducible rfl)
          case' rest23x7 => (try simp only [Act.put, List.setIfInBounds_toArray, List.set_cons_zero, List.set_cons_succ])
          refine wpAnyH_take (i := 8) (oi := { dst := some 26, op := Op.extract (Operand.tmp 18) 2, type := 4, pos := "exact.go:3770", after := #[{ on := 5, ground := Ground.data }, { on := 12, ground := Ground.gcOnly Departure.lateStores }], guard := none }) (v := ?v24x8) rfl (by kernel_rfl) (by kernel_rfl) (by kernel_rfl) (fun _ _ _ h => h) (Or.inl ⟨by rfl, ?hy24x8⟩) (by with_reducible assumption) ?rest24x8
          case hy24x8 => (intro w hSw; (try dsimp only at hSw); go_simp; try with_reducible rfl)
          case' rest24x8 => (try simp only [Act.put, List.setIfInBounds_toArray, List.set_cons_zero, List.set_cons_succ])
          refine wpAnyH_ready (rs := [9, 10]) (by kernel_rfl) (by simp) ?_
          refine (AllReadyH.cons (o := { dst := some 6, op := Op.alloc 26, type := 0, pos := "exact.go:3770", after := #[], guard := none }) rfl (fun K hK => ?_) (AllReadyH.cons (o := { dst := some 7, op := Op.alloc 26, type := 0, pos := "exact.go:3770", after := #[], guard := none }) rfl (fun K hK => ?_) AllReadyH.nil))
          · go_simp
            refine hK.out _ _ ?_ (fun hHeld => ?_)
            · (refine keep2 ?_ (by with_reducible assumption); go_grown)
            clear hK K
            try simp only [Act.put, List.setIfInBounds_toArray, List.set_cons_zero, List.set_cons_succ]
            have hlt0 : w.heap.size < w3.heap.size := held_lt (by with_reducible assumption)
            have K0 := BoxP.new w3 0 0
            have hbB0 : Below w3.heap.size w3 (w3.alloc (.cells #[.int .i64 0, .int .i64 0] 26)) := by go_grown
            replace ha1 := (ha1.later hbB0).mono hbB0.size
            generalize w3.heap.size = B0 at K0 hlt0  ⊢
            generalize w3.alloc (.cells #[.int .i64 0, .int .i64 0] 26) = wB0 at *
            refine wpAnyH_ready (rs := [10]) (by kernel_rfl) (by simp) ?_
            refine (AllReadyH.cons (o := { dst := some 7, op := Op.alloc 26, type := 0, pos := "exact.go:3770", after := #[], guard := none }) rfl (fun K hK => ?_) AllReadyH.nil)
            · go_simp
              refine hK.out _ _ ?_ (fun hHeld => ?_)
              · (refine keep2 ?_ (by with_reducible assumption); go_grown)
              clear hK K
              try simp only [Act.put, List.setIfInBounds_toArray, List.set_cons_zero, List.set_cons_succ]
              have hlt1 : w.heap.size < wB0.heap.size := held_lt (by with_reducible assumption)
              have K1 := BoxP.new wB0 0 0
              have hbB1 : Below wB0.heap.size wB0 (wB0.alloc (.cells #[.int .i64 0, .int .i64 0] 26)) := by go_grown
              replace ha1 := (ha1.later hbB1).mono hbB1.size
              have hne01 : B0 < wB0.heap.size := K0.lt
              replace K0 := K0.later hbB1
              generalize wB0.heap.size = B1 at K1 hlt1 hne01 ⊢
              generalize wB0.alloc (.cells #[.int .i64 0, .int .i64 0] 26) = wB1 at *
              have f00 := K0.f 0
              have f01 := K0.f 1
              have d00 := K0.c0
              have d01 := K0.c1
              refine wpAnyH_ready (rs := [11]) (by kernel_rfl) (by simp) ?_
              refine AllReadyH.cons (o := { dst := none, op := Op.store 26 (Operand.tmp 6) (Operand.tmp 24), type := 0, pos := "exact.go:3770", after := #[{ on := 9, ground := Ground.data }, { on := 6, ground := Ground.data }, { on := 4, ground := Ground.chain }, { on := 0, ground := Ground.phase }, { on := 1, ground := Ground.phase }, { on := 2, ground := Ground.phase }, { on := 3, ground := Ground.phase }, { on := 4, ground := Ground.phase }, { on := 5, ground := Ground.phase }, { on := 6, ground := Ground.phase }, { on := 7, ground := Ground.textOnly Departure.lateStores }, { on := 8, ground := Ground.textOnly Departure.lateStores }, { on := 9, ground := Ground.phase }, { on := 10, ground := Ground.phase }], guard := none }) rfl (fun K hK => ?_) AllReadyH.nil
              go_simp
              refine hK.out _ _ ?_ (fun hHeld => ?_)
              · exact keepSt (B := B0) hHeld hlt0 _ _
              clear hK K
              try simp only [Act.put, List.setIfInBounds_toArray, List.set_cons_zero, List.set_cons_succ]
              clear f00 f01 d00 d01
              replace K0 := K0.set ex0 ey0
              replace K1 := ((K1.other (B' := B0) (i := 0) (by omega) (.int .i64 ex0)).other (B' := B0) (i := 1) (by omega) (.int .i64 ey0))
              generalize (wB1.setCell ⟨B0, 0, none⟩ (.int .i64 ex0)).setCell ⟨B0, 1, none⟩ (.int .i64 ey0) = wS0 at hHeld K0 K1 ⊢
              have f10 := K1.f 0
              have f11 := K1.f 1
              have d10 := K1.c0
              have d11 := K1.c1
              refine wpAnyH_ready (rs := [12]) (by kernel_rfl) (by simp) ?_
              refine AllReadyH.cons (o := { dst := none, op := Op.store 26 (Operand.tmp 7) (Operand.tmp 25), type := 0, pos := "exact.go:3770", after := #[{ on := 10, ground := Ground.data }, { on := 7, ground := Ground.data }, { on := 11, ground := Ground.chain }, { on := 0, ground := Ground.phase }, { on := 1, ground := Ground.phase }, { on := 2, ground := Ground.phase }, { on := 3, ground := Ground.phase }, { on := 4, ground := Ground.phase }, { on := 5, ground := Ground.phase }, { on := 6, ground := Ground.phase }, { on := 7, ground := Ground.phase }, { on := 8, ground := Ground.textOnly Departure.lateStores }, { on := 9, ground := Ground.phase }, { on := 10, ground := Ground.phase }, { on := 11, ground := Ground.phase }], guard := none }) rfl (fun K hK => ?_) AllReadyH.nil
              go_simp
              refine hK.out _ _ ?_ (fun hHeld => ?_)
              · exact keepSt (B := B1) hHeld hlt1 _ _
              clear hK K
              try simp only [Act.put, List.setIfInBounds_toArray, List.set_cons_zero, List.set_cons_succ]
              clear f10 f11 d10 d11
              replace K1 := K1.set ex1 ey1
              replace K0 := ((K0.other (B' := B1) (i := 0) (by omega) (.int .i64 ex1)).other (B' := B1) (i := 1) (by omega) (.int .i64 ey1))
              generalize (wS0.setCell ⟨B1, 0, none⟩ (.int .i64 ex1)).setCell ⟨B1, 1, none⟩ (.int .i64 ey1) = wS1 at hHeld K0 K1 ⊢
              refine wpAnyH_take (i := 13) (oi := { dst := some 8, op := Op.assign (Operand.tmp 26), type := 4, pos := "exact.go:3770", after := #[{ on := 8, ground := Ground.data }, { on := 12, ground := Ground.chain }, { on := 0, ground := Ground.phase }, { on := 1, ground := Ground.phase }, { on := 2, ground := Ground.phase }, { on := 3, ground := Ground.phase }, { on := 4, ground := Ground.phase }, { on := 5, ground := Ground.phase }, { on := 6, ground := Ground.phase }, { on := 7, ground := Ground.phase }, { on := 8, ground := Ground.phase }, { on := 9, ground := Ground.phase }, { on := 10, ground := Ground.phase }, { on := 11, ground := Ground.phase }, { on := 12, ground := Ground.phase }], guard := none }) (v := ?v25x13) rfl (by kernel_rfl) (by kernel_rfl) (by kernel_rfl) (fun _ _ _ h => h) (Or.inl ⟨by rfl, ?hy25x13⟩) (by with_reducible assumption) ?rest25x13
              case hy25x13 => (intro w hSw; (try dsimp only at hSw); go_simp; try with_reducible rfl)
              case' rest25x13 => (try simp only [Act.put, List.setIfInBounds_toArray, List.set_cons_zero, List.set_cons_succ])
              refine wpAnyH_done (by kernel_rfl) ?_ _
              obtain ⟨r0, r1, hb3'⟩ := hHeld
              go_wp2_with (first
                | (go_at_call 12; clear tok2; refine (toPointS_e l _ _ _ _ hl h20 ((HA.out.later hb3').mono hb3'.size)).mono ?_; rintro e w4 ⟨b4, rfl, hc4, hb4⟩; have ha4 := hc4.at; have hb4' := grew hb3' hb4; have s0 := cell_later hb4 r0; have s1 := cell_later hb4 r1; replace K0 := K0.later hb4; replace K1 := K1.later hb4; clear hc4)
                | (go_at_call 13; refine (toPoint_c _ _ _).mono ?_; rintro e w5 ⟨rfl, hb5⟩; have hb5' := grew hb4' hb5; replace K0 := K0.later hb5; replace K1 := K1.later hb5; have ha5 := (ha4.later hb5).mono hb5.size)
                | (go_at_call 20; refine (tangentsImpl_c l x y _ _ _ _ hl h20 ha5 (cell_later hb5' C0.out)).mono ?_; rw [hE0, hE1]; rintro e w6 ⟨rfl, hb6⟩; have hb6' := grew hb5' hb6; replace K0 := K0.later hb6; replace K1 := K1.later hb6; have k0x := K0.c0; have k0y := K0.c1; have lk0 := K0.lt; have k1x := K1.c0; have k1y := K1.c1; have lk1 := K1.lt; have n60 := cell_later (show Below w6.heap.size w6 ((w6.alloc (.cells #[.int .i64 ex0, .int .i64 ey0] 26)).alloc (.cells #[.int .i64 ex1, .int .i64 ey1] 26)) by go_grown) k1x; have n61 := cell_later (show Below w6.heap.size w6 ((w6.alloc (.cells #[.int .i64 ex0, .int .i64 ey0] 26)).alloc (.cells #[.int .i64 ex1, .int .i64 ey1] 26)) by go_grown) k1y; have G11 := BoxP.new (w6.alloc (.cells #[.int .i64 ex0, .int .i64 ey0] 26)) ex1 ey1; simp only [World.size_alloc] at G11; have n70 := G11.c0; have n71 := G11.c1; have ha6 := (ha5.later hb6).mono hb6.size)
                | (go_at_call 15; clear tk8; refine (eqPoint_c _ _ _ _ _).mono ?_; rw [hQ0]; rintro e w8 ⟨rfl, hb8⟩; have hB8 : Below w6.heap.size w6 w8 := (by go_grown : Below w6.heap.size w6 ((w6.alloc (.cells #[.int .i64 ex0, .int .i64 ey0] 26)).alloc (.cells #[.int .i64 ex1, .int .i64 ey1] 26))).trans (hb8.mono (by go_size)); have m60 := cell_later hb8 n60; have m61 := cell_later hb8 n61; have m70 := cell_later hb8 n70; have m71 := cell_later hb8 n71)
                | (go_at_call 15; refine (eqPoint_c _ _ _ _ _).mono ?_; rw [hQ1]; rintro e w9 ⟨rfl, hb9⟩; have hB9 := hB8.trans (hb9.mono hB8.size); have hb9' := grew hb6' hB9; have ha9 := (ha6.later hB9).mono hB9.size)
                | (go_at_call 12; refine (toPointS_e l _ _ _ _ hl h20 ((HA.out.later hb9').mono hb9'.size)).mono ?_; rintro e w7 ⟨b7, rfl, hc7, hb7⟩; have ha7 := hc7.at; have hb7' := grew hb9' hb7; have ha67 := (ha9.later hb7).mono hb7.size; clear hc7)
                | (go_at_call 16; refine (eqPointS_c l l _ _ _ _ _ _ _ hl hl h20 h20 ha67 ha7).mono ?_; rintro e wA ⟨rfl, hbA⟩))
              go_ret
              exact ⟨rfl, grew hb7' hbA⟩
          · go_simp
            refine hK.out _ _ ?_ (fun hHeld => ?_)
            · (refine keep2 ?_ (by with_reducible assumption); go_grown)
            clear hK K
            try simp only [Act.put, List.setIfInBounds_toArray, List.set_cons_zero, List.set_cons_succ]
            have hlt1 : w.heap.size < w3.heap.size := held_lt (by with_reducible assumption)
            have K1 := BoxP.new w3 0 0
            have hbB1 : Below w3.heap.size w3 (w3.alloc (.cells #[.int .i64 0, .int .i64 0] 26)) := by go_grown
            replace ha1 := (ha1.later hbB1).mono hbB1.size
            generalize w3.heap.size = B1 at K1 hlt1  ⊢
            generalize w3.alloc (.cells #[.int .i64 0, .int .i64 0] 26) = wB1 at *
            refine wpAnyH_ready (rs := [9]) (by kernel_rfl) (by simp) ?_
            refine (AllReadyH.cons (o := { dst := some 6, op := Op.alloc 26, type := 0, pos := "exact.go:3770", after := #[], guard := none }) rfl (fun K hK => ?_) AllReadyH.nil)
            · go_simp
              refine hK.out _ _ ?_ (fun hHeld => ?_)
              · (refine keep2 ?_ (by with_reducible assumption); go_grown)
              clear hK K
              try simp only [Act.put, List.setIfInBounds_toArray, List.set_cons_zero, List.set_cons_succ]
              have hlt0 : w.heap.size < wB1.heap.size := held_lt (by with_reducible assumption)
              have K0 := BoxP.new wB1 0 0
              have hbB0 : Below wB1.heap.size wB1 (wB1.alloc (.cells #[.int .i64 0, .int .i64 0] 26)) := by go_grown
              replace ha1 := (ha1.later hbB0).mono hbB0.size
              have hne10 : B1 < wB1.heap.size := K1.lt
              replace K1 := K1.later hbB0
              generalize wB1.heap.size = B0 at K0 hlt0 hne10 ⊢
              generalize wB1.alloc (.cells #[.int .i64 0, .int .i64 0] 26) = wB0 at *
              have f00 := K0.f 0
              have f01 := K0.f 1
              have d00 := K0.c0
              have d01 := K0.c1
              refine wpAnyH_ready (rs := [11]) (by kernel_rfl) (by simp) ?_
              refine AllReadyH.cons (o := { dst := none, op := Op.store 26 (Operand.tmp 6) (Operand.tmp 24), type := 0, pos := "exact.go:3770", after := #[{ on := 9, ground := Ground.data }, { on := 6, ground := Ground.data }, { on := 4, ground := Ground.chain }, { on := 0, ground := Ground.phase }, { on := 1, ground := Ground.phase }, { on := 2, ground := Ground.phase }, { on := 3, ground := Ground.phase }, { on := 4, ground := Ground.phase }, { on := 5, ground := Ground.phase }, { on := 6, ground := Ground.phase }, { on := 7, ground := Ground.textOnly Departure.lateStores }, { on := 8, ground := Ground.textOnly Departure.lateStores }, { on := 9, ground := Ground.phase }, { on := 10, ground := Ground.phase }], guard := none }) rfl (fun K hK => ?_) AllReadyH.nil
              go_simp
              refine hK.out _ _ ?_ (fun hHeld => ?_)
              · exact keepSt (B := B0) hHeld hlt0 _ _
              clear hK K
              try simp only [Act.put, List.setIfInBounds_toArray, List.set_cons_zero, List.set_cons_succ]
              clear f00 f01 d00 d01
              replace K0 := K0.set ex0 ey0
              replace K1 := ((K1.other (B' := B0) (i := 0) (by omega) (.int .i64 ex0)).other (B' := B0) (i := 1) (by omega) (.int .i64 ey0))
              generalize (wB0.setCell ⟨B0, 0, none⟩ (.int .i64 ex0)).setCell ⟨B0, 1, none⟩ (.int .i64 ey0) = wS0 at hHeld K0 K1 ⊢
              have f10 := K1.f 0
              have f11 := K1.f 1
              have d10 := K1.c0
              have d11 := K1.c1
              refine wpAnyH_ready (rs := [12]) (by kernel_rfl) (by simp) ?_
              refine AllReadyH.cons (o := { dst := none, op := Op.store 26 (Operand.tmp 7) (Operand.tmp 25), type := 0, pos := "exact.go:3770", after := #[{ on := 10, ground := Ground.data }, { on := 7, ground := Ground.data }, { on := 11, ground := Ground.chain }, { on := 0, ground := Ground.phase }, { on := 1, ground := Ground.phase }, { on := 2, ground := Ground.phase }, { on := 3, ground := Ground.phase }, { on := 4, ground := Ground.phase }, { on := 5, ground := Ground.phase }, { on := 6, ground := Ground.phase }, { on := 7, ground := Ground.phase }, { on := 8, ground := Ground.textOnly Departure.lateStores }, { on := 9, ground := Ground.phase }, { on := 10, ground := Ground.phase }, { on := 11, ground := Ground.phase }], guard := none }) rfl (fun K hK => ?_) AllReadyH.nil
              go_simp
              refine hK.out _ _ ?_ (fun hHeld => ?_)
              · exact keepSt (B := B1) hHeld hlt1 _ _
              clear hK K
              try simp only [Act.put, List.setIfInBounds_toArray, List.set_cons_zero, List.set_cons_succ]
              clear f10 f11 d10 d11
              replace K1 := K1.set ex1 ey1
              replace K0 := ((K0.other (B' := B1) (i := 0) (by omega) (.int .i64 ex1)).other (B' := B1) (i := 1) (by omega) (.int .i64 ey1))
              generalize (wS0.setCell ⟨B1, 0, none⟩ (.int .i64 ex1)).setCell ⟨B1, 1, none⟩ (.int .i64 ey1) = wS1 at hHeld K0 K1 ⊢
              refine wpAnyH_take (i := 13) (oi := { dst := some 8, op := Op.assign (Operand.tmp 26), type := 4, pos := "exact.go:3770", after := #[{ on := 8, ground := Ground.data }, { on := 12, ground := Ground.chain }, { on := 0, ground := Ground.phase }, { on := 1, ground := Ground.phase }, { on := 2, ground := Ground.phase }, { on := 3, ground := Ground.phase }, { on := 4, ground := Ground.phase }, { on := 5, ground := Ground.phase }, { on := 6, ground := Ground.phase }, { on := 7, ground := Ground.phase }, { on := 8, ground := Ground.phase }, { on := 9, ground := Ground.phase }, { on := 10, ground := Ground.phase }, { on := 11, ground := Ground.phase }, { on := 12, ground := Ground.phase }], guard := none }) (v := ?v26x13) rfl (by kernel_rfl) (by kernel_rfl) (by kernel_rfl) (fun _ _ _ h => h) (Or.inl ⟨by rfl, ?hy26x13⟩) (by with_reducible assumption) ?rest26x13
              case hy26x13 => (intro w hSw; (try dsimp only at hSw); go_simp; try with_reducible rfl)
              case' rest26x13 => (try simp only [Act.put, List.setIfInBounds_toArray, List.set_cons_zero, List.set_cons_succ])
              refine wpAnyH_done (by kernel_rfl) ?_ _
              obtain ⟨r0, r1, hb3'⟩ := hHeld
              go_wp2_with (first
                | (go_at_call 12; clear tok2; refine (toPointS_e l _ _ _ _ hl h20 ((HA.out.later hb3').mono hb3'.size)).mono ?_; rintro e w4 ⟨b4, rfl, hc4, hb4⟩; have ha4 := hc4.at; have hb4' := grew hb3' hb4; have s0 := cell_later hb4 r0; have s1 := cell_later hb4 r1; replace K0 := K0.later hb4; replace K1 := K1.later hb4; clear hc4)
                | (go_at_call 13; refine (toPoint_c _ _ _).mono ?_; rintro e w5 ⟨rfl, hb5⟩; have hb5' := grew hb4' hb5; replace K0 := K0.later hb5; replace K1 := K1.later hb5; have ha5 := (ha4.later hb5).mono hb5.size)
                | (go_at_call 20; refine (tangentsImpl_c l x y _ _ _ _ hl h20 ha5 (cell_later hb5' C0.out)).mono ?_; rw [hE0, hE1]; rintro e w6 ⟨rfl, hb6⟩; have hb6' := grew hb5' hb6; replace K0 := K0.later hb6; replace K1 := K1.later hb6; have k0x := K0.c0; have k0y := K0.c1; have lk0 := K0.lt; have k1x := K1.c0; have k1y := K1.c1; have lk1 := K1.lt; have n60 := cell_later (show Below w6.heap.size w6 ((w6.alloc (.cells #[.int .i64 ex0, .int .i64 ey0] 26)).alloc (.cells #[.int .i64 ex1, .int .i64 ey1] 26)) by go_grown) k1x; have n61 := cell_later (show Below w6.heap.size w6 ((w6.alloc (.cells #[.int .i64 ex0, .int .i64 ey0] 26)).alloc (.cells #[.int .i64 ex1, .int .i64 ey1] 26)) by go_grown) k1y; have G11 := BoxP.new (w6.alloc (.cells #[.int .i64 ex0, .int .i64 ey0] 26)) ex1 ey1; simp only [World.size_alloc] at G11; have n70 := G11.c0; have n71 := G11.c1; have ha6 := (ha5.later hb6).mono hb6.size)
                | (go_at_call 15; clear tk8; refine (eqPoint_c _ _ _ _ _).mono ?_; rw [hQ0]; rintro e w8 ⟨rfl, hb8⟩; have hB8 : Below w6.heap.size w6 w8 := (by go_grown : Below w6.heap.size w6 ((w6.alloc (.cells #[.int .i64 ex0, .int .i64 ey0] 26)).alloc (.cells #[.int .i64 ex1, .int .i64 ey1] 26))).trans (hb8.mono (by go_size)); have m60 := cell_later hb8 n60; have m61 := cell_later hb8 n61; have m70 := cell_later hb8 n70; have m71 := cell_later hb8 n71)
                | (go_at_call 15; refine (eqPoint_c _ _ _ _ _).mono ?_; rw [hQ1]; rintro e w9 ⟨rfl, hb9⟩; have hB9 := hB8.trans (hb9.mono hB8.size); have hb9' := grew hb6' hB9; have ha9 := (ha6.later hB9).mono hB9.size)
                | (go_at_call 12; refine (toPointS_e l _ _ _ _ hl h20 ((HA.out.later hb9').mono hb9'.size)).mono ?_; rintro e w7 ⟨b7, rfl, hc7, hb7⟩; have ha7 := hc7.at; have hb7' := grew hb9' hb7; have ha67 := (ha9.later hb7).mono hb7.size; clear hc7)
                | (go_at_call 16; refine (eqPointS_c l l _ _ _ _ _ _ _ hl hl h20 h20 ha67 ha7).mono ?_; rintro e wA ⟨rfl, hbA⟩))
              go_ret
              exact ⟨rfl, grew hb7' hbA⟩
        · go_simp
          refine hK.out _ _ ?_ (fun hHeld => ?_)
          · (refine keep2 ?_ (by with_reducible assumption); go_grown)
          clear hK K
          try simp only [Act.put, List.setIfInBounds_toArray, List.set_cons_zero, List.set_cons_succ]
          have hlt0 : w.heap.size < w2.heap.size := held_lt (by with_reducible assumption)
          have K0 := BoxP.new w2 0 0
          have hbB0 : Below w2.heap.size w2 (w2.alloc (.cells #[.int .i64 0, .int .i64 0] 26)) := by go_grown
          replace ha1 := (ha1.later hbB0).mono hbB0.size
          generalize w2.heap.size = B0 at K0 hlt0  ⊢
          generalize w2.alloc (.cells #[.int .i64 0, .int .i64 0] 26) = wB0 at *
          refine wpAnyH_ready (rs := [4, 10]) (by kernel_rfl) (by simp) ?_
          refine (AllReadyH.cons (o := { dst := some 23, op := Op.call { callee := Callee.value (Operand.func 19), args := #[Operand.tmp 20, Operand.tmp 22], argTypes := #[29, 26] }, type := 37, pos := "exact.go:3770", after := #[{ on := 1, ground := Ground.data }, { on := 3, ground := Ground.data }, { on := 3, ground := Ground.chain }], guard := none }) rfl (fun K hK => ?_) (AllReadyH.cons (o := { dst := some 7, op := Op.alloc 26, type := 0, pos := "exact.go:3770", after := #[], guard := none }) rfl (fun K hK => ?_) AllReadyH.nil))
          · go_simp
            refine (tangentsSpec_c l x y _ _ _ _ hl h20 ha1).mono ?_
            rw [hE0, hE1]
            rintro e w3 ⟨rfl, hb3⟩
            go_wp2_with fail
            refine hK.out _ _ ?_ (fun hHeld => ?_)
            · exact keep2 hb3 (by with_reducible assumption)
            clear hK K
            try simp only [Act.put, List.setIfInBounds_toArray, List.set_cons_zero, List.set_cons_succ]
            replace ha1 := (ha1.later hb3).mono hb3.size
            replace K0 := K0.later hb3
            refine wpAnyH_take (i := 5) (oi := { dst := some 18, op := Op.move (Operand.tmp 23), type := 37, pos := "exact.go:3770", after := #[{ on := 4, ground := Ground.data }], guard := none }) (v := ?v27x5) rfl (by kernel_rfl) (by kernel_rfl) (by kernel_rfl) (fun _ _ _ h => h) (Or.inl ⟨by rfl, ?hy27x5⟩) (by with_reducible assumption) ?rest27x5
            case hy27x5 => (intro w hSw; (try dsimp only at hSw); go_simp; try with_reducible rfl)
            case' rest27x5 => (try simp only [Act.put, List.setIfInBounds_toArray, List.set_cons_zero, List.set_cons_succ])
            refine wpAnyH_take (i := 6) (oi := { dst := some 24, op := Op.extract (Operand.tmp 18) 0, type := 26, pos := "exact.go:3770", after := #[{ on := 5, ground := Ground.data }], guard := none }) (v := ?v28x6) rfl (by kernel_rfl) (by kernel_rfl) (by kernel_rfl) (fun _ _ _ h => h) (Or.inl ⟨by rfl, ?hy28x6⟩) (by with_reducible assumption) ?rest28x6
            case hy28x6 => (intro w hSw; (try dsimp only at hSw); go_simp; try with_reducible rfl)
            case' rest28x6 => (try simp only [Act.put, List.setIfInBounds_toArray, List.set_cons_zero, List.set_cons_succ])
            refine wpAnyH_take (i := 7) (oi := { dst := some 25, op := Op.extract (Operand.tmp 18) 1, type := 26, pos := "exact.go:3770", after := #[{ on := 5, ground := Ground.data }, { on := 11, ground := Ground.gcOnly Departure.lateStores }], guard := none }) (v := ?v29x7) rfl (by kernel_rfl) (by kernel_rfl) (by kernel_rfl) (fun _ _ _ h => h) (Or.inl ⟨by rfl, ?hy29x7⟩) (by with_reducible assumption) ?rest29x7
            case hy29x7 => (intro w hSw; (try dsimp only at hSw); go_simp; try with_reducible rfl)
            case' rest29x7 => (try simp only [Act.put, List.setIfInBounds_toArray, List.set_cons_zero, List.set_cons_succ])
            refine wpAnyH_take (i := 8) (oi := { dst := some 26, op := Op.extract (Operand.tmp 18) 2, type := 4, pos := "exact.go:3770", after := #[{ on := 5, ground := Ground.data }, { on := 12, ground := Ground.gcOnly Departure.lateStores }], guard := none }) (v := ?v30x8) rfl (by kernel_rfl) (by kernel_rfl) (by kernel_rfl) (fun _ _ _ h => h) (Or.inl ⟨by rfl, ?hy30x8⟩) (by with_reducible assumption) ?rest30x8
            case hy30x8 => (intro w hSw; (try dsimp only at hSw); go_simp; try with_reducible rfl)
            case' rest30x8 => (try simp only [Act.put, List.setIfInBounds_toArray, List.set_cons_zero, List.set_cons_succ])
            refine wpAnyH_ready (rs := [10]) (by kernel_rfl) (by simp) ?_
            refine (AllReadyH.cons (o := { dst := some 7, op := Op.alloc 26, type := 0, pos := "exact.go:3770", after := #[], guard := none }) rfl (fun K hK => ?_) AllReadyH.nil)
            · go_simp
              refine hK.out _ _ ?_ (fun hHeld => ?_)
              · (refine keep2 ?_ (by with_reducible assumption); go_grown)
              clear hK K
              try simp only [Act.put, List.setIfInBounds_toArray, List.set_cons_zero, List.set_cons_succ]
              have hlt1 : w.heap.size < w3.heap.size := held_lt (by with_reducible assumption)
              have K1 := BoxP.new w3 0 0
              have hbB1 : Below w3.heap.size w3 (w3.alloc (.cells #[.int .i64 0, .int .i64 0] 26)) := by go_grown
              replace ha1 := (ha1.later hbB1).mono hbB1.size
              have hne01 : B0 < w3.heap.size := K0.lt
              replace K0 := K0.later hbB1
              generalize w3.heap.size = B1 at K1 hlt1 hne01 ⊢
              generalize w3.alloc (.cells #[.int .i64 0, .int .i64 0] 26) = wB1 at *
              have f00 := K0.f 0
              have f01 := K0.f 1
              have d00 := K0.c0
              have d01 := K0.c1
              refine wpAnyH_ready (rs := [11]) (by kernel_rfl) (by simp) ?_
              refine AllReadyH.cons (o := { dst := none, op := Op.store 26 (Operand.tmp 6) (Operand.tmp 24), type := 0, pos := "exact.go:3770", after := #[{ on := 9, ground := Ground.data }, { on := 6, ground := Ground.data }, { on := 4, ground := Ground.chain }, { on := 0, ground := Ground.phase }, { on := 1, ground := Ground.phase }, { on := 2, ground := Ground.phase }, { on := 3, ground := Ground.phase }, { on := 4, ground := Ground.phase }, { on := 5, ground := Ground.phase }, { on := 6, ground := Ground.phase }, { on := 7, ground := Ground.textOnly Departure.lateStores }, { on := 8, ground := Ground.textOnly Departure.lateStores }, { on := 9, ground := Ground.phase }, { on := 10, ground := Ground.phase }], guard := none }) rfl (fun K hK => ?_) AllReadyH.nil
              go_simp
              refine hK.out _ _ ?_ (fun hHeld => ?_)
              · exact keepSt (B := B0) hHeld hlt0 _ _
              clear hK K
              try simp only [Act.put, List.setIfInBounds_toArray, List.set_cons_zero, List.set_cons_succ]
              clear f00 f01 d00 d01
              replace K0 := K0.set ex0 ey0
              replace K1 := ((K1.other (B' := B0) (i := 0) (by omega) (.int .i64 ex0)).other (B' := B0) (i := 1) (by omega) (.int .i64 ey0))
              generalize (wB1.setCell ⟨B0, 0, none⟩ (.int .i64 ex0)).setCell ⟨B0, 1, none⟩ (.int .i64 ey0) = wS0 at hHeld K0 K1 ⊢
              have f10 := K1.f 0
              have f11 := K1.f 1
              have d10 := K1.c0
              have d11 := K1.c1
              refine wpAnyH_ready (rs := [12]) (by kernel_rfl) (by simp) ?_
              refine AllReadyH.cons (o := { dst := none, op := Op.store 26 (Operand.tmp 7) (Operand.tmp 25), type := 0, pos := "exact.go:3770", after := #[{ on := 10, ground := Ground.data }, { on := 7, ground := Ground.data }, { on := 11, ground := Ground.chain }, { on := 0, ground := Ground.phase }, { on := 1, ground := Ground.phase }, { on := 2, ground := Ground.phase }, { on := 3, ground := Ground.phase }, { on := 4, ground := Ground.phase }, { on := 5, ground := Ground.phase }, { on := 6, ground := Ground.phase }, { on := 7, ground := Ground.phase }, { on := 8, ground := Ground.textOnly Departure.lateStores }, { on := 9, ground := Ground.phase }, { on := 10, ground := Ground.phase }, { on := 11, ground := Ground.phase }], guard := none }) rfl (fun K hK => ?_) AllReadyH.nil
              go_simp
              refine hK.out _ _ ?_ (fun hHeld => ?_)
              · exact keepSt (B := B1) hHeld hlt1 _ _
              clear hK K
              try simp only [Act.put, List.setIfInBounds_toArray, List.set_cons_zero, List.set_cons_succ]
              clear f10 f11 d10 d11
              replace K1 := K1.set ex1 ey1
              replace K0 := ((K0.other (B' := B1) (i := 0) (by omega) (.int .i64 ex1)).other (B' := B1) (i := 1) (by omega) (.int .i64 ey1))
              generalize (wS0.setCell ⟨B1, 0, none⟩ (.int .i64 ex1)).setCell ⟨B1, 1, none⟩ (.int .i64 ey1) = wS1 at hHeld K0 K1 ⊢
              refine wpAnyH_take (i := 13) (oi := { dst := some 8, op := Op.assign (Operand.tmp 26), type := 4, pos := "exact.go:3770", after := #[{ on := 8, ground := Ground.data }, { on := 12, ground := Ground.chain }, { on := 0, ground := Ground.phase }, { on := 1, ground := Ground.phase }, { on := 2, ground := Ground.phase }, { on := 3, ground := Ground.phase }, { on := 4, ground := Ground.phase }, { on := 5, ground := Ground.phase }, { on := 6, ground := Ground.phase }, { on := 7, ground := Ground.phase }, { on := 8, ground := Ground.phase }, { on := 9, ground := Ground.phase }, { on := 10, ground := Ground.phase }, { on := 11, ground := Ground.phase }, { on := 12, ground := Ground.phase }], guard := none }) (v := ?v31x13) rfl (by kernel_rfl) (by kernel_rfl) (by kernel_rfl) (fun _ _ _ h => h) (Or.inl ⟨by rfl, ?hy31x13⟩) (by with_reducible assumption) ?rest31x13
              case hy31x13 => (intro w hSw; (try dsimp only at hSw); go_simp; try with_reducible rfl)
              case' rest31x13 => (try simp only [Act.put, List.setIfInBounds_toArray, List.set_cons_zero, List.set_cons_succ])
              refine wpAnyH_done (by kernel_rfl) ?_ _
              obtain ⟨r0, r1, hb3'⟩ := hHeld
              go_wp2_with (first
                | (go_at_call 12; clear tok2; refine (toPointS_e l _ _ _ _ hl h20 ((HA.out.later hb3').mono hb3'.size)).mono ?_; rintro e w4 ⟨b4, rfl, hc4, hb4⟩; have ha4 := hc4.at; have hb4' := grew hb3' hb4; have s0 := cell_later hb4 r0; have s1 := cell_later hb4 r1; replace K0 := K0.later hb4; replace K1 := K1.later hb4; clear hc4)
                | (go_at_call 13; refine (toPoint_c _ _ _).mono ?_; rintro e w5 ⟨rfl, hb5⟩; have hb5' := grew hb4' hb5; replace K0 := K0.later hb5; replace K1 := K1.later hb5; have ha5 := (ha4.later hb5).mono hb5.size)
                | (go_at_call 20; refine (tangentsImpl_c l x y _ _ _ _ hl h20 ha5 (cell_later hb5' C0.out)).mono ?_; rw [hE0, hE1]; rintro e w6 ⟨rfl, hb6⟩; have hb6' := grew hb5' hb6; replace K0 := K0.later hb6; replace K1 := K1.later hb6; have k0x := K0.c0; have k0y := K0.c1; have lk0 := K0.lt; have k1x := K1.c0; have k1y := K1.c1; have lk1 := K1.lt; have n60 := cell_later (show Below w6.heap.size w6 ((w6.alloc (.cells #[.int .i64 ex0, .int .i64 ey0] 26)).alloc (.cells #[.int .i64 ex1, .int .i64 ey1] 26)) by go_grown) k1x; have n61 := cell_later (show Below w6.heap.size w6 ((w6.alloc (.cells #[.int .i64 ex0, .int .i64 ey0] 26)).alloc (.cells #[.int .i64 ex1, .int .i64 ey1] 26)) by go_grown) k1y; have G11 := BoxP.new (w6.alloc (.cells #[.int .i64 ex0, .int .i64 ey0] 26)) ex1 ey1; simp only [World.size_alloc] at G11; have n70 := G11.c0; have n71 := G11.c1; have ha6 := (ha5.later hb6).mono hb6.size)
                | (go_at_call 15; clear tk8; refine (eqPoint_c _ _ _ _ _).mono ?_; rw [hQ0]; rintro e w8 ⟨rfl, hb8⟩; have hB8 : Below w6.heap.size w6 w8 := (by go_grown : Below w6.heap.size w6 ((w6.alloc (.cells #[.int .i64 ex0, .int .i64 ey0] 26)).alloc (.cells #[.int .i64 ex1, .int .i64 ey1] 26))).trans (hb8.mono (by go_size)); have m60 := cell_later hb8 n60; have m61 := cell_later hb8 n61; have m70 := cell_later hb8 n70; have m71 := cell_later hb8 n71)
                | (go_at_call 15; refine (eqPoint_c _ _ _ _ _).mono ?_; rw [hQ1]; rintro e w9 ⟨rfl, hb9⟩; have hB9 := hB8.trans (hb9.mono hB8.size); have hb9' := grew hb6' hB9; have ha9 := (ha6.later hB9).mono hB9.size)
                | (go_at_call 12; refine (toPointS_e l _ _ _ _ hl h20 ((HA.out.later hb9').mono hb9'.size)).mono ?_; rintro e w7 ⟨b7, rfl, hc7, hb7⟩; have ha7 := hc7.at; have hb7' := grew hb9' hb7; have ha67 := (ha9.later hb7).mono hb7.size; clear hc7)
                | (go_at_call 16; refine (eqPointS_c l l _ _ _ _ _ _ _ hl hl h20 h20 ha67 ha7).mono ?_; rintro e wA ⟨rfl, hbA⟩))
              go_ret
              exact ⟨rfl, grew hb7' hbA⟩
          · go_simp
            refine hK.out _ _ ?_ (fun hHeld => ?_)
            · (refine keep2 ?_ (by with_reducible assumption); go_grown)
            clear hK K
            try simp only [Act.put, List.setIfInBounds_toArray, List.set_cons_zero, List.set_cons_succ]
            have hlt1 : w.heap.size < wB0.heap.size := held_lt (by with_reducible assumption)
            have K1 := BoxP.new wB0 0 0
            have hbB1 : Below wB0.heap.size wB0 (wB0.alloc (.cells #[.int .i64 0, .int .i64 0] 26)) := by go_grown
            replace ha1 := (ha1.later hbB1).mono hbB1.size
            have hne01 : B0 < wB0.heap.size := K0.lt
            replace K0 := K0.later hbB1
            generalize wB0.heap.size = B1 at K1 hlt1 hne01 ⊢
            generalize wB0.alloc (.cells #[.int .i64 0, .int .i64 0] 26) = wB1 at *
            refine wpAnyH_ready (rs := [4]) (by kernel_rfl) (by simp) ?_
            refine (AllReadyH.cons (o := { dst := some 23, op := Op.call { callee := Callee.value (Operand.func 19), args := #[Operand.tmp 20, Operand.tmp 22], argTypes := #[29, 26] }, type := 37, pos := "exact.go:3770", after := #[{ on := 1, ground := Ground.data }, { on := 3, ground := Ground.data }, { on := 3, ground := Ground.chain }], guard := none }) rfl (fun K hK => ?_) AllReadyH.nil)
            · go_simp
              refine (tangentsSpec_c l x y _ _ _ _ hl h20 ha1).mono ?_
              rw [hE0, hE1]
              rintro e w3 ⟨rfl, hb3⟩
              go_wp2_with fail
              refine hK.out _ _ ?_ (fun hHeld => ?_)
              · exact keep2 hb3 (by with_reducible assumption)
              clear hK K
              try simp only [Act.put, List.setIfInBounds_toArray, List.set_cons_zero, List.set_cons_succ]
              replace ha1 := (ha1.later hb3).mono hb3.size
              replace K0 := K0.later hb3
              replace K1 := K1.later hb3
              refine wpAnyH_take (i := 5) (oi := { dst := some 18, op := Op.move (Operand.tmp 23), type := 37, pos := "exact.go:3770", after := #[{ on := 4, ground := Ground.data }], guard := none }) (v := ?v32x5) rfl (by kernel_rfl) (by kernel_rfl) (by kernel_rfl) (fun _ _ _ h => h) (Or.inl ⟨by rfl, ?hy32x5⟩) (by with_reducible assumption) ?rest32x5
              case hy32x5 => (intro w hSw; (try dsimp only at hSw); go_simp; try with_reducible rfl)
              case' rest32x5 => (try simp only [Act.put, List.setIfInBounds_toArray, List.set_cons_zero, List.set_cons_succ])
              refine wpAnyH_take (i := 6) (oi := { dst := some 24, op := Op.extract (Operand.tmp 18) 0, type := 26, pos := "exact.go:3770", after := #[{ on := 5, ground := Ground.data }], guard := none }) (v := ?v33x6) rfl (by kernel_rfl) (by kernel_rfl) (by kernel_rfl) (fun _ _ _ h => h) (Or.inl ⟨by rfl, ?hy33x6⟩) (by with_reducible assumption) ?rest33x6
              case hy33x6 => (intro w hSw; (try dsimp only at hSw); go_simp; try with_reducible rfl)
              case' rest33x6 => (try simp only [Act.put, List.setIfInBounds_toArray, List.set_cons_zero, List.set_cons_succ])
              refine wpAnyH_take (i := 7) (oi := { dst := some 25, op := Op.extract (Operand.tmp 18) 1, type := 26, pos := "exact.go:3770", after := #[{ on := 5, ground := Ground.data }, { on := 11, ground := Ground.gcOnly Departure.lateStores }], guard := none }) (v := ?v34x7) rfl (by kernel_rfl) (by kernel_rfl) (by kernel_rfl) (fun _ _ _ h => h) (Or.inl ⟨by rfl, ?hy34x7⟩) (by with_reducible assumption) ?rest34x7
              case hy34x7 => (intro w hSw; (try dsimp only at hSw); go_simp; try with_reducible rfl)
              case' rest34x7 => (try simp only [Act.put, List.setIfInBounds_toArray, List.set_cons_zero, List.set_cons_succ])
              refine wpAnyH_take (i := 8) (oi := { dst := some 26, op := Op.extract (Operand.tmp 18) 2, type := 4, pos := "exact.go:3770", after := #[{ on := 5, ground := Ground.data }, { on := 12, ground := Ground.gcOnly Departure.lateStores }], guard := none }) (v := ?v35x8) rfl (by kernel_rfl) (by kernel_rfl) (by kernel_rfl) (fun _ _ _ h => h) (Or.inl ⟨by rfl, ?hy35x8⟩) (by with_reducible assumption) ?rest35x8
              case hy35x8 => (intro w hSw; (try dsimp only at hSw); go_simp; try with_reducible rfl)
              case' rest35x8 => (try simp only [Act.put, List.setIfInBounds_toArray, List.set_cons_zero, List.set_cons_succ])
              have f00 := K0.f 0
              have f01 := K0.f 1
              have d00 := K0.c0
              have d01 := K0.c1
              refine wpAnyH_ready (rs := [11]) (by kernel_rfl) (by simp) ?_
              refine AllReadyH.cons (o := { dst := none, op := Op.store 26 (Operand.tmp 6) (Operand.tmp 24), type := 0, pos := "exact.go:3770", after := #[{ on := 9, ground := Ground.data }, { on := 6, ground := Ground.data }, { on := 4, ground := Ground.chain }, { on := 0, ground := Ground.phase }, { on := 1, ground := Ground.phase }, { on := 2, ground := Ground.phase }, { on := 3, ground := Ground.phase }, { on := 4, ground := Ground.phase }, { on := 5, ground := Ground.phase }, { on := 6, ground := Ground.phase }, { on := 7, ground := Ground.textOnly Departure.lateStores }, { on := 8, ground := Ground.textOnly Departure.lateStores }, { on := 9, ground := Ground.phase }, { on := 10, ground := Ground.phase }], guard := none }) rfl (fun K hK => ?_) AllReadyH.nil
              go_simp
              refine hK.out _ _ ?_ (fun hHeld => ?_)
              · exact keepSt (B := B0) hHeld hlt0 _ _
              clear hK K
              try simp only [Act.put, List.setIfInBounds_toArray, List.set_cons_zero, List.set_cons_succ]
              clear f00 f01 d00 d01
              replace K0 := K0.set ex0 ey0
              replace K1 := ((K1.other (B' := B0) (i := 0) (by omega) (.int .i64 ex0)).other (B' := B0) (i := 1) (by omega) (.int .i64 ey0))
              generalize (w3.setCell ⟨B0, 0, none⟩ (.int .i64 ex0)).setCell ⟨B0, 1, none⟩ (.int .i64 ey0) = wS0 at hHeld K0 K1 ⊢
              have f10 := K1.f 0
              have f11 := K1.f 1
              have d10 := K1.c0
              have d11 := K1.c1
              refine wpAnyH_ready (rs := [12]) (by kernel_rfl) (by simp) ?_
              refine AllReadyH.cons (o := { dst := none, op := Op.store 26 (Operand.tmp 7) (Operand.tmp 25), type := 0, pos := "exact.go:3770", after := #[{ on := 10, ground := Ground.data }, { on := 7, ground := Ground.data }, { on := 11, ground := Ground.chain }, { on := 0, ground := Ground.phase }, { on := 1, ground := Ground.phase }, { on := 2, ground := Ground.phase }, { on := 3, ground := Ground.phase }, { on := 4, ground := Ground.phase }, { on := 5, ground := Ground.phase }, { on := 6, ground := Ground.phase }, { on := 7, ground := Ground.phase }, { on := 8, ground := Ground.textOnly Departure.lateStores }, { on := 9, ground := Ground.phase }, { on := 10, ground := Ground.phase }, { on := 11, ground := Ground.phase }], guard := none }) rfl (fun K hK => ?_) AllReadyH.nil
              go_simp
              refine hK.out _ _ ?_ (fun hHeld => ?_)
              · exact keepSt (B := B1) hHeld hlt1 _ _
              clear hK K
              try simp only [Act.put, List.setIfInBounds_toArray, List.set_cons_zero, List.set_cons_succ]
              clear f10 f11 d10 d11
              replace K1 := K1.set ex1 ey1
              replace K0 := ((K0.other (B' := B1) (i := 0) (by omega) (.int .i64 ex1)).other (B' := B1) (i := 1) (by omega) (.int .i64 ey1))
              generalize (wS0.setCell ⟨B1, 0, none⟩ (.int .i64 ex1)).setCell ⟨B1, 1, none⟩ (.int .i64 ey1) = wS1 at hHeld K0 K1 ⊢
              refine wpAnyH_take (i := 13) (oi := { dst := some 8, op := Op.assign (Operand.tmp 26), type := 4, pos := "exact.go:3770", after := #[{ on := 8, ground := Ground.data }, { on := 12, ground := Ground.chain }, { on := 0, ground := Ground.phase }, { on := 1, ground := Ground.phase }, { on := 2, ground := Ground.phase }, { on := 3, ground := Ground.phase }, { on := 4, ground := Ground.phase }, { on := 5, ground := Ground.phase }, { on := 6, ground := Ground.phase }, { on := 7, ground := Ground.phase }, { on := 8, ground := Ground.phase }, { on := 9, ground := Ground.phase }, { on := 10, ground := Ground.phase }, { on := 11, ground := Ground.phase }, { on := 12, ground := Ground.phase }], guard := none }) (v := ?v36x13) rfl (by kernel_rfl) (by kernel_rfl) (by kernel_rfl) (fun _ _ _ h => h) (Or.inl ⟨by rfl, ?hy36x13⟩) (by with_reducible assumption) ?rest36x13
              case hy36x13 => (intro w hSw; (try dsimp only at hSw); go_simp; try with_reducible rfl)
              case' rest36x13 => (try simp only [Act.put, List.setIfInBounds_toArray, List.set_cons_zero, List.set_cons_succ])
              refine wpAnyH_done (by kernel_rfl) ?_ _
              obtain ⟨r0, r1, hb3'⟩ := hHeld
              go_wp2_with (first
                | (go_at_call 12; clear tok2; refine (toPointS_e l _ _ _ _ hl h20 ((HA.out.later hb3').mono hb3'.size)).mono ?_; rintro e w4 ⟨b4, rfl, hc4, hb4⟩; have ha4 := hc4.at; have hb4' := grew hb3' hb4; have s0 := cell_later hb4 r0; have s1 := cell_later hb4 r1; replace K0 := K0.later hb4; replace K1 := K1.later hb4; clear hc4)
                | (go_at_call 13; refine (toPoint_c _ _ _).mono ?_; rintro e w5 ⟨rfl, hb5⟩; have hb5' := grew hb4' hb5; replace K0 := K0.later hb5; replace K1 := K1.later hb5; have ha5 := (ha4.later hb5).mono hb5.size)
                | (go_at_call 20; refine (tangentsImpl_c l x y _ _ _ _ hl h20 ha5 (cell_later hb5' C0.out)).mono ?_; rw [hE0, hE1]; rintro e w6 ⟨rfl, hb6⟩; have hb6' := grew hb5' hb6; replace K0 := K0.later hb6; replace K1 := K1.later hb6; have k0x := K0.c0; have k0y := K0.c1; have lk0 := K0.lt; have k1x := K1.c0; have k1y := K1.c1; have lk1 := K1.lt; have n60 := cell_later (show Below w6.heap.size w6 ((w6.alloc (.cells #[.int .i64 ex0, .int .i64 ey0] 26)).alloc (.cells #[.int .i64 ex1, .int .i64 ey1] 26)) by go_grown) k1x; have n61 := cell_later (show Below w6.heap.size w6 ((w6.alloc (.cells #[.int .i64 ex0, .int .i64 ey0] 26)).alloc (.cells #[.int .i64 ex1, .int .i64 ey1] 26)) by go_grown) k1y; have G11 := BoxP.new (w6.alloc (.cells #[.int .i64 ex0, .int .i64 ey0] 26)) ex1 ey1; simp only [World.size_alloc] at G11; have n70 := G11.c0; have n71 := G11.c1; have ha6 := (ha5.later hb6).mono hb6.size)
                | (go_at_call 15; clear tk8; refine (eqPoint_c _ _ _ _ _).mono ?_; rw [hQ0]; rintro e w8 ⟨rfl, hb8⟩; have hB8 : Below w6.heap.size w6 w8 := (by go_grown : Below w6.heap.size w6 ((w6.alloc (.cells #[.int .i64 ex0, .int .i64 ey0] 26)).alloc (.cells #[.int .i64 ex1, .int .i64 ey1] 26))).trans (hb8.mono (by go_size)); have m60 := cell_later hb8 n60; have m61 := cell_later hb8 n61; have m70 := cell_later hb8 n70; have m71 := cell_later hb8 n71)
                | (go_at_call 15; refine (eqPoint_c _ _ _ _ _).mono ?_; rw [hQ1]; rintro e w9 ⟨rfl, hb9⟩; have hB9 := hB8.trans (hb9.mono hB8.size); have hb9' := grew hb6' hB9; have ha9 := (ha6.later hB9).mono hB9.size)
                | (go_at_call 12; refine (toPointS_e l _ _ _ _ hl h20 ((HA.out.later hb9').mono hb9'.size)).mono ?_; rintro e w7 ⟨b7, rfl, hc7, hb7⟩; have ha7 := hc7.at; have hb7' := grew hb9' hb7; have ha67 := (ha9.later hb7).mono hb7.size; clear hc7)
                | (go_at_call 16; refine (eqPointS_c l l _ _ _ _ _ _ _ hl hl h20 h20 ha67 ha7).mono ?_; rintro e wA ⟨rfl, hbA⟩))
              go_ret
              exact ⟨rfl, grew hb7' hbA⟩
        · go_simp
          refine hK.out _ _ ?_ (fun hHeld => ?_)
          · (refine keep2 ?_ (by with_reducible assumption); go_grown)
          clear hK K
          try simp only [Act.put, List.setIfInBounds_toArray, List.set_cons_zero, List.set_cons_succ]
          have hlt1 : w.heap.size < w2.heap.size := held_lt (by with_reducible assumption)
          have K1 := BoxP.new w2 0 0
          have hbB1 : Below w2.heap.size w2 (w2.alloc (.cells #[.int .i64 0, .int .i64 0] 26)) := by go_grown
          replace ha1 := (ha1.later hbB1).mono hbB1.size
          generalize w2.heap.size = B1 at K1 hlt1  ⊢
          generalize w2.alloc (.cells #[.int .i64 0, .int .i64 0] 26) = wB1 at *
          refine wpAnyH_ready (rs := [4, 9]) (by kernel_rfl) (by simp) ?_
          refine (AllReadyH.cons (o := { dst := some 23, op := Op.call { callee := Callee.value (Operand.func 19), args := #[Operand.tmp 20, Operand.tmp 22], argTypes := #[29, 26] }, type := 37, pos := "exact.go:3770", after := #[{ on := 1, ground := Ground.data }, { on := 3, ground := Ground.data }, { on := 3, ground := Ground.chain }], guard := none }) rfl (fun K hK => ?_) (AllReadyH.cons (o := { dst := some 6, op := Op.alloc 26, type := 0, pos := "exact.go:3770", after := #[], guard := none }) rfl (fun K hK => ?_) AllReadyH.nil))
          · go_simp
            refine (tangentsSpec_c l x y _ _ _ _ hl h20 ha1).mono ?_
            rw [hE0, hE1]
            rintro e w3 ⟨rfl, hb3⟩
            go_wp2_with fail
            refine hK.out _ _ ?_ (fun hHeld => ?_)
            · exact keep2 hb3 (by with_reducible assumption)
            clear hK K
            try simp only [Act.put, List.setIfInBounds_toArray, List.set_cons_zero, List.set_cons_succ]
            replace ha1 := (ha1.later hb3).mono hb3.size
            replace K1 := K1.later hb3
            refine wpAnyH_take (i := 5) (oi := { dst := some 18, op := Op.move (Operand.tmp 23), type := 37, pos := "exact.go:3770", after := #[{ on := 4, ground := Ground.data }], guard := none }) (v := ?v37x5) rfl (by kernel_rfl) (by kernel_rfl) (by kernel_rfl) (fun _ _ _ h => h) (Or.inl ⟨by rfl, ?hy37x5⟩) (by with_reducible assumption) ?rest37x5
            case hy37x5 => (intro w hSw; (try dsimp only at hSw); go_simp; try with_reducible rfl)
            case' rest37x5 => (try simp only [Act.put, List.setIfInBounds_toArray, List.set_cons_zero, List.set_cons_succ])
            refine wpAnyH_take (i := 6) (oi := { dst := some 24, op := Op.extract (Operand.tmp 18) 0, type := 26, pos := "exact.go:3770", after := #[{ on := 5, ground := Ground.data }], guard := none }) (v := ?v38x6) rfl (by kernel_rfl) (by kernel_rfl) (by kernel_rfl) (fun _ _ _ h => h) (Or.inl ⟨by rfl, ?hy38x6⟩) (by with_reducible assumption) ?rest38x6
            case hy38x6 => (intro w hSw; (try dsimp only at hSw); go_simp; try with_reducible rfl)
            case' rest38x6 => (try simp only [Act.put, List.setIfInBounds_toArray, List.set_cons_zero, List.set_cons_succ])
            refine wpAnyH_take (i := 7) (oi := { dst := some 25, op := Op.extract (Operand.tmp 18) 1, type := 26, pos := "exact.go:3770", after := #[{ on := 5, ground := Ground.data }, { on := 11, ground := Ground.gcOnly Departure.lateStores }], guard := none }) (v := ?v39x7) rfl (by kernel_rfl) (by kernel_rfl) (by kernel_rfl) (fun _ _ _ h => h) (Or.inl ⟨by rfl, ?hy39x7⟩) (by with_reducible assumption) ?rest39x7
            case hy39x7 => (intro w hSw; (try dsimp only at hSw); go_simp; try with_reducible rfl)
            case' rest39x7 => (try simp only [Act.put, List.setIfInBounds_toArray, List.set_cons_zero, List.set_cons_succ])
            refine wpAnyH_take (i := 8) (oi := { dst := some 26, op := Op.extract (Operand.tmp 18) 2, type := 4, pos := "exact.go:3770", after := #[{ on := 5, ground := Ground.data }, { on := 12, ground := Ground.gcOnly Departure.lateStores }], guard := none }) (v := ?v40x8) rfl (by kernel_rfl) (by kernel_rfl) (by kernel_rfl) (fun _ _ _ h => h) (Or.inl ⟨by rfl, ?hy40x8⟩) (by with_reducible assumption) ?rest40x8
            case hy40x8 => (intro w hSw; (try dsimp only at hSw); go_simp; try with_reducible rfl)
            case' rest40x8 => (try simp only [Act.put, List.setIfInBounds_toArray, List.set_cons_zero, List.set_cons_succ])
            refine wpAnyH_ready (rs := [9]) (by kernel_rfl) (by simp) ?_
            refine (AllReadyH.cons (o := { dst := some 6, op := Op.alloc 26, type := 0, pos := "exact.go:3770", after := #[], guard := none }) rfl (fun K hK => ?_) AllReadyH.nil)
            · go_simp
              refine hK.out _ _ ?_ (fun hHeld => ?_)
              · (refine keep2 ?_ (by with_reducible assumption); go_grown)
              clear hK K
              try simp only [Act.put, List.setIfInBounds_toArray, List.set_cons_zero, List.set_cons_succ]
              have hlt0 : w.heap.size < w3.heap.size := held_lt (by with_reducible assumption)
              have K0 := BoxP.new w3 0 0
              have hbB0 : Below w3.heap.size w3 (w3.alloc (.cells #[.int .i64 0, .int .i64 0] 26)) := by go_grown
              replace ha1 := (ha1.later hbB0).mono hbB0.size
              have hne10 : B1 < w3.heap.size := K1.lt
              replace K1 := K1.later hbB0
              generalize w3.heap.size = B0 at K0 hlt0 hne10 ⊢
              generalize w3.alloc (.cells #[.int .i64 0, .int .i64 0] 26) = wB0 at *
              have f00 := K0.f 0
              have f01 := K0.f 1
              have d00 := K0.c0
              have d01 := K0.c1
              refine wpAnyH_ready (rs := [11]) (by kernel_rfl) (by simp) ?_
              refine AllReadyH.cons (o := { dst := none, op := Op.store 26 (Operand.tmp 6) (Operand.tmp 24), type := 0, pos := "exact.go:3770", after := #[{ on := 9, ground := Ground.data }, { on := 6, ground := Ground.data }, { on := 4, ground := Ground.chain }, { on := 0, ground := Ground.phase }, { on := 1, ground := Ground.phase }, { on := 2, ground := Ground.phase }, { on := 3, ground := Ground.phase }, { on := 4, ground := Ground.phase }, { on := 5, ground := Ground.phase }, { on := 6, ground := Ground.phase }, { on := 7, ground := Ground.textOnly Departure.lateStores }, { on := 8, ground := Ground.textOnly Departure.lateStores }, { on := 9, ground := Ground.phase }, { on := 10, ground := Ground.phase }], guard := none }) rfl (fun K hK => ?_) AllReadyH.nil
              go_simp
              refine hK.out _ _ ?_ (fun hHeld => ?_)
              · exact keepSt (B := B0) hHeld hlt0 _ _
              clear hK K
              try simp only [Act.put, List.setIfInBounds_toArray, List.set_cons_zero, List.set_cons_succ]
              clear f00 f01 d00 d01
              replace K0 := K0.set ex0 ey0
              replace K1 := ((K1.other (B' := B0) (i := 0) (by omega) (.int .i64 ex0)).other (B' := B0) (i := 1) (by omega) (.int .i64 ey0))
              generalize (wB0.setCell ⟨B0, 0, none⟩ (.int .i64 ex0)).setCell ⟨B0, 1, none⟩ (.int .i64 ey0) = wS0 at hHeld K0 K1 ⊢
              have f10 := K1.f 0
              have f11 := K1.f 1
              have d10 := K1.c0
              have d11 := K1.c1
              refine wpAnyH_ready (rs := [12]) (by kernel_rfl) (by simp) ?_
              refine AllReadyH.cons (o := { dst := none, op := Op.store 26 (Operand.tmp 7) (Operand.tmp 25), type := 0, pos := "exact.go:3770", after := #[{ on := 10, ground := Ground.data }, { on := 7, ground := Ground.data }, { on := 11, ground := Ground.chain }, { on := 0, ground := Ground.phase }, { on := 1, ground := Ground.phase }, { on := 2, ground := Ground.phase }, { on := 3, ground := Ground.phase }, { on := 4, ground := Ground.phase }, { on := 5, ground := Ground.phase }, { on := 6, ground := Ground.phase }, { on := 7, ground := Ground.phase }, { on := 8, ground := Ground.textOnly Departure.lateStores }, { on := 9, ground := Ground.phase }, { on := 10, ground := Ground.phase }, { on := 11, ground := Ground.phase }], guard := none }) rfl (fun K hK => ?_) AllReadyH.nil
              go_simp
              refine hK.out _ _ ?_ (fun hHeld => ?_)
              · exact keepSt (B := B1) hHeld hlt1 _ _
              clear hK K
              try simp only [Act.put, List.setIfInBounds_toArray, List.set_cons_zero, List.set_cons_succ]
              clear f10 f11 d10 d11
              replace K1 := K1.set ex1 ey1
              replace K0 := ((K0.other (B' := B1) (i := 0) (by omega) (.int .i64 ex1)).other (B' := B1) (i := 1) (by omega) (.int .i64 ey1))
              generalize (wS0.setCell ⟨B1, 0, none⟩ (.int .i64 ex1)).setCell ⟨B1, 1, none⟩ (.int .i64 ey1) = wS1 at hHeld K0 K1 ⊢
              refine wpAnyH_take (i := 13) (oi := { dst := some 8, op := Op.assign (Operand.tmp 26), type := 4, pos := "exact.go:3770", after := #[{ on := 8, ground := Ground.data }, { on := 12, ground := Ground.chain }, { on := 0, ground := Ground.phase }, { on := 1, ground := Ground.phase }, { on := 2, ground := Ground.phase }, { on := 3, ground := Ground.phase }, { on := 4, ground := Ground.phase }, { on := 5, ground := Ground.phase }, { on := 6, ground := Ground.phase }, { on := 7, ground := Ground.phase }, { on := 8, ground := Ground.phase }, { on := 9, ground := Ground.phase }, { on := 10, ground := Ground.phase }, { on := 11, ground := Ground.phase }, { on := 12, ground := Ground.phase }], guard := none }) (v := ?v41x13) rfl (by kernel_rfl) (by kernel_rfl) (by kernel_rfl) (fun _ _ _ h => h) (Or.inl ⟨by rfl, ?hy41x13⟩) (by with_reducible assumption) ?rest41x13
              case hy41x13 => (intro w hSw; (try dsimp only at hSw); go_simp; try with_reducible rfl)
              case' rest41x13 => (try simp only [Act.put, List.setIfInBounds_toArray, List.set_cons_zero, List.set_cons_succ])
              refine wpAnyH_done (by kernel_rfl) ?_ _
              obtain ⟨r0, r1, hb3'⟩ := hHeld
              go_wp2_with (first
                | (go_at_call 12; clear tok2; refine (toPointS_e l _ _ _ _ hl h20 ((HA.out.later hb3').mono hb3'.size)).mono ?_; rintro e w4 ⟨b4, rfl, hc4, hb4⟩; have ha4 := hc4.at; have hb4' := grew hb3' hb4; have s0 := cell_later hb4 r0; have s1 := cell_later hb4 r1; replace K0 := K0.later hb4; replace K1 := K1.later hb4; clear hc4)
                | (go_at_call 13; refine (toPoint_c _ _ _).mono ?_; rintro e w5 ⟨rfl, hb5⟩; have hb5' := grew hb4' hb5; replace K0 := K0.later hb5; replace K1 := K1.later hb5; have ha5 := (ha4.later hb5).mono hb5.size)
                | (go_at_call 20; refine (tangentsImpl_c l x y _ _ _ _ hl h20 ha5 (cell_later hb5' C0.out)).mono ?_; rw [hE0, hE1]; rintro e w6 ⟨rfl, hb6⟩; have hb6' := grew hb5' hb6; replace K0 := K0.later hb6; replace K1 := K1.later hb6; have k0x := K0.c0; have k0y := K0.c1; have lk0 := K0.lt; have k1x := K1.c0; have k1y := K1.c1; have lk1 := K1.lt; have n60 := cell_later (show Below w6.heap.size w6 ((w6.alloc (.cells #[.int .i64 ex0, .int .i64 ey0] 26)).alloc (.cells #[.int .i64 ex1, .int .i64 ey1] 26)) by go_grown) k1x; have n61 := cell_later (show Below w6.heap.size w6 ((w6.alloc (.cells #[.int .i64 ex0, .int .i64 ey0] 26)).alloc (.cells #[.int .i64 ex1, .int .i64 ey1] 26)) by go_grown) k1y; have G11 := BoxP.new (w6.alloc (.cells #[.int .i64 ex0, .int .i64 ey0] 26)) ex1 ey1; simp only [World.size_alloc] at G11; have n70 := G11.c0; have n71 := G11.c1; have ha6 := (ha5.later hb6).mono hb6.size)
                | (go_at_call 15; clear tk8; refine (eqPoint_c _ _ _ _ _).mono ?_; rw [hQ0]; rintro e w8 ⟨rfl, hb8⟩; have hB8 : Below w6.heap.size w6 w8 := (by go_grown : Below w6.heap.size w6 ((w6.alloc (.cells #[.int .i64 ex0, .int .i64 ey0] 26)).alloc (.cells #[.int .i64 ex1, .int .i64 ey1] 26))).trans (hb8.mono (by go_size)); have m60 := cell_later hb8 n60; have m61 := cell_later hb8 n61; have m70 := cell_later hb8 n70; have m71 := cell_later hb8 n71)
                | (go_at_call 15; refine (eqPoint_c _ _ _ _ _).mono ?_; rw [hQ1]; rintro e w9 ⟨rfl, hb9⟩; have hB9 := hB8.trans (hb9.mono hB8.size); have hb9' := grew hb6' hB9; have ha9 := (ha6.later hB9).mono hB9.size)
                | (go_at_call 12; refine (toPointS_e l _ _ _ _ hl h20 ((HA.out.later hb9').mono hb9'.size)).mono ?_; rintro e w7 ⟨b7, rfl, hc7, hb7⟩; have ha7 := hc7.at; have hb7' := grew hb9' hb7; have ha67 := (ha9.later hb7).mono hb7.size; clear hc7)
                | (go_at_call 16; refine (eqPointS_c l l _ _ _ _ _ _ _ hl hl h20 h20 ha67 ha7).mono ?_; rintro e wA ⟨rfl, hbA⟩))
              go_ret
              exact ⟨rfl, grew hb7' hbA⟩
          · go_simp
            refine hK.out _ _ ?_ (fun hHeld => ?_)
            · (refine keep2 ?_ (by with_reducible assumption); go_grown)
            clear hK K
            try simp only [Act.put, List.setIfInBounds_toArray, List.set_cons_zero, List.set_cons_succ]
            have hlt0 : w.heap.size < wB1.heap.size := held_lt (by with_reducible assumption)
            have K0 := BoxP.new wB1 0 0
            have hbB0 : Below wB1.heap.size wB1 (wB1.alloc (.cells #[.int .i64 0, .int .i64 0] 26)) := by go_grown
            replace ha1 := (ha1.later hbB0).mono hbB0.size
            have hne10 : B1 < wB1.heap.size := K1.lt
            replace K1 := K1.later hbB0
            generalize wB1.heap.size = B0 at K0 hlt0 hne10 ⊢
            generalize wB1.alloc (.cells #[.int .i64 0, .int .i64 0] 26) = wB0 at *
            refine wpAnyH_ready (rs := [4]) (by kernel_rfl) (by simp) ?_
            refine (AllReadyH.cons (o := { dst := some 23, op := Op.call { callee := Callee.value (Operand.func 19), args := #[Operand.tmp 20, Operand.tmp 22], argTypes := #[29, 26] }, type := 37, pos := "exact.go:3770", after := #[{ on := 1, ground := Ground.data }, { on := 3, ground := Ground.data }, { on := 3, ground := Ground.chain }], guard := none }) rfl (fun K hK => ?_) AllReadyH.nil)
            · go_simp
              refine (tangentsSpec_c l x y _ _ _ _ hl h20 ha1).mono ?_
              rw [hE0, hE1]
              rintro e w3 ⟨rfl, hb3⟩
              go_wp2_with fail
              refine hK.out _ _ ?_ (fun hHeld => ?_)
              · exact keep2 hb3 (by with_reducible assumption)
              clear hK K
              try simp only [Act.put, List.setIfInBounds_toArray, List.set_cons_zero, List.set_cons_succ]
              replace ha1 := (ha1.later hb3).mono hb3.size
              replace K1 := K1.later hb3
              replace K0 := K0.later hb3
              refine wpAnyH_take (i := 5) (oi := { dst := some 18, op := Op.move (Operand.tmp 23), type := 37, pos := "exact.go:3770", after := #[{ on := 4, ground := Ground.data }], guard := none }) (v := ?v42x5) rfl (by kernel_rfl) (by kernel_rfl) (by kernel_rfl) (fun _ _ _ h => h) (Or.inl ⟨by rfl, ?hy42x5⟩) (by with_reducible assumption) ?rest42x5
              case hy42x5 => (intro w hSw; (try dsimp only at hSw); go_simp; try with_reducible rfl)
              case' rest42x5 => (try simp only [Act.put, List.setIfInBounds_toArray, List.set_cons_zero, List.set_cons_succ])
              refine wpAnyH_take (i := 6) (oi := { dst := some 24, op := Op.extract (Operand.tmp 18) 0, type := 26, pos := "exact.go:3770", after := #[{ on := 5, ground := Ground.data }], guard := none }) (v := ?v43x6) rfl (by kernel_rfl) (by kernel_rfl) (by kernel_rfl) (fun _ _ _ h => h) (Or.inl ⟨by rfl, ?hy43x6⟩) (by with_reducible assumption) ?rest43x6
              case hy43x6 => (intro w hSw; (try dsimp only at hSw); go_simp; try with_reducible rfl)
              case' rest43x6 => (try simp only [Act.put, List.setIfInBounds_toArray, List.set_cons_zero, List.set_cons_succ])
              refine wpAnyH_take (i := 7) (oi := { dst := some 25, op := Op.extract (Operand.tmp 18) 1, type := 26, pos := "exact.go:3770", after := #[{ on := 5, ground := Ground.data }, { on := 11, ground := Ground.gcOnly Departure.lateStores }], guard := none }) (v := ?v44x7) rfl (by kernel_rfl) (by kernel_rfl) (by kernel_rfl) (fun _ _ _ h => h) (Or.inl ⟨by rfl, ?hy44x7⟩) (by with_reducible assumption) ?rest44x7
              case hy44x7 => (intro w hSw; (try dsimp only at hSw); go_simp; try with_reducible rfl)
              case' rest44x7 => (try simp only [Act.put, List.setIfInBounds_toArray, List.set_cons_zero, List.set_cons_succ])
              refine wpAnyH_take (i := 8) (oi := { dst := some 26, op := Op.extract (Operand.tmp 18) 2, type := 4, pos := "exact.go:3770", after := #[{ on := 5, ground := Ground.data }, { on := 12, ground := Ground.gcOnly Departure.lateStores }], guard := none }) (v := ?v45x8) rfl (by kernel_rfl) (by kernel_rfl) (by kernel_rfl) (fun _ _ _ h => h) (Or.inl ⟨by rfl, ?hy45x8⟩) (by with_reducible assumption) ?rest45x8
              case hy45x8 => (intro w hSw; (try dsimp only at hSw); go_simp; try with_reducible rfl)
              case' rest45x8 => (try simp only [Act.put, List.setIfInBounds_toArray, List.set_cons_zero, List.set_cons_succ])
              have f00 := K0.f 0
              have f01 := K0.f 1
              have d00 := K0.c0
              have d01 := K0.c1
              refine wpAnyH_ready (rs := [11]) (by kernel_rfl) (by simp) ?_
              refine AllReadyH.cons (o := { dst := none, op := Op.store 26 (Operand.tmp 6) (Operand.tmp 24), type := 0, pos := "exact.go:3770", after := #[{ on := 9, ground := Ground.data }, { on := 6, ground := Ground.data }, { on := 4, ground := Ground.chain }, { on := 0, ground := Ground.phase }, { on := 1, ground := Ground.phase }, { on := 2, ground := Ground.phase }, { on := 3, ground := Ground.phase }, { on := 4, ground := Ground.phase }, { on := 5, ground := Ground.phase }, { on := 6, ground := Ground.phase }, { on := 7, ground := Ground.textOnly Departure.lateStores }, { on := 8, ground := Ground.textOnly Departure.lateStores }, { on := 9, ground := Ground.phase }, { on := 10, ground := Ground.phase }], guard := none }) rfl (fun K hK => ?_) AllReadyH.nil
              go_simp
              refine hK.out _ _ ?_ (fun hHeld => ?_)
              · exact keepSt (B := B0) hHeld hlt0 _ _
              clear hK K
              try simp only [Act.put, List.setIfInBounds_toArray, List.set_cons_zero, List.set_cons_succ]
              clear f00 f01 d00 d01
              replace K0 := K0.set ex0 ey0
              replace K1 := ((K1.other (B' := B0) (i := 0) (by omega) (.int .i64 ex0)).other (B' := B0) (i := 1) (by omega) (.int .i64 ey0))
              generalize (w3.setCell ⟨B0, 0, none⟩ (.int .i64 ex0)).setCell ⟨B0, 1, none⟩ (.int .i64 ey0) = wS0 at hHeld K0 K1 ⊢
              have f10 := K1.f 0
              have f11 := K1.f 1
              have d10 := K1.c0
              have d11 := K1.c1
              refine wpAnyH_ready (rs := [12]) (by kernel_rfl) (by simp) ?_
              refine AllReadyH.cons (o := { dst := none, op := Op.store 26 (Operand.tmp 7) (Operand.tmp 25), type := 0, pos := "exact.go:3770", after := #[{ on := 10, ground := Ground.data }, { on := 7, ground := Ground.data }, { on := 11, ground := Ground.chain }, { on := 0, ground := Ground.phase }, { on := 1, ground := Ground.phase }, { on := 2, ground := Ground.phase }, { on := 3, ground := Ground.phase }, { on := 4, ground := Ground.phase }, { on := 5, ground := Ground.phase }, { on := 6, ground := Ground.phase }, { on := 7, ground := Ground.phase }, { on := 8, ground := Ground.textOnly Departure.lateStores }, { on := 9, ground := Ground.phase }, { on := 10, ground := Ground.phase }, { on := 11, ground := Ground.phase }], guard := none }) rfl (fun K hK => ?_) AllReadyH.nil
              go_simp
              refine hK.out _ _ ?_ (fun hHeld => ?_)
              · exact keepSt (B := B1) hHeld hlt1 _ _
              clear hK K
              try simp only [Act.put, List.setIfInBounds_toArray, List.set_cons_zero, List.set_cons_succ]
              clear f10 f11 d10 d11
              replace K1 := K1.set ex1 ey1
              replace K0 := ((K0.other (B' := B1) (i := 0) (by omega) (.int .i64 ex1)).other (B' := B1) (i := 1) (by omega) (.int .i64 ey1))
              generalize (wS0.setCell ⟨B1, 0, none⟩ (.int .i64 ex1)).setCell ⟨B1, 1, none⟩ (.int .i64 ey1) = wS1 at hHeld K0 K1 ⊢
              refine wpAnyH_take (i := 13) (oi := { dst := some 8, op := Op.assign (Operand.tmp 26), type := 4, pos := "exact.go:3770", after := #[{ on := 8, ground := Ground.data }, { on := 12, ground := Ground.chain }, { on := 0, ground := Ground.phase }, { on := 1, ground := Ground.phase }, { on := 2, ground := Ground.phase }, { on := 3, ground := Ground.phase }, { on := 4, ground := Ground.phase }, { on := 5, ground := Ground.phase }, { on := 6, ground := Ground.phase }, { on := 7, ground := Ground.phase }, { on := 8, ground := Ground.phase }, { on := 9, ground := Ground.phase }, { on := 10, ground := Ground.phase }, { on := 11, ground := Ground.phase }, { on := 12, ground := Ground.phase }], guard := none }) (v := ?v46x13) rfl (by kernel_rfl) (by kernel_rfl) (by kernel_rfl) (fun _ _ _ h => h) (Or.inl ⟨by rfl, ?hy46x13⟩) (by with_reducible assumption) ?rest46x13
              case hy46x13 => (intro w hSw; (try dsimp only at hSw); go_simp; try with_reducible rfl)
              case' rest46x13 => (try simp only [Act.put, List.setIfInBounds_toArray, List.set_cons_zero, List.set_cons_succ])
              refine wpAnyH_done (by kernel_rfl) ?_ _
              obtain ⟨r0, r1, hb3'⟩ := hHeld
              go_wp2_with (first
                | (go_at_call 12; clear tok2; refine (toPointS_e l _ _ _ _ hl h20 ((HA.out.later hb3').mono hb3'.size)).mono ?_; rintro e w4 ⟨b4, rfl, hc4, hb4⟩; have ha4 := hc4.at; have hb4' := grew hb3' hb4; have s0 := cell_later hb4 r0; have s1 := cell_later hb4 r1; replace K0 := K0.later hb4; replace K1 := K1.later hb4; clear hc4)
                | (go_at_call 13; refine (toPoint_c _ _ _).mono ?_; rintro e w5 ⟨rfl, hb5⟩; have hb5' := grew hb4' hb5; replace K0 := K0.later hb5; replace K1 := K1.later hb5; have ha5 := (ha4.later hb5).mono hb5.size)
                | (go_at_call 20; refine (tangentsImpl_c l x y _ _ _ _ hl h20 ha5 (cell_later hb5' C0.out)).mono ?_; rw [hE0, hE1]; rintro e w6 ⟨rfl, hb6⟩; have hb6' := grew hb5' hb6; replace K0 := K0.later hb6; replace K1 := K1.later hb6; have k0x := K0.c0; have k0y := K0.c1; have lk0 := K0.lt; have k1x := K1.c0; have k1y := K1.c1; have lk1 := K1.lt; have n60 := cell_later (show Below w6.heap.size w6 ((w6.alloc (.cells #[.int .i64 ex0, .int .i64 ey0] 26)).alloc (.cells #[.int .i64 ex1, .int .i64 ey1] 26)) by go_grown) k1x; have n61 := cell_later (show Below w6.heap.size w6 ((w6.alloc (.cells #[.int .i64 ex0, .int .i64 ey0] 26)).alloc (.cells #[.int .i64 ex1, .int .i64 ey1] 26)) by go_grown) k1y; have G11 := BoxP.new (w6.alloc (.cells #[.int .i64 ex0, .int .i64 ey0] 26)) ex1 ey1; simp only [World.size_alloc] at G11; have n70 := G11.c0; have n71 := G11.c1; have ha6 := (ha5.later hb6).mono hb6.size)
                | (go_at_call 15; clear tk8; refine (eqPoint_c _ _ _ _ _).mono ?_; rw [hQ0]; rintro e w8 ⟨rfl, hb8⟩; have hB8 : Below w6.heap.size w6 w8 := (by go_grown : Below w6.heap.size w6 ((w6.alloc (.cells #[.int .i64 ex0, .int .i64 ey0] 26)).alloc (.cells #[.int .i64 ex1, .int .i64 ey1] 26))).trans (hb8.mono (by go_size)); have m60 := cell_later hb8 n60; have m61 := cell_later hb8 n61; have m70 := cell_later hb8 n70; have m71 := cell_later hb8 n71)
                | (go_at_call 15; refine (eqPoint_c _ _ _ _ _).mono ?_; rw [hQ1]; rintro e w9 ⟨rfl, hb9⟩; have hB9 := hB8.trans (hb9.mono hB8.size); have hb9' := grew hb6' hB9; have ha9 := (ha6.later hB9).mono hB9.size)
                | (go_at_call 12; refine (toPointS_e l _ _ _ _ hl h20 ((HA.out.later hb9').mono hb9'.size)).mono ?_; rintro e w7 ⟨b7, rfl, hc7, hb7⟩; have ha7 := hc7.at; have hb7' := grew hb9' hb7; have ha67 := (ha9.later hb7).mono hb7.size; clear hc7)
                | (go_at_call 16; refine (eqPointS_c l l _ _ _ _ _ _ _ hl hl h20 h20 ha67 ha7).mono ?_; rintro e wA ⟨rfl, hbA⟩))
              go_ret
              exact ⟨rfl, grew hb7' hbA⟩
      · go_simp
        refine hK.out _ _ ?_ (fun hHeld => ?_)
        · (refine keep2 ?_ (by with_reducible assumption); go_grown)
        clear hK K
        try simp only [Act.put, List.setIfInBounds_toArray, List.set_cons_zero, List.set_cons_succ]
        have hlt0 : w.heap.size < w1.heap.size := held_lt (by with_reducible assumption)
        have K0 := BoxP.new w1 0 0
        have hbB0 : Below w1.heap.size w1 (w1.alloc (.cells #[.int .i64 0, .int .i64 0] 26)) := by go_grown
        replace ha1 := (ha1.later hbB0).mono hbB0.size
        generalize w1.heap.size = B0 at K0 hlt0  ⊢
        generalize w1.alloc (.cells #[.int .i64 0, .int .i64 0] 26) = wB0 at *
        refine wpAnyH_ready (rs := [3, 10]) (by kernel_rfl) (by simp) ?_
        refine (AllReadyH.cons (o := { dst := some 22, op := Op.call { callee := Callee.value (Operand.func 13), args := #[Operand.tmp 21], argTypes := #[24] }, type := 26, pos := "exact.go:3770", after := #[{ on := 2, ground := Ground.data }, { on := 1, ground := Ground.chain }], guard := none }) rfl (fun K hK => ?_) (AllReadyH.cons (o := { dst := some 7, op := Op.alloc 26, type := 0, pos := "exact.go:3770", after := #[], guard := none }) rfl (fun K hK => ?_) AllReadyH.nil))
        · go_simp
          refine (toPoint_c _ _ _).mono ?_
          rintro e w2 ⟨rfl, hb2⟩
          go_wp2_with fail
          refine hK.out _ _ ?_ (fun hHeld => ?_)
          · exact keep2 hb2 (by with_reducible assumption)
          clear hK K
          try simp only [Act.put, List.setIfInBounds_toArray, List.set_cons_zero, List.set_cons_succ]
          replace ha1 := (ha1.later hb2).mono hb2.size
          replace K0 := K0.later hb2
          refine wpAnyH_ready (rs := [4, 10]) (by kernel_rfl) (by simp) ?_
          refine (AllReadyH.cons (o := { dst := some 23, op := Op.call { callee := Callee.value (Operand.func 19), args := #[Operand.tmp 20, Operand.tmp 22], argTypes := #[29, 26] }, type := 37, pos := "exact.go:3770", after := #[{ on := 1, ground := Ground.data }, { on := 3, ground := Ground.data }, { on := 3, ground := Ground.chain }], guard := none }) rfl (fun K hK => ?_) (AllReadyH.cons (o := { dst := some 7, op := Op.alloc 26, type := 0, pos := "exact.go:3770", after := #[], guard := none }) rfl (fun K hK => ?_) AllReadyH.nil))
          · go_simp
            refine (tangentsSpec_c l x y _ _ _ _ hl h20 ha1).mono ?_
            rw [hE0, hE1]
            rintro e w3 ⟨rfl, hb3⟩
            go_wp2_with fail
            refine hK.out _ _ ?_ (fun hHeld => ?_)
            · exact keep2 hb3 (by with_reducible assumption)
            clear hK K
            try simp only [Act.put, List.setIfInBounds_toArray, List.set_cons_zero, List.set_cons_succ]
            replace ha1 := (ha1.later hb3).mono hb3.size
            replace K0 := K0.later hb3
            refine wpAnyH_take (i := 5) (oi := { dst := some 18, op := Op.move (Operand.tmp 23), type := 37, pos := "exact.go:3770", after := #[{ on := 4, ground := Ground.data }], guard := none }) (v := ?v47x5) rfl (by kernel_rfl) (by kernel_rfl) (by kernel_rfl) (fun _ _ _ h => h) (Or.inl ⟨by rfl, ?hy47x5⟩) (by with_reducible assumption) ?rest47x5
            case hy47x5 => (intro w hSw; (try dsimp only at hSw); go_simp; try with_reducible rfl)
            case' rest47x5 => (try simp only [Act.put, List.setIfInBounds_toArray, List.set_cons_zero, List.set_cons_succ])
            refine wpAnyH_take (i := 6) (oi := { dst := some 24, op := Op.extract (Operand.tmp 18) 0, type := 26, pos := "exact.go:3770", after := #[{ on := 5, ground := Ground.data }], guard := none }) (v := ?v48x6) rfl (by kernel_rfl) (by kernel_rfl) (by kernel_rfl) (fun _ _ _ h => h) (Or.inl ⟨by rfl, ?hy48x6⟩) (by with_reducible assumption) ?rest48x6
            case hy48x6 => (intro w hSw; (try dsimp only at hSw); go_simp; try with_reducible rfl)
            case' rest48x6 => (try simp only [Act.put, List.setIfInBounds_toArray, List.set_cons_zero, List.set_cons_succ])
            refine wpAnyH_take (i := 7) (oi := { dst := some 25, op := Op.extract (Operand.tmp 18) 1, type := 26, pos := "exact.go:3770", after := #[{ on := 5, ground := Ground.data }, { on := 11, ground := Ground.gcOnly Departure.lateStores }], guard := none }) (v := ?v49x7) rfl (by kernel_rfl) (by kernel_rfl) (by kernel_rfl) (fun _ _ _ h => h) (Or.inl ⟨by rfl, ?hy49x7⟩) (by with_reducible assumption) ?rest49x7
            case hy49x7 => (intro w hSw; (try dsimp only at hSw); go_simp; try with_reducible rfl)
            case' rest49x7 => (try simp only [Act.put, List.setIfInBounds_toArray, List.set_cons_zero, List.set_cons_succ])
            refine wpAnyH_take (i := 8) (oi := { dst := some 26, op := Op.extract (Operand.tmp 18) 2, type := 4, pos := "exact.go:3770", after := #[{ on := 5, ground := Ground.data }, { on := 12, ground := Ground.gcOnly Departure.lateStores }], guard := none }) (v := ?v50x8) rfl (by kernel_rfl) (by kernel_rfl) (by kernel_rfl) (fun _ _ _ h => h) (Or.inl ⟨by rfl, ?hy50x8⟩) (by with_reducible assumption) ?rest50x8
            case hy50x8 => (intro w hSw; (try dsimp only at hSw); go_simp; try with_reducible rfl)
            case' rest50x8 => (try simp only [Act.put, List.setIfInBounds_toArray, List.set_cons_zero, List.set_cons_succ])
            refine wpAnyH_ready (rs := [10]) (by kernel_rfl) (by simp) ?_
            refine (AllReadyH.cons (o := { dst := some 7, op := Op.alloc 26, type := 0, pos := "exact.go:3770", after := #[], guard := none }) rfl (fun K hK => ?_) AllReadyH.nil)
            · go_simp
              refine hK.out _ _ ?_ (fun hHeld => ?_)
              · (refine keep2 ?_ (by with_reducible assumption); go_grown)
              clear hK K
              try simp only [Act.put, List.setIfInBounds_toArray, List.set_cons_zero, List.set_cons_succ]
              have hlt1 : w.heap.size < w3.heap.size := held_lt (by with_reducible assumption)
              have K1 := BoxP.new w3 0 0
              have hbB1 : Below w3.heap.size w3 (w3.alloc (.cells #[.int .i64 0, .int .i64 0] 26)) := by go_grown
              replace ha1 := (ha1.later hbB1).mono hbB1.size
              have hne01 : B0 < w3.heap.size := K0.lt
              replace K0 := K0.later hbB1
              generalize w3.heap.size = B1 at K1 hlt1 hne01 ⊢
              generalize w3.alloc (.cells #[.int .i64 0, .int .i64 0] 26) = wB1 at *
              have f00 := K0.f 0
              have f01 := K0.f 1
              have d00 := K0.c0
              have d01 := K0.c1
              refine wpAnyH_ready (rs := [11]) (by kernel_rfl) (by simp) ?_
              refine AllReadyH.cons (o := { dst := none, op := Op.store 26 (Operand.tmp 6) (Operand.tmp 24), type := 0, pos := "exact.go:3770", after := #[{ on := 9, ground := Ground.data }, { on := 6, ground := Ground.data }, { on := 4, ground := Ground.chain }, { on := 0, ground := Ground.phase }, { on := 1, ground := Ground.phase }, { on := 2, ground := Ground.phase }, { on := 3, ground := Ground.phase }, { on := 4, ground := Ground.phase }, { on := 5, ground := Ground.phase }, { on := 6, ground := Ground.phase }, { on := 7, ground := Ground.textOnly Departure.lateStores }, { on := 8, ground := Ground.textOnly Departure.lateStores }, { on := 9, ground := Ground.phase }, { on := 10, ground := Ground.phase }], guard := none }) rfl (fun K hK => ?_) AllReadyH.nil
              go_simp
              refine hK.out _ _ ?_ (fun hHeld => ?_)
              · exact keepSt (B := B0) hHeld hlt0 _ _
              clear hK K
              try simp only [Act.put, List.setIfInBounds_toArray, List.set_cons_zero, List.set_cons_succ]
              clear f00 f01 d00 d01
              replace K0 := K0.set ex0 ey0
              replace K1 := ((K1.other (B' := B0) (i := 0) (by omega) (.int .i64 ex0)).other (B' := B0) (i := 1) (by omega) (.int .i64 ey0))
              generalize (wB1.setCell ⟨B0, 0, none⟩ (.int .i64 ex0)).setCell ⟨B0, 1, none⟩ (.int .i64 ey0) = wS0 at hHeld K0 K1 ⊢
              have f10 := K1.f 0
              have f11 := K1.f 1
              have d10 := K1.c0
              have d11 := K1.c1
              refine wpAnyH_ready (rs := [12]) (by kernel_rfl) (by simp) ?_
              refine AllReadyH.cons (o := { dst := none, op := Op.store 26 (Operand.tmp 7) (Operand.tmp 25), type := 0, pos := "exact.go:3770", after := #[{ on := 10, ground := Ground.data }, { on := 7, ground := Ground.data }, { on := 11, ground := Ground.chain }, { on := 0, ground := Ground.phase }, { on := 1, ground := Ground.phase }, { on := 2, ground := Ground.phase }, { on := 3, ground := Ground.phase }, { on := 4, ground := Ground.phase }, { on := 5, ground := Ground.phase }, { on := 6, ground := Ground.phase }, { on := 7, ground := Ground.phase }, { on := 8, ground := Ground.textOnly Departure.lateStores }, { on := 9, ground := Ground.phase }, { on := 10, ground := Ground.phase }, { on := 11, ground := Ground.phase }], guard := none }) rfl (fun K hK => ?_) AllReadyH.nil
              go_simp
              refine hK.out _ _ ?_ (fun hHeld => ?_)
              · exact keepSt (B := B1) hHeld hlt1 _ _
              clear hK K
              try simp only [Act.put, List.setIfInBounds_toArray, List.set_cons_zero, List.set_cons_succ]
              clear f10 f11 d10 d11
              replace K1 := K1.set ex1 ey1
              replace K0 := ((K0.other (B' := B1) (i := 0) (by omega) (.int .i64 ex1)).other (B' := B1) (i := 1) (by omega) (.int .i64 ey1))
              generalize (wS0.setCell ⟨B1, 0, none⟩ (.int .i64 ex1)).setCell ⟨B1, 1, none⟩ (.int .i64 ey1) = wS1 at hHeld K0 K1 ⊢
              refine wpAnyH_take (i := 13) (oi := { dst := some 8, op := Op.assign (Operand.tmp 26), type := 4, pos := "exact.go:3770", after := #[{ on := 8, ground := Ground.data }, { on := 12, ground := Ground.chain }, { on := 0, ground := Ground.phase }, { on := 1, ground := Ground.phase }, { on := 2, ground := Ground.phase }, { on := 3, ground := Ground.phase }, { on := 4, ground := Ground.phase }, { on := 5, ground := Ground.phase }, { on := 6, ground := Ground.phase }, { on := 7, ground := Ground.phase }, { on := 8, ground := Ground.phase }, { on := 9, ground := Ground.phase }, { on := 10, ground := Ground.phase }, { on := 11, ground := Ground.phase }, { on := 12, ground := Ground.phase }], guard := none }) (v := ?v51x13) rfl (by kernel_rfl) (by kernel_rfl) (by kernel_rfl) (fun _ _ _ h => h) (Or.inl ⟨by rfl, ?hy51x13⟩) (by with_reducible assumption) ?rest51x13
              case hy51x13 => (intro w hSw; (try dsimp only at hSw); go_simp; try with_reducible rfl)
              case' rest51x13 => (try simp only [Act.put, List.setIfInBounds_toArray, List.set_cons_zero, List.set_cons_succ])
              refine wpAnyH_done (by kernel_rfl) ?_ _
              obtain ⟨r0, r1, hb3'⟩ := hHeld
              go_wp2_with (first
                | (go_at_call 12; clear tok2; refine (toPointS_e l _ _ _ _ hl h20 ((HA.out.later hb3').mono hb3'.size)).mono ?_; rintro e w4 ⟨b4, rfl, hc4, hb4⟩; have ha4 := hc4.at; have hb4' := grew hb3' hb4; have s0 := cell_later hb4 r0; have s1 := cell_later hb4 r1; replace K0 := K0.later hb4; replace K1 := K1.later hb4; clear hc4)
                | (go_at_call 13; refine (toPoint_c _ _ _).mono ?_; rintro e w5 ⟨rfl, hb5⟩; have hb5' := grew hb4' hb5; replace K0 := K0.later hb5; replace K1 := K1.later hb5; have ha5 := (ha4.later hb5).mono hb5.size)
                | (go_at_call 20; refine (tangentsImpl_c l x y _ _ _ _ hl h20 ha5 (cell_later hb5' C0.out)).mono ?_; rw [hE0, hE1]; rintro e w6 ⟨rfl, hb6⟩; have hb6' := grew hb5' hb6; replace K0 := K0.later hb6; replace K1 := K1.later hb6; have k0x := K0.c0; have k0y := K0.c1; have lk0 := K0.lt; have k1x := K1.c0; have k1y := K1.c1; have lk1 := K1.lt; have n60 := cell_later (show Below w6.heap.size w6 ((w6.alloc (.cells #[.int .i64 ex0, .int .i64 ey0] 26)).alloc (.cells #[.int .i64 ex1, .int .i64 ey1] 26)) by go_grown) k1x; have n61 := cell_later (show Below w6.heap.size w6 ((w6.alloc (.cells #[.int .i64 ex0, .int .i64 ey0] 26)).alloc (.cells #[.int .i64 ex1, .int .i64 ey1] 26)) by go_grown) k1y; have G11 := BoxP.new (w6.alloc (.cells #[.int .i64 ex0, .int .i64 ey0] 26)) ex1 ey1; simp only [World.size_alloc] at G11; have n70 := G11.c0; have n71 := G11.c1; have ha6 := (ha5.later hb6).mono hb6.size)
                | (go_at_call 15; clear tk8; refine (eqPoint_c _ _ _ _ _).mono ?_; rw [hQ0]; rintro e w8 ⟨rfl, hb8⟩; have hB8 : Below w6.heap.size w6 w8 := (by go_grown : Below w6.heap.size w6 ((w6.alloc (.cells #[.int .i64 ex0, .int .i64 ey0] 26)).alloc (.cells #[.int .i64 ex1, .int .i64 ey1] 26))).trans (hb8.mono (by go_size)); have m60 := cell_later hb8 n60; have m61 := cell_later hb8 n61; have m70 := cell_later hb8 n70; have m71 := cell_later hb8 n71)
                | (go_at_call 15; refine (eqPoint_c _ _ _ _ _).mono ?_; rw [hQ1]; rintro e w9 ⟨rfl, hb9⟩; have hB9 := hB8.trans (hb9.mono hB8.size); have hb9' := grew hb6' hB9; have ha9 := (ha6.later hB9).mono hB9.size)
                | (go_at_call 12; refine (toPointS_e l _ _ _ _ hl h20 ((HA.out.later hb9').mono hb9'.size)).mono ?_; rintro e w7 ⟨b7, rfl, hc7, hb7⟩; have ha7 := hc7.at; have hb7' := grew hb9' hb7; have ha67 := (ha9.later hb7).mono hb7.size; clear hc7)
                | (go_at_call 16; refine (eqPointS_c l l _ _ _ _ _ _ _ hl hl h20 h20 ha67 ha7).mono ?_; rintro e wA ⟨rfl, hbA⟩))
              go_ret
              exact ⟨rfl, grew hb7' hbA⟩
          · go_simp
            refine hK.out _ _ ?_ (fun hHeld => ?_)
            · (refine keep2 ?_ (by with_reducible assumption); go_grown)
            clear hK K
            try simp only [Act.put, List.setIfInBounds_toArray, List.set_cons_zero, List.set_cons_succ]
            have hlt1 : w.heap.size < w2.heap.size := held_lt (by with_reducible assumption)
            have K1 := BoxP.new w2 0 0
            have hbB1 : Below w2.heap.size w2 (w2.alloc (.cells #[.int .i64 0, .int .i64 0] 26)) := by go_grown
            replace ha1 := (ha1.later hbB1).mono hbB1.size
            have hne01 : B0 < w2.heap.size := K0.lt
            replace K0 := K0.later hbB1
            generalize w2.heap.size = B1 at K1 hlt1 hne01 ⊢
            generalize w2.alloc (.cells #[.int .i64 0, .int .i64 0] 26) = wB1 at *
            refine wpAnyH_ready (rs := [4]) (by kernel_rfl) (by simp) ?_
            refine (AllReadyH.cons (o := { dst := some 23, op := Op.call { callee := Callee.value (Operand.func 19), args := #[Operand.tmp 20, Operand.tmp 22], argTypes := #[29, 26] }, type := 37, pos := "exact.go:3770", after := #[{ on := 1, ground := Ground.data }, { on := 3, ground := Ground.data }, { on := 3, ground := Ground.chain }], guard := none }) rfl (fun K hK => ?_) AllReadyH.nil)
            · go_simp
              refine (tangentsSpec_c l x y _ _ _ _ hl h20 ha1).mono ?_
              rw [hE0, hE1]
              rintro e w3 ⟨rfl, hb3⟩
              go_wp2_with fail
              refine hK.out _ _ ?_ (fun hHeld => ?_)
              · exact keep2 hb3 (by with_reducible assumption)
              clear hK K
              try simp only [Act.put, List.setIfInBounds_toArray, List.set_cons_zero, List.set_cons_succ]
              replace ha1 := (ha1.later hb3).mono hb3.size
              replace K0 := K0.later hb3
              replace K1 := K1.later hb3
              refine wpAnyH_take (i := 5) (oi := { dst := some 18, op := Op.move (Operand.tmp 23), type := 37, pos := "exact.go:3770", after := #[{ on := 4, ground := Ground.data }], guard := none }) (v := ?v52x5) rfl (by kernel_rfl) (by kernel_rfl) (by kernel_rfl) (fun _ _ _ h => h) (Or.inl ⟨by rfl, ?hy52x5⟩) (by with_reducible assumption) ?rest52x5
              case hy52x5 => (intro w hSw; (try dsimp only at hSw); go_simp; try with_reducible rfl)
              case' rest52x5 => (try simp only [Act.put, List.setIfInBounds_toArray, List.set_cons_zero, List.set_cons_succ])
              refine wpAnyH_take (i := 6) (oi := { dst := some 24, op := Op.extract (Operand.tmp 18) 0, type := 26, pos := "exact.go:3770", after := #[{ on := 5, ground := Ground.data }], guard := none }) (v := ?v53x6) rfl (by kernel_rfl) (by kernel_rfl) (by kernel_rfl) (fun _ _ _ h => h) (Or.inl ⟨by rfl, ?hy53x6⟩) (by with_reducible assumption) ?rest53x6
              case hy53x6 => (intro w hSw; (try dsimp only at hSw); go_simp; try with_reducible rfl)
              case' rest53x6 => (try simp only [Act.put, List.setIfInBounds_toArray, List.set_cons_zero, List.set_cons_succ])
              refine wpAnyH_take (i := 7) (oi := { dst := some 25, op := Op.extract (Operand.tmp 18) 1, type := 26, pos := "exact.go:3770", after := #[{ on := 5, ground := Ground.data }, { on := 11, ground := Ground.gcOnly Departure.lateStores }], guard := none }) (v := ?v54x7) rfl (by kernel_rfl) (by kernel_rfl) (by kernel_rfl) (fun _ _ _ h => h) (Or.inl ⟨by rfl, ?hy54x7⟩) (by with_reducible assumption) ?rest54x7
              case hy54x7 => (intro w hSw; (try dsimp only at hSw); go_simp; try with_reducible rfl)
              case' rest54x7 => (try simp only [Act.put, List.setIfInBounds_toArray, List.set_cons_zero, List.set_cons_succ])
              refine wpAnyH_take (i := 8) (oi := { dst := some 26, op := Op.extract (Operand.tmp 18) 2, type := 4, pos := "exact.go:3770", after := #[{ on := 5, ground := Ground.data }, { on := 12, ground := Ground.gcOnly Departure.lateStores }], guard := none }) (v := ?v55x8) rfl (by kernel_rfl) (by kernel_rfl) (by kernel_rfl) (fun _ _ _ h => h) (Or.inl ⟨by rfl, ?hy55x8⟩) (by with_reducible assumption) ?rest55x8
              case hy55x8 => (intro w hSw; (try dsimp only at hSw); go_simp; try with_reducible rfl)
              case' rest55x8 => (try simp only [Act.put, List.setIfInBounds_toArray, List.set_cons_zero, List.set_cons_succ])
              have f00 := K0.f 0
              have f01 := K0.f 1
              have d00 := K0.c0
              have d01 := K0.c1
              refine wpAnyH_ready (rs := [11]) (by kernel_rfl) (by simp) ?_
              refine AllReadyH.cons (o := { dst := none, op := Op.store 26 (Operand.tmp 6) (Operand.tmp 24), type := 0, pos := "exact.go:3770", after := #[{ on := 9, ground := Ground.data }, { on := 6, ground := Ground.data }, { on := 4, ground := Ground.chain }, { on := 0, ground := Ground.phase }, { on := 1, ground := Ground.phase }, { on := 2, ground := Ground.phase }, { on := 3, ground := Ground.phase }, { on := 4, ground := Ground.phase }, { on := 5, ground := Ground.phase }, { on := 6, ground := Ground.phase }, { on := 7, ground := Ground.textOnly Departure.lateStores }, { on := 8, ground := Ground.textOnly Departure.lateStores }, { on := 9, ground := Ground.phase }, { on := 10, ground := Ground.phase }], guard := none }) rfl (fun K hK => ?_) AllReadyH.nil
              go_simp
              refine hK.out _ _ ?_ (fun hHeld => ?_)
              · exact keepSt (B := B0) hHeld hlt0 _ _
              clear hK K
              try simp only [Act.put, List.setIfInBounds_toArray, List.set_cons_zero, List.set_cons_succ]
              clear f00 f01 d00 d01
              replace K0 := K0.set ex0 ey0
              replace K1 := ((K1.other (B' := B0) (i := 0) (by omega) (.int .i64 ex0)).other (B' := B0) (i := 1) (by omega) (.int .i64 ey0))
              generalize (w3.setCell ⟨B0, 0, none⟩ (.int .i64 ex0)).setCell ⟨B0, 1, none⟩ (.int .i64 ey0) = wS0 at hHeld K0 K1 ⊢
              have f10 := K1.f 0
              have f11 := K1.f 1
              have d10 := K1.c0
              have d11 := K1.c1
              refine wpAnyH_ready (rs := [12]) (by kernel_rfl) (by simp) ?_
              refine AllReadyH.cons (o := { dst := none, op := Op.store 26 (Operand.tmp 7) (Operand.tmp 25), type := 0, pos := "exact.go:3770", after := #[{ on := 10, ground := Ground.data }, { on := 7, ground := Ground.data }, { on := 11, ground := Ground.chain }, { on := 0, ground := Ground.phase }, { on := 1, ground := Ground.phase }, { on := 2, ground := Ground.phase }, { on := 3, ground := Ground.phase }, { on := 4, ground := Ground.phase }, { on := 5, ground := Ground.phase }, { on := 6, ground := Ground.phase }, { on := 7, ground := Ground.phase }, { on := 8, ground := Ground.textOnly Departure.lateStores }, { on := 9, ground := Ground.phase }, { on := 10, ground := Ground.phase }, { on := 11, ground := Ground.phase }], guard := none }) rfl (fun K hK => ?_) AllReadyH.nil
              go_simp
              refine hK.out _ _ ?_ (fun hHeld => ?_)
              · exact keepSt (B := B1) hHeld hlt1 _ _
              clear hK K
              try simp only [Act.put, List.setIfInBounds_toArray, List.set_cons_zero, List.set_cons_succ]
              clear f10 f11 d10 d11
              replace K1 := K1.set ex1 ey1
              replace K0 := ((K0.other (B' := B1) (i := 0) (by omega) (.int .i64 ex1)).other (B' := B1) (i := 1) (by omega) (.int .i64 ey1))
              generalize (wS0.setCell ⟨B1, 0, none⟩ (.int .i64 ex1)).setCell ⟨B1, 1, none⟩ (.int .i64 ey1) = wS1 at hHeld K0 K1 ⊢
              refine wpAnyH_take (i := 13) (oi := { dst := some 8, op := Op.assign (Operand.tmp 26), type := 4, pos := "exact.go:3770", after := #[{ on := 8, ground := Ground.data }, { on := 12, ground := Ground.chain }, { on := 0, ground := Ground.phase }, { on := 1, ground := Ground.phase }, { on := 2, ground := Ground.phase }, { on := 3, ground := Ground.phase }, { on := 4, ground := Ground.phase }, { on := 5, ground := Ground.phase }, { on := 6, ground := Ground.phase }, { on := 7, ground := Ground.phase }, { on := 8, ground := Ground.phase }, { on := 9, ground := Ground.phase }, { on := 10, ground := Ground.phase }, { on := 11, ground := Ground.phase }, { on := 12, ground := Ground.phase }], guard := none }) (v := ?v56x13) rfl (by kernel_rfl) (by kernel_rfl) (by kernel_rfl) (fun _ _ _ h => h) (Or.inl ⟨by rfl, ?hy56x13⟩) (by with_reducible assumption) ?rest56x13
              case hy56x13 => (intro w hSw; (try dsimp only at hSw); go_simp; try with_reducible rfl)
              case' rest56x13 => (try simp only [Act.put, List.setIfInBounds_toArray, List.set_cons_zero, List.set_cons_succ])
              refine wpAnyH_done (by kernel_rfl) ?_ _
              obtain ⟨r0, r1, hb3'⟩ := hHeld
              go_wp2_with (first
                | (go_at_call 12; clear tok2; refine (toPointS_e l _ _ _ _ hl h20 ((HA.out.later hb3').mono hb3'.size)).mono ?_; rintro e w4 ⟨b4, rfl, hc4, hb4⟩; have ha4 := hc4.at; have hb4' := grew hb3' hb4; have s0 := cell_later hb4 r0; have s1 := cell_later hb4 r1; replace K0 := K0.later hb4; replace K1 := K1.later hb4; clear hc4)
                | (go_at_call 13; refine (toPoint_c _ _ _).mono ?_; rintro e w5 ⟨rfl, hb5⟩; have hb5' := grew hb4' hb5; replace K0 := K0.later hb5; replace K1 := K1.later hb5; have ha5 := (ha4.later hb5).mono hb5.size)
                | (go_at_call 20; refine (tangentsImpl_c l x y _ _ _ _ hl h20 ha5 (cell_later hb5' C0.out)).mono ?_; rw [hE0, hE1]; rintro e w6 ⟨rfl, hb6⟩; have hb6' := grew hb5' hb6; replace K0 := K0.later hb6; replace K1 := K1.later hb6; have k0x := K0.c0; have k0y := K0.c1; have lk0 := K0.lt; have k1x := K1.c0; have k1y := K1.c1; have lk1 := K1.lt; have n60 := cell_later (show Below w6.heap.size w6 ((w6.alloc (.cells #[.int .i64 ex0, .int .i64 ey0] 26)).alloc (.cells #[.int .i64 ex1, .int .i64 ey1] 26)) by go_grown) k1x; have n61 := cell_later (show Below w6.heap.size w6 ((w6.alloc (.cells #[.int .i64 ex0, .int .i64 ey0] 26)).alloc (.cells #[.int .i64 ex1, .int .i64 ey1] 26)) by go_grown) k1y; have G11 := BoxP.new (w6.alloc (.cells #[.int .i64 ex0, .int .i64 ey0] 26)) ex1 ey1; simp only [World.size_alloc] at G11; have n70 := G11.c0; have n71 := G11.c1; have ha6 := (ha5.later hb6).mono hb6.size)
                | (go_at_call 15; clear tk8; refine (eqPoint_c _ _ _ _ _).mono ?_; rw [hQ0]; rintro e w8 ⟨rfl, hb8⟩; have hB8 : Below w6.heap.size w6 w8 := (by go_grown : Below w6.heap.size w6 ((w6.alloc (.cells #[.int .i64 ex0, .int .i64 ey0] 26)).alloc (.cells #[.int .i64 ex1, .int .i64 ey1] 26))).trans (hb8.mono (by go_size)); have m60 := cell_later hb8 n60; have m61 := cell_later hb8 n61; have m70 := cell_later hb8 n70; have m71 := cell_later hb8 n71)
                | (go_at_call 15; refine (eqPoint_c _ _ _ _ _).mono ?_; rw [hQ1]; rintro e w9 ⟨rfl, hb9⟩; have hB9 := hB8.trans (hb9.mono hB8.size); have hb9' := grew hb6' hB9; have ha9 := (ha6.later hB9).mono hB9.size)
                | (go_at_call 12; refine (toPointS_e l _ _ _ _ hl h20 ((HA.out.later hb9').mono hb9'.size)).mono ?_; rintro e w7 ⟨b7, rfl, hc7, hb7⟩; have ha7 := hc7.at; have hb7' := grew hb9' hb7; have ha67 := (ha9.later hb7).mono hb7.size; clear hc7)
                | (go_at_call 16; refine (eqPointS_c l l _ _ _ _ _ _ _ hl hl h20 h20 ha67 ha7).mono ?_; rintro e wA ⟨rfl, hbA⟩))
              go_ret
              exact ⟨rfl, grew hb7' hbA⟩
        · go_simp
          refine hK.out _ _ ?_ (fun hHeld => ?_)
          · (refine keep2 ?_ (by with_reducible assumption); go_grown)
          clear hK K
          try simp only [Act.put, List.setIfInBounds_toArray, List.set_cons_zero, List.set_cons_succ]
          have hlt1 : w.heap.size < wB0.heap.size := held_lt (by with_reducible assumption)
          have K1 := BoxP.new wB0 0 0
          have hbB1 : Below wB0.heap.size wB0 (wB0.alloc (.cells #[.int .i64 0, .int .i64 0] 26)) := by go_grown
          replace ha1 := (ha1.later hbB1).mono hbB1.size
          have hne01 : B0 < wB0.heap.size := K0.lt
          replace K0 := K0.later hbB1
          generalize wB0.heap.size = B1 at K1 hlt1 hne01 ⊢
          generalize wB0.alloc (.cells #[.int .i64 0, .int .i64 0] 26) = wB1 at *
          refine wpAnyH_ready (rs := [3]) (by kernel_rfl) (by simp) ?_
          refine (AllReadyH.cons (o := { dst := some 22, op := Op.call { callee := Callee.value (Operand.func 13), args := #[Operand.tmp 21], argTypes := #[24] }, type := 26, pos := "exact.go:3770", after := #[{ on := 2, ground := Ground.data }, { on := 1, ground := Ground.chain }], guard := none }) rfl (fun K hK => ?_) AllReadyH.nil)
          · go_simp
            refine (toPoint_c _ _ _).mono ?_
            rintro e w2 ⟨rfl, hb2⟩
            go_wp2_with fail
            refine hK.out _ _ ?_ (fun hHeld => ?_)
            · exact keep2 hb2 (by with_reducible assumption)
            clear hK K
            try simp only [Act.put, List.setIfInBounds_toArray, List.set_cons_zero, List.set_cons_succ]
            replace ha1 := (ha1.later hb2).mono hb2.size
            replace K0 := K0.later hb2
            replace K1 := K1.later hb2
            refine wpAnyH_ready (rs := [4]) (by kernel_rfl) (by simp) ?_
            refine (AllReadyH.cons (o := { dst := some 23, op := Op.call { callee := Callee.value (Operand.func 19), args := #[Operand.tmp 20, Operand.tmp 22], argTypes := #[29, 26] }, type := 37, pos := "exact.go:3770", after := #[{ on := 1, ground := Ground.data }, { on := 3, ground := Ground.data }, { on := 3, ground := Ground.chain }], guard := none }) rfl (fun K hK => ?_) AllReadyH.nil)
            · go_simp
              refine (tangentsSpec_c l x y _ _ _ _ hl h20 ha1).mono ?_
              rw [hE0, hE1]
              rintro e w3 ⟨rfl, hb3⟩
              go_wp2_with fail
              refine hK.out _ _ ?_ (fun hHeld => ?_)
              · exact keep2 hb3 (by with_reducible assumption)
              clear hK K
              try simp only [Act.put, List.setIfInBounds_toArray, List.set_cons_zero, List.set_cons_succ]
              replace ha1 := (ha1.later hb3).mono hb3.size
              replace K0 := K0.later hb3
              replace K1 := K1.later hb3
              refine wpAnyH_take (i := 5) (oi := { dst := some 18, op := Op.move (Operand.tmp 23), type := 37, pos := "exact.go:3770", after := #[{ on := 4, ground := Ground.data }], guard := none }) (v := ?v57x5) rfl (by kernel_rfl) (by kernel_rfl) (by kernel_rfl) (fun _ _ _ h => h) (Or.inl ⟨by rfl, ?hy57x5⟩) (by with_reducible assumption) ?rest57x5
              case hy57x5 => (intro w hSw; (try dsimp only at hSw); go_simp; try with_reducible rfl)
              case' rest57x5 => (try simp only [Act.put, List.setIfInBounds_toArray, List.set_cons_zero, List.set_cons_succ])
              refine wpAnyH_take (i := 6) (oi := { dst := some 24, op := Op.extract (Operand.tmp 18) 0, type := 26, pos := "exact.go:3770", after := #[{ on := 5, ground := Ground.data }], guard := none }) (v := ?v58x6) rfl (by kernel_rfl) (by kernel_rfl) (by kernel_rfl) (fun _ _ _ h => h) (Or.inl ⟨by rfl, ?hy58x6⟩) (by with_reducible assumption) ?rest58x6
              case hy58x6 => (intro w hSw; (try dsimp only at hSw); go_simp; try with_reducible rfl)
              case' rest58x6 => (try simp only [Act.put, List.setIfInBounds_toArray, List.set_cons_zero, List.set_cons_succ])
              refine wpAnyH_take (i := 7) (oi := { dst := some 25, op := Op.extract (Operand.tmp 18) 1, type := 26, pos := "exact.go:3770", after := #[{ on := 5, ground := Ground.data }, { on := 11, ground := Ground.gcOnly Departure.lateStores }], guard := none }) (v := ?v59x7) rfl (by kernel_rfl) (by kernel_rfl) (by kernel_rfl) (fun _ _ _ h => h) (Or.inl ⟨by rfl, ?hy59x7⟩) (by with_reducible assumption) ?rest59x7
              case hy59x7 => (intro w hSw; (try dsimp only at hSw); go_simp; try with_reducible rfl)
              case' rest59x7 => (try simp only [Act.put, List.setIfInBounds_toArray, List.set_cons_zero, List.set_cons_succ])
              refine wpAnyH_take (i := 8) (oi := { dst := some 26, op := Op.extract (Operand.tmp 18) 2, type := 4, pos := "exact.go:3770", after := #[{ on := 5, ground := Ground.data }, { on := 12, ground := Ground.gcOnly Departure.lateStores }], guard := none }) (v := ?v60x8) rfl (by kernel_rfl) (by kernel_rfl) (by kernel_rfl) (fun _ _ _ h => h) (Or.inl ⟨by rfl, ?hy60x8⟩) (by with_reducible assumption) ?rest60x8
              case hy60x8 => (intro w hSw; (try dsimp only at hSw); go_simp; try with_reducible rfl)
              case' rest60x8 => (try simp only [Act.put, List.setIfInBounds_toArray, List.set_cons_zero, List.set_cons_succ])
              have f00 := K0.f 0
              have f01 := K0.f 1
              have d00 := K0.c0
              have d01 := K0.c1
              refine wpAnyH_ready (rs := [11]) (by kernel_rfl) (by simp) ?_
              refine AllReadyH.cons (o := { dst := none, op := Op.store 26 (Operand.tmp 6) (Operand.tmp 24), type := 0, pos := "exact.go:3770", after := #[{ on := 9, ground := Ground.data }, { on := 6, ground := Ground.data }, { on := 4, ground := Ground.chain }, { on := 0, ground := Ground.phase }, { on := 1, ground := Ground.phase }, { on := 2, ground := Ground.phase }, { on := 3, ground := Ground.phase }, { on := 4, ground := Ground.phase }, { on := 5, ground := Ground.phase }, { on := 6, ground := Ground.phase }, { on := 7, ground := Ground.textOnly Departure.lateStores }, { on := 8, ground := Ground.textOnly Departure.lateStores }, { on := 9, ground := Ground.phase }, { on := 10, ground := Ground.phase }], guard := none }) rfl (fun K hK => ?_) AllReadyH.nil
              go_simp
              refine hK.out _ _ ?_ (fun hHeld => ?_)
              · exact keepSt (B := B0) hHeld hlt0 _ _
              clear hK K
              try simp only [Act.put, List.setIfInBounds_toArray, List.set_cons_zero, List.set_cons_succ]
              clear f00 f01 d00 d01
              replace K0 := K0.set ex0 ey0
              replace K1 := ((K1.other (B' := B0) (i := 0) (by omega) (.int .i64 ex0)).other (B' := B0) (i := 1) (by omega) (.int .i64 ey0))
              generalize (w3.setCell ⟨B0, 0, none⟩ (.int .i64 ex0)).setCell ⟨B0, 1, none⟩ (.int .i64 ey0) = wS0 at hHeld K0 K1 ⊢
              have f10 := K1.f 0
              have f11 := K1.f 1
              have d10 := K1.c0
              have d11 := K1.c1
              refine wpAnyH_ready (rs := [12]) (by kernel_rfl) (by simp) ?_
              refine AllReadyH.cons (o := { dst := none, op := Op.store 26 (Operand.tmp 7) (Operand.tmp 25), type := 0, pos := "exact.go:3770", after := #[{ on := 10, ground := Ground.data }, { on := 7, ground := Ground.data }, { on := 11, ground := Ground.chain }, { on := 0, ground := Ground.phase }, { on := 1, ground := Ground.phase }, { on := 2, ground := Ground.phase }, { on := 3, ground := Ground.phase }, { on := 4, ground := Ground.phase }, { on := 5, ground := Ground.phase }, { on := 6, ground := Ground.phase }, { on := 7, ground := Ground.phase }, { on := 8, ground := Ground.textOnly Departure.lateStores }, { on := 9, ground := Ground.phase }, { on := 10, ground := Ground.phase }, { on := 11, ground := Ground.phase }], guard := none }) rfl (fun K hK => ?_) AllReadyH.nil
              go_simp
              refine hK.out _ _ ?_ (fun hHeld => ?_)
              · exact keepSt (B := B1) hHeld hlt1 _ _
              clear hK K
              try simp only [Act.put, List.setIfInBounds_toArray, List.set_cons_zero, List.set_cons_succ]
              clear f10 f11 d10 d11
              replace K1 := K1.set ex1 ey1
              replace K0 := ((K0.other (B' := B1) (i := 0) (by omega) (.int .i64 ex1)).other (B' := B1) (i := 1) (by omega) (.int .i64 ey1))
              generalize (wS0.setCell ⟨B1, 0, none⟩ (.int .i64 ex1)).setCell ⟨B1, 1, none⟩ (.int .i64 ey1) = wS1 at hHeld K0 K1 ⊢
              refine wpAnyH_take (i := 13) (oi := { dst := some 8, op := Op.assign (Operand.tmp 26), type := 4, pos := "exact.go:3770", after := #[{ on := 8, ground := Ground.data }, { on := 12, ground := Ground.chain }, { on := 0, ground := Ground.phase }, { on := 1, ground := Ground.phase }, { on := 2, ground := Ground.phase }, { on := 3, ground := Ground.phase }, { on := 4, ground := Ground.phase }, { on := 5, ground := Ground.phase }, { on := 6, ground := Ground.phase }, { on := 7, ground := Ground.phase }, { on := 8, ground := Ground.phase }, { on := 9, ground := Ground.phase }, { on := 10, ground := Ground.phase }, { on := 11, ground := Ground.phase }, { on := 12, ground := Ground.phase }], guard := none }) (v := ?v61x13) rfl (by kernel_rfl) (by kernel_rfl) (by kernel_rfl) (fun _ _ _ h => h) (Or.inl ⟨by rfl, ?hy61x13⟩) (by with_reducible assumption) ?rest61x13
              case hy61x13 => (intro w hSw; (try dsimp only at hSw); go_simp; try with_reducible rfl)
              case' rest61x13 => (try simp only [Act.put, List.setIfInBounds_toArray, List.set_cons_zero, List.set_cons_succ])
              refine wpAnyH_done (by kernel_rfl) ?_ _
              obtain ⟨r0, r1, hb3'⟩ := hHeld
              go_wp2_with (first
                | (go_at_call 12; clear tok2; refine (toPointS_e l _ _ _ _ hl h20 ((HA.out.later hb3').mono hb3'.size)).mono ?_; rintro e w4 ⟨b4, rfl, hc4, hb4⟩; have ha4 := hc4.at; have hb4' := grew hb3' hb4; have s0 := cell_later hb4 r0; have s1 := cell_later hb4 r1; replace K0 := K0.later hb4; replace K1 := K1.later hb4; clear hc4)
                | (go_at_call 13; refine (toPoint_c _ _ _).mono ?_; rintro e w5 ⟨rfl, hb5⟩; have hb5' := grew hb4' hb5; replace K0 := K0.later hb5; replace K1 := K1.later hb5; have ha5 := (ha4.later hb5).mono hb5.size)
                | (go_at_call 20; refine (tangentsImpl_c l x y _ _ _ _ hl h20 ha5 (cell_later hb5' C0.out)).mono ?_; rw [hE0, hE1]; rintro e w6 ⟨rfl, hb6⟩; have hb6' := grew hb5' hb6; replace K0 := K0.later hb6; replace K1 := K1.later hb6; have k0x := K0.c0; have k0y := K0.c1; have lk0 := K0.lt; have k1x := K1.c0; have k1y := K1.c1; have lk1 := K1.lt; have n60 := cell_later (show Below w6.heap.size w6 ((w6.alloc (.cells #[.int .i64 ex0, .int .i64 ey0] 26)).alloc (.cells #[.int .i64 ex1, .int .i64 ey1] 26)) by go_grown) k1x; have n61 := cell_later (show Below w6.heap.size w6 ((w6.alloc (.cells #[.int .i64 ex0, .int .i64 ey0] 26)).alloc (.cells #[.int .i64 ex1, .int .i64 ey1] 26)) by go_grown) k1y; have G11 := BoxP.new (w6.alloc (.cells #[.int .i64 ex0, .int .i64 ey0] 26)) ex1 ey1; simp only [World.size_alloc] at G11; have n70 := G11.c0; have n71 := G11.c1; have ha6 := (ha5.later hb6).mono hb6.size)
                | (go_at_call 15; clear tk8; refine (eqPoint_c _ _ _ _ _).mono ?_; rw [hQ0]; rintro e w8 ⟨rfl, hb8⟩; have hB8 : Below w6.heap.size w6 w8 := (by go_grown : Below w6.heap.size w6 ((w6.alloc (.cells #[.int .i64 ex0, .int .i64 ey0] 26)).alloc (.cells #[.int .i64 ex1, .int .i64 ey1] 26))).trans (hb8.mono (by go_size)); have m60 := cell_later hb8 n60; have m61 := cell_later hb8 n61; have m70 := cell_later hb8 n70; have m71 := cell_later hb8 n71)
                | (go_at_call 15; refine (eqPoint_c _ _ _ _ _).mono ?_; rw [hQ1]; rintro e w9 ⟨rfl, hb9⟩; have hB9 := hB8.trans (hb9.mono hB8.size); have hb9' := grew hb6' hB9; have ha9 := (ha6.later hB9).mono hB9.size)
                | (go_at_call 12; refine (toPointS_e l _ _ _ _ hl h20 ((HA.out.later hb9').mono hb9'.size)).mono ?_; rintro e w7 ⟨b7, rfl, hc7, hb7⟩; have ha7 := hc7.at; have hb7' := grew hb9' hb7; have ha67 := (ha9.later hb7).mono hb7.size; clear hc7)
                | (go_at_call 16; refine (eqPointS_c l l _ _ _ _ _ _ _ hl hl h20 h20 ha67 ha7).mono ?_; rintro e wA ⟨rfl, hbA⟩))
              go_ret
              exact ⟨rfl, grew hb7' hbA⟩
      · go_simp
        refine hK.out _ _ ?_ (fun hHeld => ?_)
        · (refine keep2 ?_ (by with_reducible assumption); go_grown)
        clear hK K
        try simp only [Act.put, List.setIfInBounds_toArray, List.set_cons_zero, List.set_cons_succ]
        have hlt1 : w.heap.size < w1.heap.size := held_lt (by with_reducible assumption)
        have K1 := BoxP.new w1 0 0
        have hbB1 : Below w1.heap.size w1 (w1.alloc (.cells #[.int .i64 0, .int .i64 0] 26)) := by go_grown
        replace ha1 := (ha1.later hbB1).mono hbB1.size
        generalize w1.heap.size = B1 at K1 hlt1  ⊢
        generalize w1.alloc (.cells #[.int .i64 0, .int .i64 0] 26) = wB1 at *
        refine wpAnyH_ready (rs := [3, 9]) (by kernel_rfl) (by simp) ?_
        refine (AllReadyH.cons (o := { dst := some 22, op := Op.call { callee := Callee.value (Operand.func 13), args := #[Operand.tmp 21], argTypes := #[24] }, type := 26, pos := "exact.go:3770", after := #[{ on := 2, ground := Ground.data }, { on := 1, ground := Ground.chain }], guard := none }) rfl (fun K hK => ?_) (AllReadyH.cons (o := { dst := some 6, op := Op.alloc 26, type := 0, pos := "exact.go:3770", after := #[], guard := none }) rfl (fun K hK => ?_) AllReadyH.nil))
        · go_simp
          refine (toPoint_c _ _ _).mono ?_
          rintro e w2 ⟨rfl, hb2⟩
          go_wp2_with fail
          refine hK.out _ _ ?_ (fun hHeld => ?_)
          · exact keep2 hb2 (by with_reducible assumption)
          clear hK K
          try simp only [Act.put, List.setIfInBounds_toArray, List.set_cons_zero, List.set_cons_succ]
          replace ha1 := (ha1.later hb2).mono hb2.size
          replace K1 := K1.later hb2
          refine wpAnyH_ready (rs := [4, 9]) (by kernel_rfl) (by simp) ?_
          refine (AllReadyH.cons (o := { dst := some 23, op := Op.call { callee := Callee.value (Operand.func 19), args := #[Operand.tmp 20, Operand.tmp 22], argTypes := #[29, 26] }, type := 37, pos := "exact.go:3770", after := #[{ on := 1, ground := Ground.data }, { on := 3, ground := Ground.data }, { on := 3, ground := Ground.chain }], guard := none }) rfl (fun K hK => ?_) (AllReadyH.cons (o := { dst := some 6, op := Op.alloc 26, type := 0, pos := "exact.go:3770", after := #[], guard := none }) rfl (fun K hK => ?_) AllReadyH.nil))
          · go_simp
            refine (tangentsSpec_c l x y _ _ _ _ hl h20 ha1).mono ?_
            rw [hE0, hE1]
            rintro e w3 ⟨rfl, hb3⟩
            go_wp2_with fail
            refine hK.out _ _ ?_ (fun hHeld => ?_)
            · exact keep2 hb3 (by with_reducible assumption)
            clear hK K
            try simp only [Act.put, List.setIfInBounds_toArray, List.set_cons_zero, List.set_cons_succ]
            replace ha1 := (ha1.later hb3).mono hb3.size
            replace K1 := K1.later hb3
            refine wpAnyH_take (i := 5) (oi := { dst := some 18, op := Op.move (Operand.tmp 23), type := 37, pos := "exact.go:3770", after := #[{ on := 4, ground := Ground.data }], guard := none }) (v := ?v62x5) rfl (by kernel_rfl) (by kernel_rfl) (by kernel_rfl) (fun _ _ _ h => h) (Or.inl ⟨by rfl, ?hy62x5⟩) (by with_reducible assumption) ?rest62x5
            case hy62x5 => (intro w hSw; (try dsimp only at hSw); go_simp; try with_reducible rfl)
            case' rest62x5 => (try simp only [Act.put, List.setIfInBounds_toArray, List.set_cons_zero, List.set_cons_succ])
            refine wpAnyH_take (i := 6) (oi := { dst := some 24, op := Op.extract (Operand.tmp 18) 0, type := 26, pos := "exact.go:3770", after := #[{ on := 5, ground := Ground.data }], guard := none }) (v := ?v63x6) rfl (by kernel_rfl) (by kernel_rfl) (by kernel_rfl) (fun _ _ _ h => h) (Or.inl ⟨by rfl, ?hy63x6⟩) (by with_reducible assumption) ?rest63x6
            case hy63x6 => (intro w hSw; (try dsimp only at hSw); go_simp; try with_reducible rfl)
            case' rest63x6 => (try simp only [Act.put, List.setIfInBounds_toArray, List.set_cons_zero, List.set_cons_succ])
            refine wpAnyH_take (i := 7) (oi := { dst := some 25, op := Op.extract (Operand.tmp 18) 1, type := 26, pos := "exact.go:3770", after := #[{ on := 5, ground := Ground.data }, { on := 11, ground := Ground.gcOnly Departure.lateStores }], guard := none }) (v := ?v64x7) rfl (by kernel_rfl) (by kernel_rfl) (by kernel_rfl) (fun _ _ _ h => h) (Or.inl ⟨by rfl, ?hy64x7⟩) (by with_reducible assumption) ?rest64x7
            case hy64x7 => (intro w hSw; (try dsimp only at hSw); go_simp; try with_reducible rfl)
            case' rest64x7 => (try simp only [Act.put, List.setIfInBounds_toArray, List.set_cons_zero, List.set_cons_succ])
            refine wpAnyH_take (i := 8) (oi := { dst := some 26, op := Op.extract (Operand.tmp 18) 2, type := 4, pos := "exact.go:3770", after := #[{ on := 5, ground := Ground.data }, { on := 12, ground := Ground.gcOnly Departure.lateStores }], guard := none }) (v := ?v65x8) rfl (by kernel_rfl) (by kernel_rfl) (by kernel_rfl) (fun _ _ _ h => h) (Or.inl ⟨by rfl, ?hy65x8⟩) (by with_reducible assumption) ?rest65x8
            case hy65x8 => (intro w hSw; (try dsimp only at hSw); go_simp; try with_reducible rfl)
            case' rest65x8 => (try simp only [Act.put, List.setIfInBounds_toArray, List.set_cons_zero, List.set_cons_succ])
            refine wpAnyH_ready (rs := [9]) (by kernel_rfl) (by simp) ?_
            refine (AllReadyH.cons (o := { dst := some 6, op := Op.alloc 26, type := 0, pos := "exact.go:3770", after := #[], guard := none }) rfl (fun K hK => ?_) AllReadyH.nil)
            · go_simp
              refine hK.out _ _ ?_ (fun hHeld => ?_)
              · (refine keep2 ?_ (by with_reducible assumption); go_grown)
              clear hK K
              try simp only [Act.put, List.setIfInBounds_toArray, List.set_cons_zero, List.set_cons_succ]
              have hlt0 : w.heap.size < w3.heap.size := held_lt (by with_reducible assumption)
              have K0 := BoxP.new w3 0 0
              have hbB0 : Below w3.heap.size w3 (w3.alloc (.cells #[.int .i64 0, .int .i64 0] 26)) := by go_grown
              replace ha1 := (ha1.later hbB0).mono hbB0.size
              have hne10 : B1 < w3.heap.size := K1.lt
              replace K1 := K1.later hbB0
              generalize w3.heap.size = B0 at K0 hlt0 hne10 ⊢
              generalize w3.alloc (.cells #[.int .i64 0, .int .i64 0] 26) = wB0 at *
              have f00 := K0.f 0
              have f01 := K0.f 1
              have d00 := K0.c0
              have d01 := K0.c1
              refine wpAnyH_ready (rs := [11]) (by kernel_rfl) (by simp) ?_
              refine AllReadyH.cons (o := { dst := none, op := Op.store 26 (Operand.tmp 6) (Operand.tmp 24), type := 0, pos := "exact.go:3770", after := #[{ on := 9, ground := Ground.data }, { on := 6, ground := Ground.data }, { on := 4, ground := Ground.chain }, { on := 0, ground := Ground.phase }, { on := 1, ground := Ground.phase }, { on := 2, ground := Ground.phase }, { on := 3, ground := Ground.phase }, { on := 4, ground := Ground.phase }, { on := 5, ground := Ground.phase }, { on := 6, ground := Ground.phase }, { on := 7, ground := Ground.textOnly Departure.lateStores }, { on := 8, ground := Ground.textOnly Departure.lateStores }, { on := 9, ground := Ground.phase }, { on := 10, ground := Ground.phase }], guard := none }) rfl (fun K hK => ?_) AllReadyH.nil
              go_simp
              refine hK.out _ _ ?_ (fun hHeld => ?_)
              · exact keepSt (B := B0) hHeld hlt0 _ _
              clear hK K
              try simp only [Act.put, List.setIfInBounds_toArray, List.set_cons_zero, List.set_cons_succ]
              clear f00 f01 d00 d01
              replace K0 := K0.set ex0 ey0
              replace K1 := ((K1.other (B' := B0) (i := 0) (by omega) (.int .i64 ex0)).other (B' := B0) (i := 1) (by omega) (.int .i64 ey0))
              generalize (wB0.setCell ⟨B0, 0, none⟩ (.int .i64 ex0)).setCell ⟨B0, 1, none⟩ (.int .i64 ey0) = wS0 at hHeld K0 K1 ⊢
              have f10 := K1.f 0
              have f11 := K1.f 1
              have d10 := K1.c0
              have d11 := K1.c1
              refine wpAnyH_ready (rs := [12]) (by kernel_rfl) (by simp) ?_
              refine AllReadyH.cons (o := { dst := none, op := Op.store 26 (Operand.tmp 7) (Operand.tmp 25), type := 0, pos := "exact.go:3770", after := #[{ on := 10, ground := Ground.data }, { on := 7, ground := Ground.data }, { on := 11, ground := Ground.chain }, { on := 0, ground := Ground.phase }, { on := 1, ground := Ground.phase }, { on := 2, ground := Ground.phase }, { on := 3, ground := Ground.phase }, { on := 4, ground := Ground.phase }, { on := 5, ground := Ground.phase }, { on := 6, ground := Ground.phase }, { on := 7, ground := Ground.phase }, { on := 8, ground := Ground.textOnly Departure.lateStores }, { on := 9, ground := Ground.phase }, { on := 10, ground := Ground.phase }, { on := 11, ground := Ground.phase }], guard := none }) rfl (fun K hK => ?_) AllReadyH.nil
              go_simp
              refine hK.out _ _ ?_ (fun hHeld => ?_)
              · exact keepSt (B := B1) hHeld hlt1 _ _
              clear hK K
              try simp only [Act.put, List.setIfInBounds_toArray, List.set_cons_zero, List.set_cons_succ]
              clear f10 f11 d10 d11
              replace K1 := K1.set ex1 ey1
              replace K0 := ((K0.other (B' := B1) (i := 0) (by omega) (.int .i64 ex1)).other (B' := B1) (i := 1) (by omega) (.int .i64 ey1))
              generalize (wS0.setCell ⟨B1, 0, none⟩ (.int .i64 ex1)).setCell ⟨B1, 1, none⟩ (.int .i64 ey1) = wS1 at hHeld K0 K1 ⊢
              refine wpAnyH_take (i := 13) (oi := { dst := some 8, op := Op.assign (Operand.tmp 26), type := 4, pos := "exact.go:3770", after := #[{ on := 8, ground := Ground.data }, { on := 12, ground := Ground.chain }, { on := 0, ground := Ground.phase }, { on := 1, ground := Ground.phase }, { on := 2, ground := Ground.phase }, { on := 3, ground := Ground.phase }, { on := 4, ground := Ground.phase }, { on := 5, ground := Ground.phase }, { on := 6, ground := Ground.phase }, { on := 7, ground := Ground.phase }, { on := 8, ground := Ground.phase }, { on := 9, ground := Ground.phase }, { on := 10, ground := Ground.phase }, { on := 11, ground := Ground.phase }, { on := 12, ground := Ground.phase }], guard := none }) (v := ?v66x13) rfl (by kernel_rfl) (by kernel_rfl) (by kernel_rfl) (fun _ _ _ h => h) (Or.inl ⟨by rfl, ?hy66x13⟩) (by with_reducible assumption) ?rest66x13
              case hy66x13 => (intro w hSw; (try dsimp only at hSw); go_simp; try with_reducible rfl)
              case' rest66x13 => (try simp only [Act.put, List.setIfInBounds_toArray, List.set_cons_zero, List.set_cons_succ])
              refine wpAnyH_done (by kernel_rfl) ?_ _
              obtain ⟨r0, r1, hb3'⟩ := hHeld
              go_wp2_with (first
                | (go_at_call 12; clear tok2; refine (toPointS_e l _ _ _ _ hl h20 ((HA.out.later hb3').mono hb3'.size)).mono ?_; rintro e w4 ⟨b4, rfl, hc4, hb4⟩; have ha4 := hc4.at; have hb4' := grew hb3' hb4; have s0 := cell_later hb4 r0; have s1 := cell_later hb4 r1; replace K0 := K0.later hb4; replace K1 := K1.later hb4; clear hc4)
                | (go_at_call 13; refine (toPoint_c _ _ _).mono ?_; rintro e w5 ⟨rfl, hb5⟩; have hb5' := grew hb4' hb5; replace K0 := K0.later hb5; replace K1 := K1.later hb5; have ha5 := (ha4.later hb5).mono hb5.size)
                | (go_at_call 20; refine (tangentsImpl_c l x y _ _ _ _ hl h20 ha5 (cell_later hb5' C0.out)).mono ?_; rw [hE0, hE1]; rintro e w6 ⟨rfl, hb6⟩; have hb6' := grew hb5' hb6; replace K0 := K0.later hb6; replace K1 := K1.later hb6; have k0x := K0.c0; have k0y := K0.c1; have lk0 := K0.lt; have k1x := K1.c0; have k1y := K1.c1; have lk1 := K1.lt; have n60 := cell_later (show Below w6.heap.size w6 ((w6.alloc (.cells #[.int .i64 ex0, .int .i64 ey0] 26)).alloc (.cells #[.int .i64 ex1, .int .i64 ey1] 26)) by go_grown) k1x; have n61 := cell_later (show Below w6.heap.size w6 ((w6.alloc (.cells #[.int .i64 ex0, .int .i64 ey0] 26)).alloc (.cells #[.int .i64 ex1, .int .i64 ey1] 26)) by go_grown) k1y; have G11 := BoxP.new (w6.alloc (.cells #[.int .i64 ex0, .int .i64 ey0] 26)) ex1 ey1; simp only [World.size_alloc] at G11; have n70 := G11.c0; have n71 := G11.c1; have ha6 := (ha5.later hb6).mono hb6.size)
                | (go_at_call 15; clear tk8; refine (eqPoint_c _ _ _ _ _).mono ?_; rw [hQ0]; rintro e w8 ⟨rfl, hb8⟩; have hB8 : Below w6.heap.size w6 w8 := (by go_grown : Below w6.heap.size w6 ((w6.alloc (.cells #[.int .i64 ex0, .int .i64 ey0] 26)).alloc (.cells #[.int .i64 ex1, .int .i64 ey1] 26))).trans (hb8.mono (by go_size)); have m60 := cell_later hb8 n60; have m61 := cell_later hb8 n61; have m70 := cell_later hb8 n70; have m71 := cell_later hb8 n71)
                | (go_at_call 15; refine (eqPoint_c _ _ _ _ _).mono ?_; rw [hQ1]; rintro e w9 ⟨rfl, hb9⟩; have hB9 := hB8.trans (hb9.mono hB8.size); have hb9' := grew hb6' hB9; have ha9 := (ha6.later hB9).mono hB9.size)
                | (go_at_call 12; refine (toPointS_e l _ _ _ _ hl h20 ((HA.out.later hb9').mono hb9'.size)).mono ?_; rintro e w7 ⟨b7, rfl, hc7, hb7⟩; have ha7 := hc7.at; have hb7' := grew hb9' hb7; have ha67 := (ha9.later hb7).mono hb7.size; clear hc7)
                | (go_at_call 16; refine (eqPointS_c l l _ _ _ _ _ _ _ hl hl h20 h20 ha67 ha7).mono ?_; rintro e wA ⟨rfl, hbA⟩))
              go_ret
              exact ⟨rfl, grew hb7' hbA⟩
          · go_simp
            refine hK.out _ _ ?_ (fun hHeld => ?_)
            · (refine keep2 ?_ (by with_reducible assumption); go_grown)
            clear hK K
            try simp only [Act.put, List.setIfInBounds_toArray, List.set_cons_zero, List.set_cons_succ]
            have hlt0 : w.heap.size < w2.heap.size := held_lt (by with_reducible assumption)
            have K0 := BoxP.new w2 0 0
            have hbB0 : Below w2.heap.size w2 (w2.alloc (.cells #[.int .i64 0, .int .i64 0] 26)) := by go_grown
            replace ha1 := (ha1.later hbB0).mono hbB0.size
            have hne10 : B1 < w2.heap.size := K1.lt
            replace K1 := K1.later hbB0
            generalize w2.heap.size = B0 at K0 hlt0 hne10 ⊢
            generalize w2.alloc (.cells #[.int .i64 0, .int .i64 0] 26) = wB0 at *
            refine wpAnyH_ready (rs := [4]) (by kernel_rfl) (by simp) ?_
            refine (AllReadyH.cons (o := { dst := some 23, op := Op.call { callee := Callee.value (Operand.func 19), args := #[Operand.tmp 20, Operand.tmp 22], argTypes := #[29, 26] }, type := 37, pos := "exact.go:3770", after := #[{ on := 1, ground := Ground.data }, { on := 3, ground := Ground.data }, { on := 3, ground := Ground.chain }], guard := none }) rfl (fun K hK => ?_) AllReadyH.nil)
            · go_simp
              refine (tangentsSpec_c l x y _ _ _ _ hl h20 ha1).mono ?_
              rw [hE0, hE1]
              rintro e w3 ⟨rfl, hb3⟩
              go_wp2_with fail
              refine hK.out _ _ ?_ (fun hHeld => ?_)
              · exact keep2 hb3 (by with_reducible assumption)
              clear hK K
              try simp only [Act.put, List.setIfInBounds_toArray, List.set_cons_zero, List.set_cons_succ]
              replace ha1 := (ha1.later hb3).mono hb3.size
              replace K1 := K1.later hb3
              replace K0 := K0.later hb3
              refine wpAnyH_take (i := 5) (oi := { dst := some 18, op := Op.move (Operand.tmp 23), type := 37, pos := "exact.go:3770", after := #[{ on := 4, ground := Ground.data }], guard := none }) (v := ?v67x5) rfl (by kernel_rfl) (by kernel_rfl) (by kernel_rfl) (fun _ _ _ h => h) (Or.inl ⟨by rfl, ?hy67x5⟩) (by with_reducible assumption) ?rest67x5
              case hy67x5 => (intro w hSw; (try dsimp only at hSw); go_simp; try with_reducible rfl)
              case' rest67x5 => (try simp only [Act.put, List.setIfInBounds_toArray, List.set_cons_zero, List.set_cons_succ])
              refine wpAnyH_take (i := 6) (oi := { dst := some 24, op := Op.extract (Operand.tmp 18) 0, type := 26, pos := "exact.go:3770", after := #[{ on := 5, ground := Ground.data }], guard := none }) (v := ?v68x6) rfl (by kernel_rfl) (by kernel_rfl) (by kernel_rfl) (fun _ _ _ h => h) (Or.inl ⟨by rfl, ?hy68x6⟩) (by with_reducible assumption) ?rest68x6
              case hy68x6 => (intro w hSw; (try dsimp only at hSw); go_simp; try with_reducible rfl)
              case' rest68x6 => (try simp only [Act.put, List.setIfInBounds_toArray, List.set_cons_zero, List.set_cons_succ])
              refine wpAnyH_take (i := 7) (oi := { dst := some 25, op := Op.extract (Operand.tmp 18) 1, type := 26, pos := "exact.go:3770", after := #[{ on := 5, ground := Ground.data }, { on := 11, ground := Ground.gcOnly Departure.lateStores }], guard := none }) (v := ?v69x7) rfl (by kernel_rfl) (by kernel_rfl) (by kernel_rfl) (fun _ _ _ h => h) (Or.inl ⟨by rfl, ?hy69x7⟩) (by with_reducible assumption) ?rest69x7
              case hy69x7 => (intro w hSw; (try dsimp only at hSw); go_simp; try with_reducible rfl)
              case' rest69x7 => (try simp only [Act.put, List.setIfInBounds_toArray, List.set_cons_zero, List.set_cons_succ])
              refine wpAnyH_take (i := 8) (oi := { dst := some 26, op := Op.extract (Operand.tmp 18) 2, type := 4, pos := "exact.go:3770", after := #[{ on := 5, ground := Ground.data }, { on := 12, ground := Ground.gcOnly Departure.lateStores }], guard := none }) (v := ?v70x8) rfl (by kernel_rfl) (by kernel_rfl) (by kernel_rfl) (fun _ _ _ h => h) (Or.inl ⟨by rfl, ?hy70x8⟩) (by with_reducible assumption) ?rest70x8
              case hy70x8 => (intro w hSw; (try dsimp only at hSw); go_simp; try with_reducible rfl)
              case' rest70x8 => (try simp only [Act.put, List.setIfInBounds_toArray, List.set_cons_zero, List.set_cons_succ])
              have f00 := K0.f 0
              have f01 := K0.f 1
              have d00 := K0.c0
              have d01 := K0.c1
              refine wpAnyH_ready (rs := [11]) (by kernel_rfl) (by simp) ?_
              refine AllReadyH.cons (o := { dst := none, op := Op.store 26 (Operand.tmp 6) (Operand.tmp 24), type := 0, pos := "exact.go:3770", after := #[{ on := 9, ground := Ground.data }, { on := 6, ground := Ground.data }, { on := 4, ground := Ground.chain }, { on := 0, ground := Ground.phase }, { on := 1, ground := Ground.phase }, { on := 2, ground := Ground.phase }, { on := 3, ground := Ground.phase }, { on := 4, ground := Ground.phase }, { on := 5, ground := Ground.phase }, { on := 6, ground := Ground.phase }, { on := 7, ground := Ground.textOnly Departure.lateStores }, { on := 8, ground := Ground.textOnly Departure.lateStores }, { on := 9, ground := Ground.phase }, { on := 10, ground := Ground.phase }], guard := none }) rfl (fun K hK => ?_) AllReadyH.nil
              go_simp
              refine hK.out _ _ ?_ (fun hHeld => ?_)
              · exact keepSt (B := B0) hHeld hlt0 _ _
              clear hK K
              try simp only [Act.put, List.setIfInBounds_toArray, List.set_cons_zero, List.set_cons_succ]
              clear f00 f01 d00 d01
              replace K0 := K0.set ex0 ey0
              replace K1 := ((K1.other (B' := B0) (i := 0) (by omega) (.int .i64 ex0)).other (B' := B0) (i := 1) (by omega) (.int .i64 ey0))
              generalize (w3.setCell ⟨B0, 0, none⟩ (.int .i64 ex0)).setCell ⟨B0, 1, none⟩ (.int .i64 ey0) = wS0 at hHeld K0 K1 ⊢
              have f10 := K1.f 0
              have f11 := K1.f 1
              have d10 := K1.c0
              have d11 := K1.c1
              refine wpAnyH_ready (rs := [12]) (by kernel_rfl) (by simp) ?_
              refine AllReadyH.cons (o := { dst := none, op := Op.store 26 (Operand.tmp 7) (Operand.tmp 25), type := 0, pos := "exact.go:3770", after := #[{ on := 10, ground := Ground.data }, { on := 7, ground := Ground.data }, { on := 11, ground := Ground.chain }, { on := 0, ground := Ground.phase }, { on := 1, ground := Ground.phase }, { on := 2, ground := Ground.phase }, { on := 3, ground := Ground.phase }, { on := 4, ground := Ground.phase }, { on := 5, ground := Ground.phase }, { on := 6, ground := Ground.phase }, { on := 7, ground := Ground.phase }, { on := 8, ground := Ground.textOnly Departure.lateStores }, { on := 9, ground := Ground.phase }, { on := 10, ground := Ground.phase }, { on := 11, ground := Ground.phase }], guard := none }) rfl (fun K hK => ?_) AllReadyH.nil
              go_simp
              refine hK.out _ _ ?_ (fun hHeld => ?_)
              · exact keepSt (B := B1) hHeld hlt1 _ _
              clear hK K
              try simp only [Act.put, List.setIfInBounds_toArray, List.set_cons_zero, List.set_cons_succ]
              clear f10 f11 d10 d11
              replace K1 := K1.set ex1 ey1
              replace K0 := ((K0.other (B' := B1) (i := 0) (by omega) (.int .i64 ex1)).other (B' := B1) (i := 1) (by omega) (.int .i64 ey1))
              generalize (wS0.setCell ⟨B1, 0, none⟩ (.int .i64 ex1)).setCell ⟨B1, 1, none⟩ (.int .i64 ey1) = wS1 at hHeld K0 K1 ⊢
              refine wpAnyH_take (i := 13) (oi := { dst := some 8, op := Op.assign (Operand.tmp 26), type := 4, pos := "exact.go:3770", after := #[{ on := 8, ground := Ground.data }, { on := 12, ground := Ground.chain }, { on := 0, ground := Ground.phase }, { on := 1, ground := Ground.phase }, { on := 2, ground := Ground.phase }, { on := 3, ground := Ground.phase }, { on := 4, ground := Ground.phase }, { on := 5, ground := Ground.phase }, { on := 6, ground := Ground.phase }, { on := 7, ground := Ground.phase }, { on := 8, ground := Ground.phase }, { on := 9, ground := Ground.phase }, { on := 10, ground := Ground.phase }, { on := 11, ground := Ground.phase }, { on := 12, ground := Ground.phase }], guard := none }) (v := ?v71x13) rfl (by kernel_rfl) (by kernel_rfl) (by kernel_rfl) (fun _ _ _ h => h) (Or.inl ⟨by rfl, ?hy71x13⟩) (by with_reducible assumption) ?rest71x13
              case hy71x13 => (intro w hSw; (try dsimp only at hSw); go_simp; try with_reducible rfl)
              case' rest71x13 => (try simp only [Act.put, List.setIfInBounds_toArray, List.set_cons_zero, List.set_cons_succ])
              refine wpAnyH_done (by kernel_rfl) ?_ _
              obtain ⟨r0, r1, hb3'⟩ := hHeld
              go_wp2_with (first
                | (go_at_call 12; clear tok2; refine (toPointS_e l _ _ _ _ hl h20 ((HA.out.later hb3').mono hb3'.size)).mono ?_; rintro e w4 ⟨b4, rfl, hc4, hb4⟩; have ha4 := hc4.at; have hb4' := grew hb3' hb4; have s0 := cell_later hb4 r0; have s1 := cell_later hb4 r1; replace K0 := K0.later hb4; replace K1 := K1.later hb4; clear hc4)
                | (go_at_call 13; refine (toPoint_c _ _ _).mono ?_; rintro e w5 ⟨rfl, hb5⟩; have hb5' := grew hb4' hb5; replace K0 := K0.later hb5; replace K1 := K1.later hb5; have ha5 := (ha4.later hb5).mono hb5.size)
                | (go_at_call 20; refine (tangentsImpl_c l x y _ _ _ _ hl h20 ha5 (cell_later hb5' C0.out)).mono ?_; rw [hE0, hE1]; rintro e w6 ⟨rfl, hb6⟩; have hb6' := grew hb5' hb6; replace K0 := K0.later hb6; replace K1 := K1.later hb6; have k0x := K0.c0; have k0y := K0.c1; have lk0 := K0.lt; have k1x := K1.c0; have k1y := K1.c1; have lk1 := K1.lt; have n60 := cell_later (show Below w6.heap.size w6 ((w6.alloc (.cells #[.int .i64 ex0, .int .i64 ey0] 26)).alloc (.cells #[.int .i64 ex1, .int .i64 ey1] 26)) by go_grown) k1x; have n61 := cell_later (show Below w6.heap.size w6 ((w6.alloc (.cells #[.int .i64 ex0, .int .i64 ey0] 26)).alloc (.cells #[.int .i64 ex1, .int .i64 ey1] 26)) by go_grown) k1y; have G11 := BoxP.new (w6.alloc (.cells #[.int .i64 ex0, .int .i64 ey0] 26)) ex1 ey1; simp only [World.size_alloc] at G11; have n70 := G11.c0; have n71 := G11.c1; have ha6 := (ha5.later hb6).mono hb6.size)
                | (go_at_call 15; clear tk8; refine (eqPoint_c _ _ _ _ _).mono ?_; rw [hQ0]; rintro e w8 ⟨rfl, hb8⟩; have hB8 : Below w6.heap.size w6 w8 := (by go_grown : Below w6.heap.size w6 ((w6.alloc (.cells #[.int .i64 ex0, .int .i64 ey0] 26)).alloc (.cells #[.int .i64 ex1, .int .i64 ey1] 26))).trans (hb8.mono (by go_size)); have m60 := cell_later hb8 n60; have m61 := cell_later hb8 n61; have m70 := cell_later hb8 n70; have m71 := cell_later hb8 n71)
                | (go_at_call 15; refine (eqPoint_c _ _ _ _ _).mono ?_; rw [hQ1]; rintro e w9 ⟨rfl, hb9⟩; have hB9 := hB8.trans (hb9.mono hB8.size); have hb9' := grew hb6' hB9; have ha9 := (ha6.later hB9).mono hB9.size)
                | (go_at_call 12; refine (toPointS_e l _ _ _ _ hl h20 ((HA.out.later hb9').mono hb9'.size)).mono ?_; rintro e w7 ⟨b7, rfl, hc7, hb7⟩; have ha7 := hc7.at; have hb7' := grew hb9' hb7; have ha67 := (ha9.later hb7).mono hb7.size; clear hc7)
                | (go_at_call 16; refine (eqPointS_c l l _ _ _ _ _ _ _ hl hl h20 h20 ha67 ha7).mono ?_; rintro e wA ⟨rfl, hbA⟩))
              go_ret
              exact ⟨rfl, grew hb7' hbA⟩
        · go_simp
          refine hK.out _ _ ?_ (fun hHeld => ?_)
          · (refine keep2 ?_ (by with_reducible assumption); go_grown)
          clear hK K
          try simp only [Act.put, List.setIfInBounds_toArray, List.set_cons_zero, List.set_cons_succ]
          have hlt0 : w.heap.size < wB1.heap.size := held_lt (by with_reducible assumption)
          have K0 := BoxP.new wB1 0 0
          have hbB0 : Below wB1.heap.size wB1 (wB1.alloc (.cells #[.int .i64 0, .int .i64 0] 26)) := by go_grown
          replace ha1 := (ha1.later hbB0).mono hbB0.size
          have hne10 : B1 < wB1.heap.size := K1.lt
          replace K1 := K1.later hbB0
          generalize wB1.heap.size = B0 at K0 hlt0 hne10 ⊢
          generalize wB1.alloc (.cells #[.int .i64 0, .int .i64 0] 26) = wB0 at *
          refine wpAnyH_ready (rs := [3]) (by kernel_rfl) (by simp) ?_
          refine (AllReadyH.cons (o := { dst := some 22, op := Op.call { callee := Callee.value (Operand.func 13), args := #[Operand.tmp 21], argTypes := #[24] }, type := 26, pos := "exact.go:3770", after := #[{ on := 2, ground := Ground.data }, { on := 1, ground := Ground.chain }], guard := none }) rfl (fun K hK => ?_) AllReadyH.nil)
          · go_simp
            refine (toPoint_c _ _ _).mono ?_
            rintro e w2 ⟨rfl, hb2⟩
            go_wp2_with fail
            refine hK.out _ _ ?_ (fun hHeld => ?_)
            · exact keep2 hb2 (by with_reducible assumption)
            clear hK K
            try simp only [Act.put, List.setIfInBounds_toArray, List.set_cons_zero, List.set_cons_succ]
            replace ha1 := (ha1.later hb2).mono hb2.size
            replace K1 := K1.later hb2
            replace K0 := K0.later hb2
            refine wpAnyH_ready (rs := [4]) (by kernel_rfl) (by simp) ?_
            refine (AllReadyH.cons (o := { dst := some 23, op := Op.call { callee := Callee.value (Operand.func 19), args := #[Operand.tmp 20, Operand.tmp 22], argTypes := #[29, 26] }, type := 37, pos := "exact.go:3770", after := #[{ on := 1, ground := Ground.data }, { on := 3, ground := Ground.data }, { on := 3, ground := Ground.chain }], guard := none }) rfl (fun K hK => ?_) AllReadyH.nil)
            · go_simp
              refine (tangentsSpec_c l x y _ _ _ _ hl h20 ha1).mono ?_
              rw [hE0, hE1]
              rintro e w3 ⟨rfl, hb3⟩
              go_wp2_with fail
              refine hK.out _ _ ?_ (fun hHeld => ?_)
              · exact keep2 hb3 (by with_reducible assumption)
              clear hK K
              try simp only [Act.put, List.setIfInBounds_toArray, List.set_cons_zero, List.set_cons_succ]
              replace ha1 := (ha1.later hb3).mono hb3.size
              replace K1 := K1.later hb3
              replace K0 := K0.later hb3
              refine wpAnyH_take (i := 5) (oi := { dst := some 18, op := Op.move (Operand.tmp 23), type := 37, pos := "exact.go:3770", after := #[{ on := 4, ground := Ground.data }], guard := none }) (v := ?v72x5) rfl (by kernel_rfl) (by kernel_rfl) (by kernel_rfl) (fun _ _ _ h => h) (Or.inl ⟨by rfl, ?hy72x5⟩) (by with_reducible assumption) ?rest72x5
              case hy72x5 => (intro w hSw; (try dsimp only at hSw); go_simp; try with_reducible rfl)
              case' rest72x5 => (try simp only [Act.put, List.setIfInBounds_toArray, List.set_cons_zero, List.set_cons_succ])
              refine wpAnyH_take (i := 6) (oi := { dst := some 24, op := Op.extract (Operand.tmp 18) 0, type := 26, pos := "exact.go:3770", after := #[{ on := 5, ground := Ground.data }], guard := none }) (v := ?v73x6) rfl (by kernel_rfl) (by kernel_rfl) (by kernel_rfl) (fun _ _ _ h => h) (Or.inl ⟨by rfl, ?hy73x6⟩) (by with_reducible assumption) ?rest73x6
              case hy73x6 => (intro w hSw; (try dsimp only at hSw); go_simp; try with_reducible rfl)
              case' rest73x6 => (try simp only [Act.put, List.setIfInBounds_toArray, List.set_cons_zero, List.set_cons_succ])
              refine wpAnyH_take (i := 7) (oi := { dst := some 25, op := Op.extract (Operand.tmp 18) 1, type := 26, pos := "exact.go:3770", after := #[{ on := 5, ground := Ground.data }, { on := 11, ground := Ground.gcOnly Departure.lateStores }], guard := none }) (v := ?v74x7) rfl (by kernel_rfl) (by kernel_rfl) (by kernel_rfl) (fun _ _ _ h => h) (Or.inl ⟨by rfl, ?hy74x7⟩) (by with_reducible assumption) ?rest74x7
              case hy74x7 => (intro w hSw; (try dsimp only at hSw); go_simp; try with_reducible rfl)
              case' rest74x7 => (try simp only [Act.put, List.setIfInBounds_toArray, List.set_cons_zero, List.set_cons_succ])
              refine wpAnyH_take (i := 8) (oi := { dst := some 26, op := Op.extract (Operand.tmp 18) 2, type := 4, pos := "exact.go:3770", after := #[{ on := 5, ground := Ground.data }, { on := 12, ground := Ground.gcOnly Departure.lateStores }], guard := none }) (v := ?v75x8) rfl (by kernel_rfl) (by kernel_rfl) (by kernel_rfl) (fun _ _ _ h => h) (Or.inl ⟨by rfl, ?hy75x8⟩) (by with_reducible assumption) ?rest75x8
              case hy75x8 => (intro w hSw; (try dsimp only at hSw); go_simp; try with_reducible rfl)
              case' rest75x8 => (try simp only [Act.put, List.setIfInBounds_toArray, List.set_cons_zero, List.set_cons_succ])
              have f00 := K0.f 0
              have f01 := K0.f 1
              have d00 := K0.c0
              have d01 := K0.c1
              refine wpAnyH_ready (rs := [11]) (by kernel_rfl) (by simp) ?_
              refine AllReadyH.cons (o := { dst := none, op := Op.store 26 (Operand.tmp 6) (Operand.tmp 24), type := 0, pos := "exact.go:3770", after := #[{ on := 9, ground := Ground.data }, { on := 6, ground := Ground.data }, { on := 4, ground := Ground.chain }, { on := 0, ground := Ground.phase }, { on := 1, ground := Ground.phase }, { on := 2, ground := Ground.phase }, { on := 3, ground := Ground.phase }, { on := 4, ground := Ground.phase }, { on := 5, ground := Ground.phase }, { on := 6, ground := Ground.phase }, { on := 7, ground := Ground.textOnly Departure.lateStores }, { on := 8, ground := Ground.textOnly Departure.lateStores }, { on := 9, ground := Ground.phase }, { on := 10, ground := Ground.phase }], guard := none }) rfl (fun K hK => ?_) AllReadyH.nil
              go_simp
              refine hK.out _ _ ?_ (fun hHeld => ?_)
              · exact keepSt (B := B0) hHeld hlt0 _ _
              clear hK K
              try simp only [Act.put, List.setIfInBounds_toArray, List.set_cons_zero, List.set_cons_succ]
              clear f00 f01 d00 d01
              replace K0 := K0.set ex0 ey0
              replace K1 := ((K1.other (B' := B0) (i := 0) (by omega) (.int .i64 ex0)).other (B' := B0) (i := 1) (by omega) (.int .i64 ey0))
              generalize (w3.setCell ⟨B0, 0, none⟩ (.int .i64 ex0)).setCell ⟨B0, 1, none⟩ (.int .i64 ey0) = wS0 at hHeld K0 K1 ⊢
              have f10 := K1.f 0
              have f11 := K1.f 1
              have d10 := K1.c0
              have d11 := K1.c1
              refine wpAnyH_ready (rs := [12]) (by kernel_rfl) (by simp) ?_
              refine AllReadyH.cons (o := { dst := none, op := Op.store 26 (Operand.tmp 7) (Operand.tmp 25), type := 0, pos := "exact.go:3770", after := #[{ on := 10, ground := Ground.data }, { on := 7, ground := Ground.data }, { on := 11, ground := Ground.chain }, { on := 0, ground := Ground.phase }, { on := 1, ground := Ground.phase }, { on := 2, ground := Ground.phase }, { on := 3, ground := Ground.phase }, { on := 4, ground := Ground.phase }, { on := 5, ground := Ground.phase }, { on := 6, ground := Ground.phase }, { on := 7, ground := Ground.phase }, { on := 8, ground := Ground.textOnly Departure.lateStores }, { on := 9, ground := Ground.phase }, { on := 10, ground := Ground.phase }, { on := 11, ground := Ground.phase }], guard := none }) rfl (fun K hK => ?_) AllReadyH.nil
              go_simp
              refine hK.out _ _ ?_ (fun hHeld => ?_)
              · exact keepSt (B := B1) hHeld hlt1 _ _
              clear hK K
              try simp only [Act.put, List.setIfInBounds_toArray, List.set_cons_zero, List.set_cons_succ]
              clear f10 f11 d10 d11
              replace K1 := K1.set ex1 ey1
              replace K0 := ((K0.other (B' := B1) (i := 0) (by omega) (.int .i64 ex1)).other (B' := B1) (i := 1) (by omega) (.int .i64 ey1))
              generalize (wS0.setCell ⟨B1, 0, none⟩ (.int .i64 ex1)).setCell ⟨B1, 1, none⟩ (.int .i64 ey1) = wS1 at hHeld K0 K1 ⊢
              refine wpAnyH_take (i := 13) (oi := { dst := some 8, op := Op.assign (Operand.tmp 26), type := 4, pos := "exact.go:3770", after := #[{ on := 8, ground := Ground.data }, { on := 12, ground := Ground.chain }, { on := 0, ground := Ground.phase }, { on := 1, ground := Ground.phase }, { on := 2, ground := Ground.phase }, { on := 3, ground := Ground.phase }, { on := 4, ground := Ground.phase }, { on := 5, ground := Ground.phase }, { on := 6, ground := Ground.phase }, { on := 7, ground := Ground.phase }, { on := 8, ground := Ground.phase }, { on := 9, ground := Ground.phase }, { on := 10, ground := Ground.phase }, { on := 11, ground := Ground.phase }, { on := 12, ground := Ground.phase }], guard := none }) (v := ?v76x13) rfl (by kernel_rfl) (by kernel_rfl) (by kernel_rfl) (fun _ _ _ h => h) (Or.inl ⟨by rfl, ?hy76x13⟩) (by with_reducible assumption) ?rest76x13
              case hy76x13 => (intro w hSw; (try dsimp only at hSw); go_simp; try with_reducible rfl)
              case' rest76x13 => (try simp only [Act.put, List.setIfInBounds_toArray, List.set_cons_zero, List.set_cons_succ])
              refine wpAnyH_done (by kernel_rfl) ?_ _
              obtain ⟨r0, r1, hb3'⟩ := hHeld
              go_wp2_with (first
                | (go_at_call 12; clear tok2; refine (toPointS_e l _ _ _ _ hl h20 ((HA.out.later hb3').mono hb3'.size)).mono ?_; rintro e w4 ⟨b4, rfl, hc4, hb4⟩; have ha4 := hc4.at; have hb4' := grew hb3' hb4; have s0 := cell_later hb4 r0; have s1 := cell_later hb4 r1; replace K0 := K0.later hb4; replace K1 := K1.later hb4; clear hc4)
                | (go_at_call 13; refine (toPoint_c _ _ _).mono ?_; rintro e w5 ⟨rfl, hb5⟩; have hb5' := grew hb4' hb5; replace K0 := K0.later hb5; replace K1 := K1.later hb5; have ha5 := (ha4.later hb5).mono hb5.size)
                | (go_at_call 20; refine (tangentsImpl_c l x y _ _ _ _ hl h20 ha5 (cell_later hb5' C0.out)).mono ?_; rw [hE0, hE1]; rintro e w6 ⟨rfl, hb6⟩; have hb6' := grew hb5' hb6; replace K0 := K0.later hb6; replace K1 := K1.later hb6; have k0x := K0.c0; have k0y := K0.c1; have lk0 := K0.lt; have k1x := K1.c0; have k1y := K1.c1; have lk1 := K1.lt; have n60 := cell_later (show Below w6.heap.size w6 ((w6.alloc (.cells #[.int .i64 ex0, .int .i64 ey0] 26)).alloc (.cells #[.int .i64 ex1, .int .i64 ey1] 26)) by go_grown) k1x; have n61 := cell_later (show Below w6.heap.size w6 ((w6.alloc (.cells #[.int .i64 ex0, .int .i64 ey0] 26)).alloc (.cells #[.int .i64 ex1, .int .i64 ey1] 26)) by go_grown) k1y; have G11 := BoxP.new (w6.alloc (.cells #[.int .i64 ex0, .int .i64 ey0] 26)) ex1 ey1; simp only [World.size_alloc] at G11; have n70 := G11.c0; have n71 := G11.c1; have ha6 := (ha5.later hb6).mono hb6.size)
                | (go_at_call 15; clear tk8; refine (eqPoint_c _ _ _ _ _).mono ?_; rw [hQ0]; rintro e w8 ⟨rfl, hb8⟩; have hB8 : Below w6.heap.size w6 w8 := (by go_grown : Below w6.heap.size w6 ((w6.alloc (.cells #[.int .i64 ex0, .int .i64 ey0] 26)).alloc (.cells #[.int .i64 ex1, .int .i64 ey1] 26))).trans (hb8.mono (by go_size)); have m60 := cell_later hb8 n60; have m61 := cell_later hb8 n61; have m70 := cell_later hb8 n70; have m71 := cell_later hb8 n71)
                | (go_at_call 15; refine (eqPoint_c _ _ _ _ _).mono ?_; rw [hQ1]; rintro e w9 ⟨rfl, hb9⟩; have hB9 := hB8.trans (hb9.mono hB8.size); have hb9' := grew hb6' hB9; have ha9 := (ha6.later hB9).mono hB9.size)
                | (go_at_call 12; refine (toPointS_e l _ _ _ _ hl h20 ((HA.out.later hb9').mono hb9'.size)).mono ?_; rintro e w7 ⟨b7, rfl, hc7, hb7⟩; have ha7 := hc7.at; have hb7' := grew hb9' hb7; have ha67 := (ha9.later hb7).mono hb7.size; clear hc7)
                | (go_at_call 16; refine (eqPointS_c l l _ _ _ _ _ _ _ hl hl h20 h20 ha67 ha7).mono ?_; rintro e wA ⟨rfl, hbA⟩))
              go_ret
              exact ⟨rfl, grew hb7' hbA⟩
    · go_simp
      refine hK.out _ _ ?_ (fun hHeld => ?_)
      · (refine keep2 ?_ (by with_reducible assumption); go_grown)
      clear hK K
      try simp only [Act.put, List.setIfInBounds_toArray, List.set_cons_zero, List.set_cons_succ]
      have hlt0 : w.heap.size < w0.heap.size := held_lt (by with_reducible assumption)
      have K0 := BoxP.new w0 0 0
      have hbB0 : Below w0.heap.size w0 (w0.alloc (.cells #[.int .i64 0, .int .i64 0] 26)) := by go_grown
      generalize w0.heap.size = B0 at K0 hlt0  ⊢
      generalize w0.alloc (.cells #[.int .i64 0, .int .i64 0] 26) = wB0 at *
      refine wpAnyH_ready (rs := [1, 10]) (by kernel_rfl) (by simp) ?_
      refine (AllReadyH.cons (o := { dst := some 20, op := Op.call { callee := Callee.value (Operand.func 12), args := #[Operand.tmp 19], argTypes := #[22] }, type := 29, pos := "exact.go:3770", after := #[{ on := 0, ground := Ground.data }], guard := none }) rfl (fun K hK => ?_) (AllReadyH.cons (o := { dst := some 7, op := Op.alloc 26, type := 0, pos := "exact.go:3770", after := #[], guard := none }) rfl (fun K hK => ?_) AllReadyH.nil))
      · go_simp
        refine (toPointS_e l _ _ _ _ hl h20 ((HA.out.later hHeld.2.2).mono hHeld.2.2.size)).mono ?_
        rintro e w1 ⟨b1, rfl, hc1, hb1⟩
        go_wp2_with fail
        refine hK.out _ _ ?_ (fun hHeld => ?_)
        · exact keep2 hb1 (by with_reducible assumption)
        clear hK K
        try simp only [Act.put, List.setIfInBounds_toArray, List.set_cons_zero, List.set_cons_succ]
        replace K0 := K0.later hb1
        have ha1 := hc1.at
        refine wpAnyH_ready (rs := [3, 10]) (by kernel_rfl) (by simp) ?_
        refine (AllReadyH.cons (o := { dst := some 22, op := Op.call { callee := Callee.value (Operand.func 13), args := #[Operand.tmp 21], argTypes := #[24] }, type := 26, pos := "exact.go:3770", after := #[{ on := 2, ground := Ground.data }, { on := 1, ground := Ground.chain }], guard := none }) rfl (fun K hK => ?_) (AllReadyH.cons (o := { dst := some 7, op := Op.alloc 26, type := 0, pos := "exact.go:3770", after := #[], guard := none }) rfl (fun K hK => ?_) AllReadyH.nil))
        · go_simp
          refine (toPoint_c _ _ _).mono ?_
          rintro e w2 ⟨rfl, hb2⟩
          go_wp2_with fail
          refine hK.out _ _ ?_ (fun hHeld => ?_)
          · exact keep2 hb2 (by with_reducible assumption)
          clear hK K
          try simp only [Act.put, List.setIfInBounds_toArray, List.set_cons_zero, List.set_cons_succ]
          replace ha1 := (ha1.later hb2).mono hb2.size
          replace K0 := K0.later hb2
          refine wpAnyH_ready (rs := [4, 10]) (by kernel_rfl) (by simp) ?_
          refine (AllReadyH.cons (o := { dst := some 23, op := Op.call { callee := Callee.value (Operand.func 19), args := #[Operand.tmp 20, Operand.tmp 22], argTypes := #[29, 26] }, type := 37, pos := "exact.go:3770", after := #[{ on := 1, ground := Ground.data }, { on := 3, ground := Ground.data }, { on := 3, ground := Ground.chain }], guard := none }) rfl (fun K hK => ?_) (AllReadyH.cons (o := { dst := some 7, op := Op.alloc 26, type := 0, pos := "exact.go:3770", after := #[], guard := none }) rfl (fun K hK => ?_) AllReadyH.nil))
          · go_simp
            refine (tangentsSpec_c l x y _ _ _ _ hl h20 ha1).mono ?_
            rw [hE0, hE1]
            rintro e w3 ⟨rfl, hb3⟩
            go_wp2_with fail
            refine hK.out _ _ ?_ (fun hHeld => ?_)
            · exact keep2 hb3 (by with_reducible assumption)
            clear hK K
            try simp only [Act.put, List.setIfInBounds_toArray, List.set_cons_zero, List.set_cons_succ]
            replace ha1 := (ha1.later hb3).mono hb3.size
            replace K0 := K0.later hb3
            refine wpAnyH_take (i := 5) (oi := { dst := some 18, op := Op.move (Operand.tmp 23), type := 37, pos := "exact.go:3770", after := #[{ on := 4, ground := Ground.data }], guard := none }) (v := ?v77x5) rfl (by kernel_rfl) (by kernel_rfl) (by kernel_rfl) (fun _ _ _ h => h) (Or.inl ⟨by rfl, ?hy77x5⟩) (by with_reducible assumption) ?rest77x5
            case hy77x5 => (intro w hSw; (try dsimp only at hSw); go_simp; try with_reducible rfl)
            case' rest77x5 => (try simp only [Act.put, List.setIfInBounds_toArray, List.set_cons_zero, List.set_cons_succ])
            refine wpAnyH_take (i := 6) (oi := { dst := some 24, op := Op.extract (Operand.tmp 18) 0, type := 26, pos := "exact.go:3770", after := #[{ on := 5, ground := Ground.data }], guard := none }) (v := ?v78x6) rfl (by kernel_rfl) (by kernel_rfl) (by kernel_rfl) (fun _ _ _ h => h) (Or.inl ⟨by rfl, ?hy78x6⟩) (by with_reducible assumption) ?rest78x6
            case hy78x6 => (intro w hSw; (try dsimp only at hSw); go_simp; try with_reducible rfl)
            case' rest78x6 => (try simp only [Act.put, List.setIfInBounds_toArray, List.set_cons_zero, List.set_cons_succ])
            refine wpAnyH_take (i := 7) (oi := { dst := some 25, op := Op.extract (Operand.tmp 18) 1, type := 26, pos := "exact.go:3770", after := #[{ on := 5, ground := Ground.data }, { on := 11, ground := Ground.gcOnly Departure.lateStores }], guard := none }) (v := ?v79x7) rfl (by kernel_rfl) (by kernel_rfl) (by kernel_rfl) (fun _ _ _ h => h) (Or.inl ⟨by rfl, ?hy79x7⟩) (by with_reducible assumption) ?rest79x7
            case hy79x7 => (intro w hSw; (try dsimp only at hSw); go_simp; try with_reducible rfl)
            case' rest79x7 => (try simp only [Act.put, List.setIfInBounds_toArray, List.set_cons_zero, List.set_cons_succ])
            refine wpAnyH_take (i := 8) (oi := { dst := some 26, op := Op.extract (Operand.tmp 18) 2, type := 4, pos := "exact.go:3770", after := #[{ on := 5, ground := Ground.data }, { on := 12, ground := Ground.gcOnly Departure.lateStores }], guard := none }) (v := ?v80x8) rfl (by kernel_rfl) (by kernel_rfl) (by kernel_rfl) (fun _ _ _ h => h) (Or.inl ⟨by rfl, ?hy80x8⟩) (by with_reducible assumption) ?rest80x8
            case hy80x8 => (intro w hSw; (try dsimp only at hSw); go_simp; try with_reducible rfl)
            case' rest80x8 => (try simp only [Act.put, List.setIfInBounds_toArray, List.set_cons_zero, List.set_cons_succ])
            refine wpAnyH_ready (rs := [10]) (by kernel_rfl) (by simp) ?_
            refine (AllReadyH.cons (o := { dst := some 7, op := Op.alloc 26, type := 0, pos := "exact.go:3770", after := #[], guard := none }) rfl (fun K hK => ?_) AllReadyH.nil)
            · go_simp
              refine hK.out _ _ ?_ (fun hHeld => ?_)
              · (refine keep2 ?_ (by with_reducible assumption); go_grown)
              clear hK K
              try simp only [Act.put, List.setIfInBounds_toArray, List.set_cons_zero, List.set_cons_succ]
              have hlt1 : w.heap.size < w3.heap.size := held_lt (by with_reducible assumption)
              have K1 := BoxP.new w3 0 0
              have hbB1 : Below w3.heap.size w3 (w3.alloc (.cells #[.int .i64 0, .int .i64 0] 26)) := by go_grown
              replace ha1 := (ha1.later hbB1).mono hbB1.size
              have hne01 : B0 < w3.heap.size := K0.lt
              replace K0 := K0.later hbB1
              generalize w3.heap.size = B1 at K1 hlt1 hne01 ⊢
              generalize w3.alloc (.cells #[.int .i64 0, .int .i64 0] 26) = wB1 at *
              have f00 := K0.f 0
              have f01 := K0.f 1
              have d00 := K0.c0
              have d01 := K0.c1
              refine wpAnyH_ready (rs := [11]) (by kernel_rfl) (by simp) ?_
              refine AllReadyH.cons (o := { dst := none, op := Op.store 26 (Operand.tmp 6) (Operand.tmp 24), type := 0, pos := "exact.go:3770", after := #[{ on := 9, ground := Ground.data }, { on := 6, ground := Ground.data }, { on := 4, ground := Ground.chain }, { on := 0, ground := Ground.phase }, { on := 1, ground := Ground.phase }, { on := 2, ground := Ground.phase }, { on := 3, ground := Ground.phase }, { on := 4, ground := Ground.phase }, { on := 5, ground := Ground.phase }, { on := 6, ground := Ground.phase }, { on := 7, ground := Ground.textOnly Departure.lateStores }, { on := 8, ground := Ground.textOnly Departure.lateStores }, { on := 9, ground := Ground.phase }, { on := 10, ground := Ground.phase }], guard := none }) rfl (fun K hK => ?_) AllReadyH.nil
              go_simp
              refine hK.out _ _ ?_ (fun hHeld => ?_)
              · exact keepSt (B := B0) hHeld hlt0 _ _
              clear hK K
              try simp only [Act.put, List.setIfInBounds_toArray, List.set_cons_zero, List.set_cons_succ]
              clear f00 f01 d00 d01
              replace K0 := K0.set ex0 ey0
              replace K1 := ((K1.other (B' := B0) (i := 0) (by omega) (.int .i64 ex0)).other (B' := B0) (i := 1) (by omega) (.int .i64 ey0))
              generalize (wB1.setCell ⟨B0, 0, none⟩ (.int .i64 ex0)).setCell ⟨B0, 1, none⟩ (.int .i64 ey0) = wS0 at hHeld K0 K1 ⊢
              have f10 := K1.f 0
              have f11 := K1.f 1
              have d10 := K1.c0
              have d11 := K1.c1
              refine wpAnyH_ready (rs := [12]) (by kernel_rfl) (by simp) ?_
              refine AllReadyH.cons (o := { dst := none, op := Op.store 26 (Operand.tmp 7) (Operand.tmp 25), type := 0, pos := "exact.go:3770", after := #[{ on := 10, ground := Ground.data }, { on := 7, ground := Ground.data }, { on := 11, ground := Ground.chain }, { on := 0, ground := Ground.phase }, { on := 1, ground := Ground.phase }, { on := 2, ground := Ground.phase }, { on := 3, ground := Ground.phase }, { on := 4, ground := Ground.phase }, { on := 5, ground := Ground.phase }, { on := 6, ground := Ground.phase }, { on := 7, ground := Ground.phase }, { on := 8, ground := Ground.textOnly Departure.lateStores }, { on := 9, ground := Ground.phase }, { on := 10, ground := Ground.phase }, { on := 11, ground := Ground.phase }], guard := none }) rfl (fun K hK => ?_) AllReadyH.nil
              go_simp
              refine hK.out _ _ ?_ (fun hHeld => ?_)
              · exact keepSt (B := B1) hHeld hlt1 _ _
              clear hK K
              try simp only [Act.put, List.setIfInBounds_toArray, List.set_cons_zero, List.set_cons_succ]
              clear f10 f11 d10 d11
              replace K1 := K1.set ex1 ey1
              replace K0 := ((K0.other (B' := B1) (i := 0) (by omega) (.int .i64 ex1)).other (B' := B1) (i := 1) (by omega) (.int .i64 ey1))
              generalize (wS0.setCell ⟨B1, 0, none⟩ (.int .i64 ex1)).setCell ⟨B1, 1, none⟩ (.int .i64 ey1) = wS1 at hHeld K0 K1 ⊢
              refine wpAnyH_take (i := 13) (oi := { dst := some 8, op := Op.assign (Operand.tmp 26), type := 4, pos := "exact.go:3770", after := #[{ on := 8, ground := Ground.data }, { on := 12, ground := Ground.chain }, { on := 0, ground := Ground.phase }, { on := 1, ground := Ground.phase }, { on := 2, ground := Ground.phase }, { on := 3, ground := Ground.phase }, { on := 4, ground := Ground.phase }, { on := 5, ground := Ground.phase }, { on := 6, ground := Ground.phase }, { on := 7, ground := Ground.phase }, { on := 8, ground := Ground.phase }, { on := 9, ground := Ground.phase }, { on := 10, ground := Ground.phase }, { on := 11, ground := Ground.phase }, { on := 12, ground := Ground.phase }], guard := none }) (v := ?v81x13) rfl (by kernel_rfl) (by kernel_rfl) (by kernel_rfl) (fun _ _ _ h => h) (Or.inl ⟨by rfl, ?hy81x13⟩) (by with_reducible assumption) ?rest81x13
              case hy81x13 => (intro w hSw; (try dsimp only at hSw); go_simp; try with_reducible rfl)
              case' rest81x13 => (try simp only [Act.put, List.setIfInBounds_toArray, List.set_cons_zero, List.set_cons_succ])
              refine wpAnyH_done (by kernel_rfl) ?_ _
              obtain ⟨r0, r1, hb3'⟩ := hHeld
              go_wp2_with (first
                | (go_at_call 12; clear tok2; refine (toPointS_e l _ _ _ _ hl h20 ((HA.out.later hb3').mono hb3'.size)).mono ?_; rintro e w4 ⟨b4, rfl, hc4, hb4⟩; have ha4 := hc4.at; have hb4' := grew hb3' hb4; have s0 := cell_later hb4 r0; have s1 := cell_later hb4 r1; replace K0 := K0.later hb4; replace K1 := K1.later hb4; clear hc4)
                | (go_at_call 13; refine (toPoint_c _ _ _).mono ?_; rintro e w5 ⟨rfl, hb5⟩; have hb5' := grew hb4' hb5; replace K0 := K0.later hb5; replace K1 := K1.later hb5; have ha5 := (ha4.later hb5).mono hb5.size)
                | (go_at_call 20; refine (tangentsImpl_c l x y _ _ _ _ hl h20 ha5 (cell_later hb5' C0.out)).mono ?_; rw [hE0, hE1]; rintro e w6 ⟨rfl, hb6⟩; have hb6' := grew hb5' hb6; replace K0 := K0.later hb6; replace K1 := K1.later hb6; have k0x := K0.c0; have k0y := K0.c1; have lk0 := K0.lt; have k1x := K1.c0; have k1y := K1.c1; have lk1 := K1.lt; have n60 := cell_later (show Below w6.heap.size w6 ((w6.alloc (.cells #[.int .i64 ex0, .int .i64 ey0] 26)).alloc (.cells #[.int .i64 ex1, .int .i64 ey1] 26)) by go_grown) k1x; have n61 := cell_later (show Below w6.heap.size w6 ((w6.alloc (.cells #[.int .i64 ex0, .int .i64 ey0] 26)).alloc (.cells #[.int .i64 ex1, .int .i64 ey1] 26)) by go_grown) k1y; have G11 := BoxP.new (w6.alloc (.cells #[.int .i64 ex0, .int .i64 ey0] 26)) ex1 ey1; simp only [World.size_alloc] at G11; have n70 := G11.c0; have n71 := G11.c1; have ha6 := (ha5.later hb6).mono hb6.size)
                | (go_at_call 15; clear tk8; refine (eqPoint_c _ _ _ _ _).mono ?_; rw [hQ0]; rintro e w8 ⟨rfl, hb8⟩; have hB8 : Below w6.heap.size w6 w8 := (by go_grown : Below w6.heap.size w6 ((w6.alloc (.cells #[.int .i64 ex0, .int .i64 ey0] 26)).alloc (.cells #[.int .i64 ex1, .int .i64 ey1] 26))).trans (hb8.mono (by go_size)); have m60 := cell_later hb8 n60; have m61 := cell_later hb8 n61; have m70 := cell_later hb8 n70; have m71 := cell_later hb8 n71)
                | (go_at_call 15; refine (eqPoint_c _ _ _ _ _).mono ?_; rw [hQ1]; rintro e w9 ⟨rfl, hb9⟩; have hB9 := hB8.trans (hb9.mono hB8.size); have hb9' := grew hb6' hB9; have ha9 := (ha6.later hB9).mono hB9.size)
                | (go_at_call 12; refine (toPointS_e l _ _ _ _ hl h20 ((HA.out.later hb9').mono hb9'.size)).mono ?_; rintro e w7 ⟨b7, rfl, hc7, hb7⟩; have ha7 := hc7.at; have hb7' := grew hb9' hb7; have ha67 := (ha9.later hb7).mono hb7.size; clear hc7)
                | (go_at_call 16; refine (eqPointS_c l l _ _ _ _ _ _ _ hl hl h20 h20 ha67 ha7).mono ?_; rintro e wA ⟨rfl, hbA⟩))
              go_ret
              exact ⟨rfl, grew hb7' hbA⟩
          · go_simp
            refine hK.out _ _ ?_ (fun hHeld => ?_)
            · (refine keep2 ?_ (by with_reducible assumption); go_grown)
            clear hK K
            try simp only [Act.put, List.setIfInBounds_toArray, List.set_cons_zero, List.set_cons_succ]
            have hlt1 : w.heap.size < w2.heap.size := held_lt (by with_reducible assumption)
            have K1 := BoxP.new w2 0 0
            have hbB1 : Below w2.heap.size w2 (w2.alloc (.cells #[.int .i64 0, .int .i64 0] 26)) := by go_grown
            replace ha1 := (ha1.later hbB1).mono hbB1.size
            have hne01 : B0 < w2.heap.size := K0.lt
            replace K0 := K0.later hbB1
            generalize w2.heap.size = B1 at K1 hlt1 hne01 ⊢
            generalize w2.alloc (.cells #[.int .i64 0, .int .i64 0] 26) = wB1 at *
            refine wpAnyH_ready (rs := [4]) (by kernel_rfl) (by simp) ?_
            refine (AllReadyH.cons (o := { dst := some 23, op := Op.call { callee := Callee.value (Operand.func 19), args := #[Operand.tmp 20, Operand.tmp 22], argTypes := #[29, 26] }, type := 37, pos := "exact.go:3770", after := #[{ on := 1, ground := Ground.data }, { on := 3, ground := Ground.data }, { on := 3, ground := Ground.chain }], guard := none }) rfl (fun K hK => ?_) AllReadyH.nil)
            · go_simp
              refine (tangentsSpec_c l x y _ _ _ _ hl h20 ha1).mono ?_
              rw [hE0, hE1]
              rintro e w3 ⟨rfl, hb3⟩
              go_wp2_with fail
              refine hK.out _ _ ?_ (fun hHeld => ?_)
              · exact keep2 hb3 (by with_reducible assumption)
              clear hK K
              try simp only [Act.put, List.setIfInBounds_toArray, List.set_cons_zero, List.set_cons_succ]
              replace ha1 := (ha1.later hb3).mono hb3.size
              replace K0 := K0.later hb3
              replace K1 := K1.later hb3
              refine wpAnyH_take (i := 5) (oi := { dst := some 18, op := Op.move (Operand.tmp 23), type := 37, pos := "exact.go:3770", after := #[{ on := 4, ground := Ground.data }], guard := none }) (v := ?v82x5) rfl (by kernel_rfl) (by kernel_rfl) (by kernel_rfl) (fun _ _ _ h => h) (Or.inl ⟨by rfl, ?hy82x5⟩) (by with_reducible assumption) ?rest82x5
              case hy82x5 => (intro w hSw; (try dsimp only at hSw); go_simp; try with_reducible rfl)
              case' rest82x5 => (try simp only [Act.put, List.setIfInBounds_toArray, List.set_cons_zero, List.set_cons_succ])
              refine wpAnyH_take (i := 6) (oi := { dst := some 24, op := Op.extract (Operand.tmp 18) 0, type := 26, pos := "exact.go:3770", after := #[{ on := 5, ground := Ground.data }], guard := none }) (v := ?v83x6) rfl (by kernel_rfl) (by kernel_rfl) (by kernel_rfl) (fun _ _ _ h => h) (Or.inl ⟨by rfl, ?hy83x6⟩) (by with_reducible assumption) ?rest83x6
              case hy83x6 => (intro w hSw; (try dsimp only at hSw); go_simp; try with_reducible rfl)
              case' rest83x6 => (try simp only [Act.put, List.setIfInBounds_toArray, List.set_cons_zero, List.set_cons_succ])
              refine wpAnyH_take (i := 7) (oi := { dst := some 25, op := Op.extract (Operand.tmp 18) 1, type := 26, pos := "exact.go:3770", after := #[{ on := 5, ground := Ground.data }, { on := 11, ground := Ground.gcOnly Departure.lateStores }], guard := none }) (v := ?v84x7) rfl (by kernel_rfl) (by kernel_rfl) (by kernel_rfl) (fun _ _ _ h => h) (Or.inl ⟨by rfl, ?hy84x7⟩) (by with_reducible assumption) ?rest84x7
              case hy84x7 => (intro w hSw; (try dsimp only at hSw); go_simp; try with_reducible rfl)
              case' rest84x7 => (try simp only [Act.put, List.setIfInBounds_toArray, List.set_cons_zero, List.set_cons_succ])
              refine wpAnyH_take (i := 8) (oi := { dst := some 26, op := Op.extract (Operand.tmp 18) 2, type := 4, pos := "exact.go:3770", after := #[{ on := 5, ground := Ground.data }, { on := 12, ground := Ground.gcOnly Departure.lateStores }], guard := none }) (v := ?v85x8) rfl (by kernel_rfl) (by kernel_rfl) (by kernel_rfl) (fun _ _ _ h => h) (Or.inl ⟨by rfl, ?hy85x8⟩) (by with_reducible assumption) ?rest85x8
              case hy85x8 => (intro w hSw; (try dsimp only at hSw); go_simp; try with_reducible rfl)
              case' rest85x8 => (try simp only [Act.put, List.setIfInBounds_toArray, List.set_cons_zero, List.set_cons_succ])
              have f00 := K0.f 0
              have f01 := K0.f 1
              have d00 := K0.c0
              have d01 := K0.c1
              refine wpAnyH_ready (rs := [11]) (by kernel_rfl) (by simp) ?_
              refine AllReadyH.cons (o := { dst := none, op := Op.store 26 (Operand.tmp 6) (Operand.tmp 24), type := 0, pos := "exact.go:3770", after := #[{ on := 9, ground := Ground.data }, { on := 6, ground := Ground.data }, { on := 4, ground := Ground.chain }, { on := 0, ground := Ground.phase }, { on := 1, ground := Ground.phase }, { on := 2, ground := Ground.phase }, { on := 3, ground := Ground.phase }, { on := 4, ground := Ground.phase }, { on := 5, ground := Ground.phase }, { on := 6, ground := Ground.phase }, { on := 7, ground := Ground.textOnly Departure.lateStores }, { on := 8, ground := Ground.textOnly Departure.lateStores }, { on := 9, ground := Ground.phase }, { on := 10, ground := Ground.phase }], guard := none }) rfl (fun K hK => ?_) AllReadyH.nil
              go_simp
              refine hK.out _ _ ?_ (fun hHeld => ?_)
              · exact keepSt (B := B0) hHeld hlt0 _ _
              clear hK K
              try simp only [Act.put, List.setIfInBounds_toArray, List.set_cons_zero, List.set_cons_succ]
              clear f00 f01 d00 d01
              replace K0 := K0.set ex0 ey0
              replace K1 := ((K1.other (B' := B0) (i := 0) (by omega) (.int .i64 ex0)).other (B' := B0) (i := 1) (by omega) (.int .i64 ey0))
              generalize (w3.setCell ⟨B0, 0, none⟩ (.int .i64 ex0)).setCell ⟨B0, 1, none⟩ (.int .i64 ey0) = wS0 at hHeld K0 K1 ⊢
              have f10 := K1.f 0
              have f11 := K1.f 1
              have d10 := K1.c0
              have d11 := K1.c1
              refine wpAnyH_ready (rs := [12]) (by kernel_rfl) (by simp) ?_
              refine AllReadyH.cons (o := { dst := none, op := Op.store 26 (Operand.tmp 7) (Operand.tmp 25), type := 0, pos := "exact.go:3770", after := #[{ on := 10, ground := Ground.data }, { on := 7, ground := Ground.data }, { on := 11, ground := Ground.chain }, { on := 0, ground := Ground.phase }, { on := 1, ground := Ground.phase }, { on := 2, ground := Ground.phase }, { on := 3, ground := Ground.phase }, { on := 4, ground := Ground.phase }, { on := 5, ground := Ground.phase }, { on := 6, ground := Ground.phase }, { on := 7, ground := Ground.phase }, { on := 8, ground := Ground.textOnly Departure.lateStores }, { on := 9, ground := Ground.phase }, { on := 10, ground := Ground.phase }, { on := 11, ground := Ground.phase }], guard := none }) rfl (fun K hK => ?_) AllReadyH.nil
              go_simp
              refine hK.out _ _ ?_ (fun hHeld => ?_)
              · exact keepSt (B := B1) hHeld hlt1 _ _
              clear hK K
              try simp only [Act.put, List.setIfInBounds_toArray, List.set_cons_zero, List.set_cons_succ]
              clear f10 f11 d10 d11
              replace K1 := K1.set ex1 ey1
              replace K0 := ((K0.other (B' := B1) (i := 0) (by omega) (.int .i64 ex1)).other (B' := B1) (i := 1) (by omega) (.int .i64 ey1))
              generalize (wS0.setCell ⟨B1, 0, none⟩ (.int .i64 ex1)).setCell ⟨B1, 1, none⟩ (.int .i64 ey1) = wS1 at hHeld K0 K1 ⊢
              refine wpAnyH_take (i := 13) (oi := { dst := some 8, op := Op.assign (Operand.tmp 26), type := 4, pos := "exact.go:3770", after := #[{ on := 8, ground := Ground.data }, { on := 12, ground := Ground.chain }, { on := 0, ground := Ground.phase }, { on := 1, ground := Ground.phase }, { on := 2, ground := Ground.phase }, { on := 3, ground := Ground.phase }, { on := 4, ground := Ground.phase }, { on := 5, ground := Ground.phase }, { on := 6, ground := Ground.phase }, { on := 7, ground := Ground.phase }, { on := 8, ground := Ground.phase }, { on := 9, ground := Ground.phase }, { on := 10, ground := Ground.phase }, { on := 11, ground := Ground.phase }, { on := 12, ground := Ground.phase }], guard := none }) (v := ?v86x13) rfl (by kernel_rfl) (by kernel_rfl) (by kernel_rfl) (fun _ _ _ h => h) (Or.inl ⟨by rfl, ?hy86x13⟩) (by with_reducible assumption) ?rest86x13
              case hy86x13 => (intro w hSw; (try dsimp only at hSw); go_simp; try with_reducible rfl)
              case' rest86x13 => (try simp only [Act.put, List.setIfInBounds_toArray, List.set_cons_zero, List.set_cons_succ])
              refine wpAnyH_done (by kernel_rfl) ?_ _
              obtain ⟨r0, r1, hb3'⟩ := hHeld
              go_wp2_with (first
                | (go_at_call 12; clear tok2; refine (toPointS_e l _ _ _ _ hl h20 ((HA.out.later hb3').mono hb3'.size)).mono ?_; rintro e w4 ⟨b4, rfl, hc4, hb4⟩; have ha4 := hc4.at; have hb4' := grew hb3' hb4; have s0 := cell_later hb4 r0; have s1 := cell_later hb4 r1; replace K0 := K0.later hb4; replace K1 := K1.later hb4; clear hc4)
                | (go_at_call 13; refine (toPoint_c _ _ _).mono ?_; rintro e w5 ⟨rfl, hb5⟩; have hb5' := grew hb4' hb5; replace K0 := K0.later hb5; replace K1 := K1.later hb5; have ha5 := (ha4.later hb5).mono hb5.size)
                | (go_at_call 20; refine (tangentsImpl_c l x y _ _ _ _ hl h20 ha5 (cell_later hb5' C0.out)).mono ?_; rw [hE0, hE1]; rintro e w6 ⟨rfl, hb6⟩; have hb6' := grew hb5' hb6; replace K0 := K0.later hb6; replace K1 := K1.later hb6; have k0x := K0.c0; have k0y := K0.c1; have lk0 := K0.lt; have k1x := K1.c0; have k1y := K1.c1; have lk1 := K1.lt; have n60 := cell_later (show Below w6.heap.size w6 ((w6.alloc (.cells #[.int .i64 ex0, .int .i64 ey0] 26)).alloc (.cells #[.int .i64 ex1, .int .i64 ey1] 26)) by go_grown) k1x; have n61 := cell_later (show Below w6.heap.size w6 ((w6.alloc (.cells #[.int .i64 ex0, .int .i64 ey0] 26)).alloc (.cells #[.int .i64 ex1, .int .i64 ey1] 26)) by go_grown) k1y; have G11 := BoxP.new (w6.alloc (.cells #[.int .i64 ex0, .int .i64 ey0] 26)) ex1 ey1; simp only [World.size_alloc] at G11; have n70 := G11.c0; have n71 := G11.c1; have ha6 := (ha5.later hb6).mono hb6.size)
                | (go_at_call 15; clear tk8; refine (eqPoint_c _ _ _ _ _).mono ?_; rw [hQ0]; rintro e w8 ⟨rfl, hb8⟩; have hB8 : Below w6.heap.size w6 w8 := (by go_grown : Below w6.heap.size w6 ((w6.alloc (.cells #[.int .i64 ex0, .int .i64 ey0] 26)).alloc (.cells #[.int .i64 ex1, .int .i64 ey1] 26))).trans (hb8.mono (by go_size)); have m60 := cell_later hb8 n60; have m61 := cell_later hb8 n61; have m70 := cell_later hb8 n70; have m71 := cell_later hb8 n71)
                | (go_at_call 15; refine (eqPoint_c _ _ _ _ _).mono ?_; rw [hQ1]; rintro e w9 ⟨rfl, hb9⟩; have hB9 := hB8.trans (hb9.mono hB8.size); have hb9' := grew hb6' hB9; have ha9 := (ha6.later hB9).mono hB9.size)
                | (go_at_call 12; refine (toPointS_e l _ _ _ _ hl h20 ((HA.out.later hb9').mono hb9'.size)).mono ?_; rintro e w7 ⟨b7, rfl, hc7, hb7⟩; have ha7 := hc7.at; have hb7' := grew hb9' hb7; have ha67 := (ha9.later hb7).mono hb7.size; clear hc7)
                | (go_at_call 16; refine (eqPointS_c l l _ _ _ _ _ _ _ hl hl h20 h20 ha67 ha7).mono ?_; rintro e wA ⟨rfl, hbA⟩))
              go_ret
              exact ⟨rfl, grew hb7' hbA⟩
        · go_simp
          refine hK.out _ _ ?_ (fun hHeld => ?_)
          · (refine keep2 ?_ (by with_reducible assumption); go_grown)
          clear hK K
          try simp only [Act.put, List.setIfInBounds_toArray, List.set_cons_zero, List.set_cons_succ]
          have hlt1 : w.heap.size < w1.heap.size := held_lt (by with_reducible assumption)
          have K1 := BoxP.new w1 0 0
          have hbB1 : Below w1.heap.size w1 (w1.alloc (.cells #[.int .i64 0, .int .i64 0] 26)) := by go_grown
          replace ha1 := (ha1.later hbB1).mono hbB1.size
          have hne01 : B0 < w1.heap.size := K0.lt
          replace K0 := K0.later hbB1
          generalize w1.heap.size = B1 at K1 hlt1 hne01 ⊢
          generalize w1.alloc (.cells #[.int .i64 0, .int .i64 0] 26) = wB1 at *
          refine wpAnyH_ready (rs := [3]) (by kernel_rfl) (by simp) ?_
          refine (AllReadyH.cons (o := { dst := some 22, op := Op.call { callee := Callee.value (Operand.func 13), args := #[Operand.tmp 21], argTypes := #[24] }, type := 26, pos := "exact.go:3770", after := #[{ on := 2, ground := Ground.data }, { on := 1, ground := Ground.chain }], guard := none }) rfl (fun K hK => ?_) AllReadyH.nil)
          · go_simp
            refine (toPoint_c _ _ _).mono ?_
            rintro e w2 ⟨rfl, hb2⟩
            go_wp2_with fail
            refine hK.out _ _ ?_ (fun hHeld => ?_)
            · exact keep2 hb2 (by with_reducible assumption)
            clear hK K
            try simp only [Act.put, List.setIfInBounds_toArray, List.set_cons_zero, List.set_cons_succ]
            replace ha1 := (ha1.later hb2).mono hb2.size
            replace K0 := K0.later hb2
            replace K1 := K1.later hb2
            refine wpAnyH_ready (rs := [4]) (by kernel_rfl) (by simp) ?_
            refine (AllReadyH.cons (o := { dst := some 23, op := Op.call { callee := Callee.value (Operand.func 19), args := #[Operand.tmp 20, Operand.tmp 22], argTypes := #[29, 26] }, type := 37, pos := "exact.go:3770", after := #[{ on := 1, ground := Ground.data }, { on := 3, ground := Ground.data }, { on := 3, ground := Ground.chain }], guard := none }) rfl (fun K hK => ?_) AllReadyH.nil)
            · go_simp
              refine (tangentsSpec_c l x y _ _ _ _ hl h20 ha1).mono ?_
              rw [hE0, hE1]
              rintro e w3 ⟨rfl, hb3⟩
              go_wp2_with fail
              refine hK.out _ _ ?_ (fun hHeld => ?_)
              · exact keep2 hb3 (by with_reducible assumption)
              clear hK K
              try simp only [Act.put, List.setIfInBounds_toArray, List.set_cons_zero, List.set_cons_succ]
              replace ha1 := (ha1.later hb3).mono hb3.size
              replace K0 := K0.later hb3
              replace K1 := K1.later hb3
              refine wpAnyH_take (i := 5) (oi := { dst := some 18, op := Op.move (Operand.tmp 23), type := 37, pos := "exact.go:3770", after := #[{ on := 4, ground := Ground.data }], guard := none }) (v := ?v87x5) rfl (by kernel_rfl) (by kernel_rfl) (by kernel_rfl) (fun _ _ _ h => h) (Or.inl ⟨by rfl, ?hy87x5⟩) (by with_reducible assumption) ?rest87x5
              case hy87x5 => (intro w hSw; (try dsimp only at hSw); go_simp; try with_reducible rfl)
              case' rest87x5 => (try simp only [Act.put, List.setIfInBounds_toArray, List.set_cons_zero, List.set_cons_succ])
              refine wpAnyH_take (i := 6) (oi := { dst := some 24, op := Op.extract (Operand.tmp 18) 0, type := 26, pos := "exact.go:3770", after := #[{ on := 5, ground := Ground.data }], guard := none }) (v := ?v88x6) rfl (by kernel_rfl) (by kernel_rfl) (by kernel_rfl) (fun _ _ _ h => h) (Or.inl ⟨by rfl, ?hy88x6⟩) (by with_reducible assumption) ?rest88x6
              case hy88x6 => (intro w hSw; (try dsimp only at hSw); go_simp; try with_reducible rfl)
              case' rest88x6 => (try simp only [Act.put, List.setIfInBounds_toArray, List.set_cons_zero, List.set_cons_succ])
              refine wpAnyH_take (i := 7) (oi := { dst := some 25, op := Op.extract (Operand.tmp 18) 1, type := 26, pos := "exact.go:3770", after := #[{ on := 5, ground := Ground.data }, { on := 11, ground := Ground.gcOnly Departure.lateStores }], guard := none }) (v := ?v89x7) rfl (by kernel_rfl) (by kernel_rfl) (by kernel_rfl) (fun _ _ _ h => h) (Or.inl ⟨by rfl, ?hy89x7⟩) (by with_reducible assumption) ?rest89x7
              case hy89x7 => (intro w hSw; (try dsimp only at hSw); go_simp; try with_reducible rfl)
              case' rest89x7 => (try simp only [Act.put, List.setIfInBounds_toArray, List.set_cons_zero, List.set_cons_succ])
              refine wpAnyH_take (i := 8) (oi := { dst := some 26, op := Op.extract (Operand.tmp 18) 2, type := 4, pos := "exact.go:3770", after := #[{ on := 5, ground := Ground.data }, { on := 12, ground := Ground.gcOnly Departure.lateStores }], guard := none }) (v := ?v90x8) rfl (by kernel_rfl) (by kernel_rfl) (by kernel_rfl) (fun _ _ _ h => h) (Or.inl ⟨by rfl, ?hy90x8⟩) (by with_reducible assumption) ?rest90x8
              case hy90x8 => (intro w hSw; (try dsimp only at hSw); go_simp; try with_reducible rfl)
              case' rest90x8 => (try simp only [Act.put, List.setIfInBounds_toArray, List.set_cons_zero, List.set_cons_succ])
              have f00 := K0.f 0
              have f01 := K0.f 1
              have d00 := K0.c0
              have d01 := K0.c1
              refine wpAnyH_ready (rs := [11]) (by kernel_rfl) (by simp) ?_
              refine AllReadyH.cons (o := { dst := none, op := Op.store 26 (Operand.tmp 6) (Operand.tmp 24), type := 0, pos := "exact.go:3770", after := #[{ on := 9, ground := Ground.data }, { on := 6, ground := Ground.data }, { on := 4, ground := Ground.chain }, { on := 0, ground := Ground.phase }, { on := 1, ground := Ground.phase }, { on := 2, ground := Ground.phase }, { on := 3, ground := Ground.phase }, { on := 4, ground := Ground.phase }, { on := 5, ground := Ground.phase }, { on := 6, ground := Ground.phase }, { on := 7, ground := Ground.textOnly Departure.lateStores }, { on := 8, ground := Ground.textOnly Departure.lateStores }, { on := 9, ground := Ground.phase }, { on := 10, ground := Ground.phase }], guard := none }) rfl (fun K hK => ?_) AllReadyH.nil
              go_simp
              refine hK.out _ _ ?_ (fun hHeld => ?_)
              · exact keepSt (B := B0) hHeld hlt0 _ _
              clear hK K
              try simp only [Act.put, List.setIfInBounds_toArray, List.set_cons_zero, List.set_cons_succ]
              clear f00 f01 d00 d01
              replace K0 := K0.set ex0 ey0
              replace K1 := ((K1.other (B' := B0) (i := 0) (by omega) (.int .i64 ex0)).other (B' := B0) (i := 1) (by omega) (.int .i64 ey0))
              generalize (w3.setCell ⟨B0, 0, none⟩ (.int .i64 ex0)).setCell ⟨B0, 1, none⟩ (.int .i64 ey0) = wS0 at hHeld K0 K1 ⊢
              have f10 := K1.f 0
              have f11 := K1.f 1
              have d10 := K1.c0
              have d11 := K1.c1
              refine wpAnyH_ready (rs := [12]) (by kernel_rfl) (by simp) ?_
              refine AllReadyH.cons (o := { dst := none, op := Op.store 26 (Operand.tmp 7) (Operand.tmp 25), type := 0, pos := "exact.go:3770", after := #[{ on := 10, ground := Ground.data }, { on := 7, ground := Ground.data }, { on := 11, ground := Ground.chain }, { on := 0, ground := Ground.phase }, { on := 1, ground := Ground.phase }, { on := 2, ground := Ground.phase }, { on := 3, ground := Ground.phase }, { on := 4, ground := Ground.phase }, { on := 5, ground := Ground.phase }, { on := 6, ground := Ground.phase }, { on := 7, ground := Ground.phase }, { on := 8, ground := Ground.textOnly Departure.lateStores }, { on := 9, ground := Ground.phase }, { on := 10, ground := Ground.phase }, { on := 11, ground := Ground.phase }], guard := none }) rfl (fun K hK => ?_) AllReadyH.nil
              go_simp
              refine hK.out _ _ ?_ (fun hHeld => ?_)
              · exact keepSt (B := B1) hHeld hlt1 _ _
              clear hK K
              try simp only [Act.put, List.setIfInBounds_toArray, List.set_cons_zero, List.set_cons_succ]
              clear f10 f11 d10 d11
              replace K1 := K1.set ex1 ey1
              replace K0 := ((K0.other (B' := B1) (i := 0) (by omega) (.int .i64 ex1)).other (B' := B1) (i := 1) (by omega) (.int .i64 ey1))
              generalize (wS0.setCell ⟨B1, 0, none⟩ (.int .i64 ex1)).setCell ⟨B1, 1, none⟩ (.int .i64 ey1) = wS1 at hHeld K0 K1 ⊢
              refine wpAnyH_take (i := 13) (oi := { dst := some 8, op := Op.assign (Operand.tmp 26), type := 4, pos := "exact.go:3770", after := #[{ on := 8, ground := Ground.data }, { on := 12, ground := Ground.chain }, { on := 0, ground := Ground.phase }, { on := 1, ground := Ground.phase }, { on := 2, ground := Ground.phase }, { on := 3, ground := Ground.phase }, { on := 4, ground := Ground.phase }, { on := 5, ground := Ground.phase }, { on := 6, ground := Ground.phase }, { on := 7, ground := Ground.phase }, { on := 8, ground := Ground.phase }, { on := 9, ground := Ground.phase }, { on := 10, ground := Ground.phase }, { on := 11, ground := Ground.phase }, { on := 12, ground := Ground.phase }], guard := none }) (v := ?v91x13) rfl (by kernel_rfl) (by kernel_rfl) (by kernel_rfl) (fun _ _ _ h => h) (Or.inl ⟨by rfl, ?hy91x13⟩) (by with_reducible assumption) ?rest91x13
              case hy91x13 => (intro w hSw; (try dsimp only at hSw); go_simp; try with_reducible rfl)
              case' rest91x13 => (try simp only [Act.put, List.setIfInBounds_toArray, List.set_cons_zero, List.set_cons_succ])
              refine wpAnyH_done (by kernel_rfl) ?_ _
              obtain ⟨r0, r1, hb3'⟩ := hHeld
              go_wp2_with (first
                | (go_at_call 12; clear tok2; refine (toPointS_e l _ _ _ _ hl h20 ((HA.out.later hb3').mono hb3'.size)).mono ?_; rintro e w4 ⟨b4, rfl, hc4, hb4⟩; have ha4 := hc4.at; have hb4' := grew hb3' hb4; have s0 := cell_later hb4 r0; have s1 := cell_later hb4 r1; replace K0 := K0.later hb4; replace K1 := K1.later hb4; clear hc4)
                | (go_at_call 13; refine (toPoint_c _ _ _).mono ?_; rintro e w5 ⟨rfl, hb5⟩; have hb5' := grew hb4' hb5; replace K0 := K0.later hb5; replace K1 := K1.later hb5; have ha5 := (ha4.later hb5).mono hb5.size)
                | (go_at_call 20; refine (tangentsImpl_c l x y _ _ _ _ hl h20 ha5 (cell_later hb5' C0.out)).mono ?_; rw [hE0, hE1]; rintro e w6 ⟨rfl, hb6⟩; have hb6' := grew hb5' hb6; replace K0 := K0.later hb6; replace K1 := K1.later hb6; have k0x := K0.c0; have k0y := K0.c1; have lk0 := K0.lt; have k1x := K1.c0; have k1y := K1.c1; have lk1 := K1.lt; have n60 := cell_later (show Below w6.heap.size w6 ((w6.alloc (.cells #[.int .i64 ex0, .int .i64 ey0] 26)).alloc (.cells #[.int .i64 ex1, .int .i64 ey1] 26)) by go_grown) k1x; have n61 := cell_later (show Below w6.heap.size w6 ((w6.alloc (.cells #[.int .i64 ex0, .int .i64 ey0] 26)).alloc (.cells #[.int .i64 ex1, .int .i64 ey1] 26)) by go_grown) k1y; have G11 := BoxP.new (w6.alloc (.cells #[.int .i64 ex0, .int .i64 ey0] 26)) ex1 ey1; simp only [World.size_alloc] at G11; have n70 := G11.c0; have n71 := G11.c1; have ha6 := (ha5.later hb6).mono hb6.size)
                | (go_at_call 15; clear tk8; refine (eqPoint_c _ _ _ _ _).mono ?_; rw [hQ0]; rintro e w8 ⟨rfl, hb8⟩; have hB8 : Below w6.heap.size w6 w8 := (by go_grown : Below w6.heap.size w6 ((w6.alloc (.cells #[.int .i64 ex0, .int .i64 ey0] 26)).alloc (.cells #[.int .i64 ex1, .int .i64 ey1] 26))).trans (hb8.mono (by go_size)); have m60 := cell_later hb8 n60; have m61 := cell_later hb8 n61; have m70 := cell_later hb8 n70; have m71 := cell_later hb8 n71)
                | (go_at_call 15; refine (eqPoint_c _ _ _ _ _).mono ?_; rw [hQ1]; rintro e w9 ⟨rfl, hb9⟩; have hB9 := hB8.trans (hb9.mono hB8.size); have hb9' := grew hb6' hB9; have ha9 := (ha6.later hB9).mono hB9.size)
                | (go_at_call 12; refine (toPointS_e l _ _ _ _ hl h20 ((HA.out.later hb9').mono hb9'.size)).mono ?_; rintro e w7 ⟨b7, rfl, hc7, hb7⟩; have ha7 := hc7.at; have hb7' := grew hb9' hb7; have ha67 := (ha9.later hb7).mono hb7.size; clear hc7)
                | (go_at_call 16; refine (eqPointS_c l l _ _ _ _ _ _ _ hl hl h20 h20 ha67 ha7).mono ?_; rintro e wA ⟨rfl, hbA⟩))
              go_ret
              exact ⟨rfl, grew hb7' hbA⟩
      · go_simp
        refine hK.out _ _ ?_ (fun hHeld => ?_)
        · (refine keep2 ?_ (by with_reducible assumption); go_grown)
        clear hK K
        try simp only [Act.put, List.setIfInBounds_toArray, List.set_cons_zero, List.set_cons_succ]
        have hlt1 : w.heap.size < wB0.heap.size := held_lt (by with_reducible assumption)
        have K1 := BoxP.new wB0 0 0
        have hbB1 : Below wB0.heap.size wB0 (wB0.alloc (.cells #[.int .i64 0, .int .i64 0] 26)) := by go_grown
        have hne01 : B0 < wB0.heap.size := K0.lt
        replace K0 := K0.later hbB1
        generalize wB0.heap.size = B1 at K1 hlt1 hne01 ⊢
        generalize wB0.alloc (.cells #[.int .i64 0, .int .i64 0] 26) = wB1 at *
        refine wpAnyH_ready (rs := [1]) (by kernel_rfl) (by simp) ?_
        refine (AllReadyH.cons (o := { dst := some 20, op := Op.call { callee := Callee.value (Operand.func 12), args := #[Operand.tmp 19], argTypes := #[22] }, type := 29, pos := "exact.go:3770", after := #[{ on := 0, ground := Ground.data }], guard := none }) rfl (fun K hK => ?_) AllReadyH.nil)
        · go_simp
          refine (toPointS_e l _ _ _ _ hl h20 ((HA.out.later hHeld.2.2).mono hHeld.2.2.size)).mono ?_
          rintro e w1 ⟨b1, rfl, hc1, hb1⟩
          go_wp2_with fail
          refine hK.out _ _ ?_ (fun hHeld => ?_)
          · exact keep2 hb1 (by with_reducible assumption)
          clear hK K
          try simp only [Act.put, List.setIfInBounds_toArray, List.set_cons_zero, List.set_cons_succ]
          replace K0 := K0.later hb1
          replace K1 := K1.later hb1
          have ha1 := hc1.at
          refine wpAnyH_ready (rs := [3]) (by kernel_rfl) (by simp) ?_
          refine (AllReadyH.cons (o := { dst := some 22, op := Op.call { callee := Callee.value (Operand.func 13), args := #[Operand.tmp 21], argTypes := #[24] }, type := 26, pos := "exact.go:3770", after := #[{ on := 2, ground := Ground.data }, { on := 1, ground := Ground.chain }], guard := none }) rfl (fun K hK => ?_) AllReadyH.nil)
          · go_simp
            refine (toPoint_c _ _ _).mono ?_
            rintro e w2 ⟨rfl, hb2⟩
            go_wp2_with fail
            refine hK.out _ _ ?_ (fun hHeld => ?_)
            · exact keep2 hb2 (by with_reducible assumption)
            clear hK K
            try simp only [Act.put, List.setIfInBounds_toArray, List.set_cons_zero, List.set_cons_succ]
            replace ha1 := (ha1.later hb2).mono hb2.size
            replace K0 := K0.later hb2
            replace K1 := K1.later hb2
            refine wpAnyH_ready (rs := [4]) (by kernel_rfl) (by simp) ?_
            refine (AllReadyH.cons (o := { dst := some 23, op := Op.call { callee := Callee.value (Operand.func 19), args := #[Operand.tmp 20, Operand.tmp 22], argTypes := #[29, 26] }, type := 37, pos := "exact.go:3770", after := #[{ on := 1, ground := Ground.data }, { on := 3, ground := Ground.data }, { on := 3, ground := Ground.chain }], guard := none }) rfl (fun K hK => ?_) AllReadyH.nil)
            · go_simp
              refine (tangentsSpec_c l x y _ _ _ _ hl h20 ha1).mono ?_
              rw [hE0, hE1]
              rintro e w3 ⟨rfl, hb3⟩
              go_wp2_with fail
              refine hK.out _ _ ?_ (fun hHeld => ?_)
              · exact keep2 hb3 (by with_reducible assumption)
              clear hK K
              try simp only [Act.put, List.setIfInBounds_toArray, List.set_cons_zero, List.set_cons_succ]
              replace ha1 := (ha1.later hb3).mono hb3.size
              replace K0 := K0.later hb3
              replace K1 := K1.later hb3
              refine wpAnyH_take (i := 5) (oi := { dst := some 18, op := Op.move (Operand.tmp 23), type := 37, pos := "exact.go:3770", after := #[{ on := 4, ground := Ground.data }], guard := none }) (v := ?v92x5) rfl (by kernel_rfl) (by kernel_rfl) (by kernel_rfl) (fun _ _ _ h => h) (Or.inl ⟨by rfl, ?hy92x5⟩) (by with_reducible assumption) ?rest92x5
              case hy92x5 => (intro w hSw; (try dsimp only at hSw); go_simp; try with_reducible rfl)
              case' rest92x5 => (try simp only [Act.put, List.setIfInBounds_toArray, List.set_cons_zero, List.set_cons_succ])
              refine wpAnyH_take (i := 6) (oi := { dst := some 24, op := Op.extract (Operand.tmp 18) 0, type := 26, pos := "exact.go:3770", after := #[{ on := 5, ground := Ground.data }], guard := none }) (v := ?v93x6) rfl (by kernel_rfl) (by kernel_rfl) (by kernel_rfl) (fun _ _ _ h => h) (Or.inl ⟨by rfl, ?hy93x6⟩) (by with_reducible assumption) ?rest93x6
              case hy93x6 => (intro w hSw; (try dsimp only at hSw); go_simp; try with_reducible rfl)
              case' rest93x6 => (try simp only [Act.put, List.setIfInBounds_toArray, List.set_cons_zero, List.set_cons_succ])
              refine wpAnyH_take (i := 7) (oi := { dst := some 25, op := Op.extract (Operand.tmp 18) 1, type := 26, pos := "exact.go:3770", after := #[{ on := 5, ground := Ground.data }, { on := 11, ground := Ground.gcOnly Departure.lateStores }], guard := none }) (v := ?v94x7) rfl (by kernel_rfl) (by kernel_rfl) (by kernel_rfl) (fun _ _ _ h => h) (Or.inl ⟨by rfl, ?hy94x7⟩) (by with_reducible assumption) ?rest94x7
              case hy94x7 => (intro w hSw; (try dsimp only at hSw); go_simp; try with_reducible rfl)
              case' rest94x7 => (try simp only [Act.put, List.setIfInBounds_toArray, List.set_cons_zero, List.set_cons_succ])
              refine wpAnyH_take (i := 8) (oi := { dst := some 26, op := Op.extract (Operand.tmp 18) 2, type := 4, pos := "exact.go:3770", after := #[{ on := 5, ground := Ground.data }, { on := 12, ground := Ground.gcOnly Departure.lateStores }], guard := none }) (v := ?v95x8) rfl (by kernel_rfl) (by kernel_rfl) (by kernel_rfl) (fun _ _ _ h => h) (Or.inl ⟨by rfl, ?hy95x8⟩) (by with_reducible assumption) ?rest95x8
              case hy95x8 => (intro w hSw; (try dsimp only at hSw); go_simp; try with_reducible rfl)
              case' rest95x8 => (try simp only [Act.put, List.setIfInBounds_toArray, List.set_cons_zero, List.set_cons_succ])
              have f00 := K0.f 0
              have f01 := K0.f 1
              have d00 := K0.c0
              have d01 := K0.c1
              refine wpAnyH_ready (rs := [11]) (by kernel_rfl) (by simp) ?_
              refine AllReadyH.cons (o := { dst := none, op := Op.store 26 (Operand.tmp 6) (Operand.tmp 24), type := 0, pos := "exact.go:3770", after := #[{ on := 9, ground := Ground.data }, { on := 6, ground := Ground.data }, { on := 4, ground := Ground.chain }, { on := 0, ground := Ground.phase }, { on := 1, ground := Ground.phase }, { on := 2, ground := Ground.phase }, { on := 3, ground := Ground.phase }, { on := 4, ground := Ground.phase }, { on := 5, ground := Ground.phase }, { on := 6, ground := Ground.phase }, { on := 7, ground := Ground.textOnly Departure.lateStores }, { on := 8, ground := Ground.textOnly Departure.lateStores }, { on := 9, ground := Ground.phase }, { on := 10, ground := Ground.phase }], guard := none }) rfl (fun K hK => ?_) AllReadyH.nil
              go_simp
              refine hK.out _ _ ?_ (fun hHeld => ?_)
              · exact keepSt (B := B0) hHeld hlt0 _ _
              clear hK K
              try simp only [Act.put, List.setIfInBounds_toArray, List.set_cons_zero, List.set_cons_succ]
              clear f00 f01 d00 d01
              replace K0 := K0.set ex0 ey0
              replace K1 := ((K1.other (B' := B0) (i := 0) (by omega) (.int .i64 ex0)).other (B' := B0) (i := 1) (by omega) (.int .i64 ey0))
              generalize (w3.setCell ⟨B0, 0, none⟩ (.int .i64 ex0)).setCell ⟨B0, 1, none⟩ (.int .i64 ey0) = wS0 at hHeld K0 K1 ⊢
              have f10 := K1.f 0
              have f11 := K1.f 1
              have d10 := K1.c0
              have d11 := K1.c1
              refine wpAnyH_ready (rs := [12]) (by kernel_rfl) (by simp) ?_
              refine AllReadyH.cons (o := { dst := none, op := Op.store 26 (Operand.tmp 7) (Operand.tmp 25), type := 0, pos := "exact.go:3770", after := #[{ on := 10, ground := Ground.data }, { on := 7, ground := Ground.data }, { on := 11, ground := Ground.chain }, { on := 0, ground := Ground.phase }, { on := 1, ground := Ground.phase }, { on := 2, ground := Ground.phase }, { on := 3, ground := Ground.phase }, { on := 4, ground := Ground.phase }, { on := 5, ground := Ground.phase }, { on := 6, ground := Ground.phase }, { on := 7, ground := Ground.phase }, { on := 8, ground := Ground.textOnly Departure.lateStores }, { on := 9, ground := Ground.phase }, { on := 10, ground := Ground.phase }, { on := 11, ground := Ground.phase }], guard := none }) rfl (fun K hK => ?_) AllReadyH.nil
              go_simp
              refine hK.out _ _ ?_ (fun hHeld => ?_)
              · exact keepSt (B := B1) hHeld hlt1 _ _
              clear hK K
              try simp only [Act.put, List.setIfInBounds_toArray, List.set_cons_zero, List.set_cons_succ]
              clear f10 f11 d10 d11
              replace K1 := K1.set ex1 ey1
              replace K0 := ((K0.other (B' := B1) (i := 0) (by omega) (.int .i64 ex1)).other (B' := B1) (i := 1) (by omega) (.int .i64 ey1))
              generalize (wS0.setCell ⟨B1, 0, none⟩ (.int .i64 ex1)).setCell ⟨B1, 1, none⟩ (.int .i64 ey1) = wS1 at hHeld K0 K1 ⊢
              refine wpAnyH_take (i := 13) (oi := { dst := some 8, op := Op.assign (Operand.tmp 26), type := 4, pos := "exact.go:3770", after := #[{ on := 8, ground := Ground.data }, { on := 12, ground := Ground.chain }, { on := 0, ground := Ground.phase }, { on := 1, ground := Ground.phase }, { on := 2, ground := Ground.phase }, { on := 3, ground := Ground.phase }, { on := 4, ground := Ground.phase }, { on := 5, ground := Ground.phase }, { on := 6, ground := Ground.phase }, { on := 7, ground := Ground.phase }, { on := 8, ground := Ground.phase }, { on := 9, ground := Ground.phase }, { on := 10, ground := Ground.phase }, { on := 11, ground := Ground.phase }, { on := 12, ground := Ground.phase }], guard := none }) (v := ?v96x13) rfl (by kernel_rfl) (by kernel_rfl) (by kernel_rfl) (fun _ _ _ h => h) (Or.inl ⟨by rfl, ?hy96x13⟩) (by with_reducible assumption) ?rest96x13
              case hy96x13 => (intro w hSw; (try dsimp only at hSw); go_simp; try with_reducible rfl)
              case' rest96x13 => (try simp only [Act.put, List.setIfInBounds_toArray, List.set_cons_zero, List.set_cons_succ])
              refine wpAnyH_done (by kernel_rfl) ?_ _
              obtain ⟨r0, r1, hb3'⟩ := hHeld
              go_wp2_with (first
                | (go_at_call 12; clear tok2; refine (toPointS_e l _ _ _ _ hl h20 ((HA.out.later hb3').mono hb3'.size)).mono ?_; rintro e w4 ⟨b4, rfl, hc4, hb4⟩; have ha4 := hc4.at; have hb4' := grew hb3' hb4; have s0 := cell_later hb4 r0; have s1 := cell_later hb4 r1; replace K0 := K0.later hb4; replace K1 := K1.later hb4; clear hc4)
                | (go_at_call 13; refine (toPoint_c _ _ _).mono ?_; rintro e w5 ⟨rfl, hb5⟩; have hb5' := grew hb4' hb5; replace K0 := K0.later hb5; replace K1 := K1.later hb5; have ha5 := (ha4.later hb5).mono hb5.size)
                | (go_at_call 20; refine (tangentsImpl_c l x y _ _ _ _ hl h20 ha5 (cell_later hb5' C0.out)).mono ?_; rw [hE0, hE1]; rintro e w6 ⟨rfl, hb6⟩; have hb6' := grew hb5' hb6; replace K0 := K0.later hb6; replace K1 := K1.later hb6; have k0x := K0.c0; have k0y := K0.c1; have lk0 := K0.lt; have k1x := K1.c0; have k1y := K1.c1; have lk1 := K1.lt; have n60 := cell_later (show Below w6.heap.size w6 ((w6.alloc (.cells #[.int .i64 ex0, .int .i64 ey0] 26)).alloc (.cells #[.int .i64 ex1, .int .i64 ey1] 26)) by go_grown) k1x; have n61 := cell_later (show Below w6.heap.size w6 ((w6.alloc (.cells #[.int .i64 ex0, .int .i64 ey0] 26)).alloc (.cells #[.int .i64 ex1, .int .i64 ey1] 26)) by go_grown) k1y; have G11 := BoxP.new (w6.alloc (.cells #[.int .i64 ex0, .int .i64 ey0] 26)) ex1 ey1; simp only [World.size_alloc] at G11; have n70 := G11.c0; have n71 := G11.c1; have ha6 := (ha5.later hb6).mono hb6.size)
                | (go_at_call 15; clear tk8; refine (eqPoint_c _ _ _ _ _).mono ?_; rw [hQ0]; rintro e w8 ⟨rfl, hb8⟩; have hB8 : Below w6.heap.size w6 w8 := (by go_grown : Below w6.heap.size w6 ((w6.alloc (.cells #[.int .i64 ex0, .int .i64 ey0] 26)).alloc (.cells #[.int .i64 ex1, .int .i64 ey1] 26))).trans (hb8.mono (by go_size)); have m60 := cell_later hb8 n60; have m61 := cell_later hb8 n61; have m70 := cell_later hb8 n70; have m71 := cell_later hb8 n71)
                | (go_at_call 15; refine (eqPoint_c _ _ _ _ _).mono ?_; rw [hQ1]; rintro e w9 ⟨rfl, hb9⟩; have hB9 := hB8.trans (hb9.mono hB8.size); have hb9' := grew hb6' hB9; have ha9 := (ha6.later hB9).mono hB9.size)
                | (go_at_call 12; refine (toPointS_e l _ _ _ _ hl h20 ((HA.out.later hb9').mono hb9'.size)).mono ?_; rintro e w7 ⟨b7, rfl, hc7, hb7⟩; have ha7 := hc7.at; have hb7' := grew hb9' hb7; have ha67 := (ha9.later hb7).mono hb7.size; clear hc7)
                | (go_at_call 16; refine (eqPointS_c l l _ _ _ _ _ _ _ hl hl h20 h20 ha67 ha7).mono ?_; rintro e wA ⟨rfl, hbA⟩))
              go_ret
              exact ⟨rfl, grew hb7' hbA⟩
    · go_simp
      refine hK.out _ _ ?_ (fun hHeld => ?_)
      · (refine keep2 ?_ (by with_reducible assumption); go_grown)
      clear hK K
      try simp only [Act.put, List.setIfInBounds_toArray, List.set_cons_zero, List.set_cons_succ]
      have hlt1 : w.heap.size < w0.heap.size := held_lt (by with_reducible assumption)
      have K1 := BoxP.new w0 0 0
      have hbB1 : Below w0.heap.size w0 (w0.alloc (.cells #[.int .i64 0, .int .i64 0] 26)) := by go_grown
      generalize w0.heap.size = B1 at K1 hlt1  ⊢
      generalize w0.alloc (.cells #[.int .i64 0, .int .i64 0] 26) = wB1 at *
      refine wpAnyH_ready (rs := [1, 9]) (by kernel_rfl) (by simp) ?_
      refine (AllReadyH.cons (o := { dst := some 20, op := Op.call { callee := Callee.value (Operand.func 12), args := #[Operand.tmp 19], argTypes := #[22] }, type := 29, pos := "exact.go:3770", after := #[{ on := 0, ground := Ground.data }], guard := none }) rfl (fun K hK => ?_) (AllReadyH.cons (o := { dst := some 6, op := Op.alloc 26, type := 0, pos := "exact.go:3770", after := #[], guard := none }) rfl (fun K hK => ?_) AllReadyH.nil))
      · go_simp
        refine (toPointS_e l _ _ _ _ hl h20 ((HA.out.later hHeld.2.2).mono hHeld.2.2.size)).mono ?_
        rintro e w1 ⟨b1, rfl, hc1, hb1⟩
        go_wp2_with fail
        refine hK.out _ _ ?_ (fun hHeld => ?_)
        · exact keep2 hb1 (by with_reducible assumption)
        clear hK K
        try simp only [Act.put, List.setIfInBounds_toArray, List.set_cons_zero, List.set_cons_succ]
        replace K1 := K1.later hb1
        have ha1 := hc1.at
        refine wpAnyH_ready (rs := [3, 9]) (by kernel_rfl) (by simp) ?_
        refine (AllReadyH.cons (o := { dst := some 22, op := Op.call { callee := Callee.value (Operand.func 13), args := #[Operand.tmp 21], argTypes := #[24] }, type := 26, pos := "exact.go:3770", after := #[{ on := 2, ground := Ground.data }, { on := 1, ground := Ground.chain }], guard := none }) rfl (fun K hK => ?_) (AllReadyH.cons (o := { dst := some 6, op := Op.alloc 26, type := 0, pos := "exact.go:3770", after := #[], guard := none }) rfl (fun K hK => ?_) AllReadyH.nil))
        · go_simp
          refine (toPoint_c _ _ _).mono ?_
          rintro e w2 ⟨rfl, hb2⟩
          go_wp2_with fail
          refine hK.out _ _ ?_ (fun hHeld => ?_)
          · exact keep2 hb2 (by with_reducible assumption)
          clear hK K
          try simp only [Act.put, List.setIfInBounds_toArray, List.set_cons_zero, List.set_cons_succ]
          replace ha1 := (ha1.later hb2).mono hb2.size
          replace K1 := K1.later hb2
          refine wpAnyH_ready (rs := [4, 9]) (by kernel_rfl) (by simp) ?_
          refine (AllReadyH.cons (o := { dst := some 23, op := Op.call { callee := Callee.value (Operand.func 19), args := #[Operand.tmp 20, Operand.tmp 22], argTypes := #[29, 26] }, type := 37, pos := "exact.go:3770", after := #[{ on := 1, ground := Ground.data }, { on := 3, ground := Ground.data }, { on := 3, ground := Ground.chain }], guard := none }) rfl (fun K hK => ?_) (AllReadyH.cons (o := { dst := some 6, op := Op.alloc 26, type := 0, pos := "exact.go:3770", after := #[], guard := none }) rfl (fun K hK => ?_) AllReadyH.nil))
          · go_simp
            refine (tangentsSpec_c l x y _ _ _ _ hl h20 ha1).mono ?_
            rw [hE0, hE1]
            rintro e w3 ⟨rfl, hb3⟩
            go_wp2_with fail
            refine hK.out _ _ ?_ (fun hHeld => ?_)
            · exact keep2 hb3 (by with_reducible assumption)
            clear hK K
            try simp only [Act.put, List.setIfInBounds_toArray, List.set_cons_zero, List.set_cons_succ]
            replace ha1 := (ha1.later hb3).mono hb3.size
            replace K1 := K1.later hb3
            refine wpAnyH_take (i := 5) (oi := { dst := some 18, op := Op.move (Operand.tmp 23), type := 37, pos := "exact.go:3770", after := #[{ on := 4, ground := Ground.data }], guard := none }) (v := ?v97x5) rfl (by kernel_rfl) (by kernel_rfl) (by kernel_rfl) (fun _ _ _ h => h) (Or.inl ⟨by rfl, ?hy97x5⟩) (by with_reducible assumption) ?rest97x5
            case hy97x5 => (intro w hSw; (try dsimp only at hSw); go_simp; try with_reducible rfl)
            case' rest97x5 => (try simp only [Act.put, List.setIfInBounds_toArray, List.set_cons_zero, List.set_cons_succ])
            refine wpAnyH_take (i := 6) (oi := { dst := some 24, op := Op.extract (Operand.tmp 18) 0, type := 26, pos := "exact.go:3770", after := #[{ on := 5, ground := Ground.data }], guard := none }) (v := ?v98x6) rfl (by kernel_rfl) (by kernel_rfl) (by kernel_rfl) (fun _ _ _ h => h) (Or.inl ⟨by rfl, ?hy98x6⟩) (by with_reducible assumption) ?rest98x6
            case hy98x6 => (intro w hSw; (try dsimp only at hSw); go_simp; try with_reducible rfl)
            case' rest98x6 => (try simp only [Act.put, List.setIfInBounds_toArray, List.set_cons_zero, List.set_cons_succ])
            refine wpAnyH_take (i := 7) (oi := { dst := some 25, op := Op.extract (Operand.tmp 18) 1, type := 26, pos := "exact.go:3770", after := #[{ on := 5, ground := Ground.data }, { on := 11, ground := Ground.gcOnly Departure.lateStores }], guard := none }) (v := ?v99x7) rfl (by kernel_rfl) (by kernel_rfl) (by kernel_rfl) (fun _ _ _ h => h) (Or.inl ⟨by rfl, ?hy99x7⟩) (by with_reducible assumption) ?rest99x7
            case hy99x7 => (intro w hSw; (try dsimp only at hSw); go_simp; try with_reducible rfl)
            case' rest99x7 => (try simp only [Act.put, List.setIfInBounds_toArray, List.set_cons_zero, List.set_cons_succ])
            refine wpAnyH_take (i := 8) (oi := { dst := some 26, op := Op.extract (Operand.tmp 18) 2, type := 4, pos := "exact.go:3770", after := #[{ on := 5, ground := Ground.data }, { on := 12, ground := Ground.gcOnly Departure.lateStores }], guard := none }) (v := ?v100x8) rfl (by kernel_rfl) (by kernel_rfl) (by kernel_rfl) (fun _ _ _ h => h) (Or.inl ⟨by rfl, ?hy100x8⟩) (by with_reducible assumption) ?rest100x8
            case hy100x8 => (intro w hSw; (try dsimp only at hSw); go_simp; try with_reducible rfl)
            case' rest100x8 => (try simp only [Act.put, List.setIfInBounds_toArray, List.set_cons_zero, List.set_cons_succ])
            refine wpAnyH_ready (rs := [9]) (by kernel_rfl) (by simp) ?_
            refine (AllReadyH.cons (o := { dst := some 6, op := Op.alloc 26, type := 0, pos := "exact.go:3770", after := #[], guard := none }) rfl (fun K hK => ?_) AllReadyH.nil)
            · go_simp
              refine hK.out _ _ ?_ (fun hHeld => ?_)
              · (refine keep2 ?_ (by with_reducible assumption); go_grown)
              clear hK K
              try simp only [Act.put, List.setIfInBounds_toArray, List.set_cons_zero, List.set_cons_succ]
              have hlt0 : w.heap.size < w3.heap.size := held_lt (by with_reducible assumption)
              have K0 := BoxP.new w3 0 0
              have hbB0 : Below w3.heap.size w3 (w3.alloc (.cells #[.int .i64 0, .int .i64 0] 26)) := by go_grown
              replace ha1 := (ha1.later hbB0).mono hbB0.size
              have hne10 : B1 < w3.heap.size := K1.lt
              replace K1 := K1.later hbB0
              generalize w3.heap.size = B0 at K0 hlt0 hne10 ⊢
              generalize w3.alloc (.cells #[.int .i64 0, .int .i64 0] 26) = wB0 at *
              have f00 := K0.f 0
              have f01 := K0.f 1
              have d00 := K0.c0
              have d01 := K0.c1
              refine wpAnyH_ready (rs := [11]) (by kernel_rfl) (by simp) ?_
              refine AllReadyH.cons (o := { dst := none, op := Op.store 26 (Operand.tmp 6) (Operand.tmp 24), type := 0, pos := "exact.go:3770", after := #[{ on := 9, ground := Ground.data }, { on := 6, ground := Ground.data }, { on := 4, ground := Ground.chain }, { on := 0, ground := Ground.phase }, { on := 1, ground := Ground.phase }, { on := 2, ground := Ground.phase }, { on := 3, ground := Ground.phase }, { on := 4, ground := Ground.phase }, { on := 5, ground := Ground.phase }, { on := 6, ground := Ground.phase }, { on := 7, ground := Ground.textOnly Departure.lateStores }, { on := 8, ground := Ground.textOnly Departure.lateStores }, { on := 9, ground := Ground.phase }, { on := 10, ground := Ground.phase }], guard := none }) rfl (fun K hK => ?_) AllReadyH.nil
              go_simp
              refine hK.out _ _ ?_ (fun hHeld => ?_)
              · exact keepSt (B := B0) hHeld hlt0 _ _
              clear hK K
              try simp only [Act.put, List.setIfInBounds_toArray, List.set_cons_zero, List.set_cons_succ]
              clear f00 f01 d00 d01
              replace K0 := K0.set ex0 ey0
              replace K1 := ((K1.other (B' := B0) (i := 0) (by omega) (.int .i64 ex0)).other (B' := B0) (i := 1) (by omega) (.int .i64 ey0))
              generalize (wB0.setCell ⟨B0, 0, none⟩ (.int .i64 ex0)).setCell ⟨B0, 1, none⟩ (.int .i64 ey0) = wS0 at hHeld K0 K1 ⊢
              have f10 := K1.f 0
              have f11 := K1.f 1
              have d10 := K1.c0
              have d11 := K1.c1
              refine wpAnyH_ready (rs := [12]) (by kernel_rfl) (by simp) ?_
              refine AllReadyH.cons (o := { dst := none, op := Op.store 26 (Operand.tmp 7) (Operand.tmp 25), type := 0, pos := "exact.go:3770", after := #[{ on := 10, ground := Ground.data }, { on := 7, ground := Ground.data }, { on := 11, ground := Ground.chain }, { on := 0, ground := Ground.phase }, { on := 1, ground := Ground.phase }, { on := 2, ground := Ground.phase }, { on := 3, ground := Ground.phase }, { on := 4, ground := Ground.phase }, { on := 5, ground := Ground.phase }, { on := 6, ground := Ground.phase }, { on := 7, ground := Ground.phase }, { on := 8, ground := Ground.textOnly Departure.lateStores }, { on := 9, ground := Ground.phase }, { on := 10, ground := Ground.phase }, { on := 11, ground := Ground.phase }], guard := none }) rfl (fun K hK => ?_) AllReadyH.nil
              go_simp
              refine hK.out _ _ ?_ (fun hHeld => ?_)
              · exact keepSt (B := B1) hHeld hlt1 _ _
              clear hK K
              try simp only [Act.put, List.setIfInBounds_toArray, List.set_cons_zero, List.set_cons_succ]
              clear f10 f11 d10 d11
              replace K1 := K1.set ex1 ey1
              replace K0 := ((K0.other (B' := B1) (i := 0) (by omega) (.int .i64 ex1)).other (B' := B1) (i := 1) (by omega) (.int .i64 ey1))
              generalize (wS0.setCell ⟨B1, 0, none⟩ (.int .i64 ex1)).setCell ⟨B1, 1, none⟩ (.int .i64 ey1) = wS1 at hHeld K0 K1 ⊢
              refine wpAnyH_take (i := 13) (oi := { dst := some 8, op := Op.assign (Operand.tmp 26), type := 4, pos := "exact.go:3770", after := #[{ on := 8, ground := Ground.data }, { on := 12, ground := Ground.chain }, { on := 0, ground := Ground.phase }, { on := 1, ground := Ground.phase }, { on := 2, ground := Ground.phase }, { on := 3, ground := Ground.phase }, { on := 4, ground := Ground.phase }, { on := 5, ground := Ground.phase }, { on := 6, ground := Ground.phase }, { on := 7, ground := Ground.phase }, { on := 8, ground := Ground.phase }, { on := 9, ground := Ground.phase }, { on := 10, ground := Ground.phase }, { on := 11, ground := Ground.phase }, { on := 12, ground := Ground.phase }], guard := none }) (v := ?v101x13) rfl (by kernel_rfl) (by kernel_rfl) (by kernel_rfl) (fun _ _ _ h => h) (Or.inl ⟨by rfl, ?hy101x13⟩) (by with_reducible assumption) ?rest101x13
              case hy101x13 => (intro w hSw; (try dsimp only at hSw); go_simp; try with_reducible rfl)
              case' rest101x13 => (try simp only [Act.put, List.setIfInBounds_toArray, List.set_cons_zero, List.set_cons_succ])
              refine wpAnyH_done (by kernel_rfl) ?_ _
              obtain ⟨r0, r1, hb3'⟩ := hHeld
              go_wp2_with (first
                | (go_at_call 12; clear tok2; refine (toPointS_e l _ _ _ _ hl h20 ((HA.out.later hb3').mono hb3'.size)).mono ?_; rintro e w4 ⟨b4, rfl, hc4, hb4⟩; have ha4 := hc4.at; have hb4' := grew hb3' hb4; have s0 := cell_later hb4 r0; have s1 := cell_later hb4 r1; replace K0 := K0.later hb4; replace K1 := K1.later hb4; clear hc4)
                | (go_at_call 13; refine (toPoint_c _ _ _).mono ?_; rintro e w5 ⟨rfl, hb5⟩; have hb5' := grew hb4' hb5; replace K0 := K0.later hb5; replace K1 := K1.later hb5; have ha5 := (ha4.later hb5).mono hb5.size)
                | (go_at_call 20; refine (tangentsImpl_c l x y _ _ _ _ hl h20 ha5 (cell_later hb5' C0.out)).mono ?_; rw [hE0, hE1]; rintro e w6 ⟨rfl, hb6⟩; have hb6' := grew hb5' hb6; replace K0 := K0.later hb6; replace K1 := K1.later hb6; have k0x := K0.c0; have k0y := K0.c1; have lk0 := K0.lt; have k1x := K1.c0; have k1y := K1.c1; have lk1 := K1.lt; have n60 := cell_later (show Below w6.heap.size w6 ((w6.alloc (.cells #[.int .i64 ex0, .int .i64 ey0] 26)).alloc (.cells #[.int .i64 ex1, .int .i64 ey1] 26)) by go_grown) k1x; have n61 := cell_later (show Below w6.heap.size w6 ((w6.alloc (.cells #[.int .i64 ex0, .int .i64 ey0] 26)).alloc (.cells #[.int .i64 ex1, .int .i64 ey1] 26)) by go_grown) k1y; have G11 := BoxP.new (w6.alloc (.cells #[.int .i64 ex0, .int .i64 ey0] 26)) ex1 ey1; simp only [World.size_alloc] at G11; have n70 := G11.c0; have n71 := G11.c1; have ha6 := (ha5.later hb6).mono hb6.size)
                | (go_at_call 15; clear tk8; refine (eqPoint_c _ _ _ _ _).mono ?_; rw [hQ0]; rintro e w8 ⟨rfl, hb8⟩; have hB8 : Below w6.heap.size w6 w8 := (by go_grown : Below w6.heap.size w6 ((w6.alloc (.cells #[.int .i64 ex0, .int .i64 ey0] 26)).alloc (.cells #[.int .i64 ex1, .int .i64 ey1] 26))).trans (hb8.mono (by go_size)); have m60 := cell_later hb8 n60; have m61 := cell_later hb8 n61; have m70 := cell_later hb8 n70; have m71 := cell_later hb8 n71)
                | (go_at_call 15; refine (eqPoint_c _ _ _ _ _).mono ?_; rw [hQ1]; rintro e w9 ⟨rfl, hb9⟩; have hB9 := hB8.trans (hb9.mono hB8.size); have hb9' := grew hb6' hB9; have ha9 := (ha6.later hB9).mono hB9.size)
                | (go_at_call 12; refine (toPointS_e l _ _ _ _ hl h20 ((HA.out.later hb9').mono hb9'.size)).mono ?_; rintro e w7 ⟨b7, rfl, hc7, hb7⟩; have ha7 := hc7.at; have hb7' := grew hb9' hb7; have ha67 := (ha9.later hb7).mono hb7.size; clear hc7)
                | (go_at_call 16; refine (eqPointS_c l l _ _ _ _ _ _ _ hl hl h20 h20 ha67 ha7).mono ?_; rintro e wA ⟨rfl, hbA⟩))
              go_ret
              exact ⟨rfl, grew hb7' hbA⟩
          · go_simp
            refine hK.out _ _ ?_ (fun hHeld => ?_)
            · (refine keep2 ?_ (by with_reducible assumption); go_grown)
            clear hK K
            try simp only [Act.put, List.setIfInBounds_toArray, List.set_cons_zero, List.set_cons_succ]
            have hlt0 : w.heap.size < w2.heap.size := held_lt (by with_reducible assumption)
            have K0 := BoxP.new w2 0 0
            have hbB0 : Below w2.heap.size w2 (w2.alloc (.cells #[.int .i64 0, .int .i64 0] 26)) := by go_grown
            replace ha1 := (ha1.later hbB0).mono hbB0.size
            have hne10 : B1 < w2.heap.size := K1.lt
            replace K1 := K1.later hbB0
            generalize w2.heap.size = B0 at K0 hlt0 hne10 ⊢
            generalize w2.alloc (.cells #[.int .i64 0, .int .i64 0] 26) = wB0 at *
            refine wpAnyH_ready (rs := [4]) (by kernel_rfl) (by simp) ?_
            refine (AllReadyH.cons (o := { dst := some 23, op := Op.call { callee := Callee.value (Operand.func 19), args := #[Operand.tmp 20, Operand.tmp 22], argTypes := #[29, 26] }, type := 37, pos := "exact.go:3770", after := #[{ on := 1, ground := Ground.data }, { on := 3, ground := Ground.data }, { on := 3, ground := Ground.chain }], guard := none }) rfl (fun K hK => ?_) AllReadyH.nil)
            · go_simp
              refine (tangentsSpec_c l x y _ _ _ _ hl h20 ha1).mono ?_
              rw [hE0, hE1]
              rintro e w3 ⟨rfl, hb3⟩
              go_wp2_with fail
              refine hK.out _ _ ?_ (fun hHeld => ?_)
              · exact keep2 hb3 (by with_reducible assumption)
              clear hK K
              try simp only [Act.put, List.setIfInBounds_toArray, List.set_cons_zero, List.set_cons_succ]
              replace ha1 := (ha1.later hb3).mono hb3.size
              replace K1 := K1.later hb3
              replace K0 := K0.later hb3
              refine wpAnyH_take (i := 5) (oi := { dst := some 18, op := Op.move (Operand.tmp 23), type := 37, pos := "exact.go:3770", after := #[{ on := 4, ground := Ground.data }], guard := none }) (v := ?v102x5) rfl (by kernel_rfl) (by kernel_rfl) (by kernel_rfl) (fun _ _ _ h => h) (Or.inl ⟨by rfl, ?hy102x5⟩) (by with_reducible assumption) ?rest102x5
              case hy102x5 => (intro w hSw; (try dsimp only at hSw); go_simp; try with_reducible rfl)
              case' rest102x5 => (try simp only [Act.put, List.setIfInBounds_toArray, List.set_cons_zero, List.set_cons_succ])
              refine wpAnyH_take (i := 6) (oi := { dst := some 24, op := Op.extract (Operand.tmp 18) 0, type := 26, pos := "exact.go:3770", after := #[{ on := 5, ground := Ground.data }], guard := none }) (v := ?v103x6) rfl (by kernel_rfl) (by kernel_rfl) (by kernel_rfl) (fun _ _ _ h => h) (Or.inl ⟨by rfl, ?hy103x6⟩) (by with_reducible assumption) ?rest103x6
              case hy103x6 => (intro w hSw; (try dsimp only at hSw); go_simp; try with_reducible rfl)
              case' rest103x6 => (try simp only [Act.put, List.setIfInBounds_toArray, List.set_cons_zero, List.set_cons_succ])
              refine wpAnyH_take (i := 7) (oi := { dst := some 25, op := Op.extract (Operand.tmp 18) 1, type := 26, pos := "exact.go:3770", after := #[{ on := 5, ground := Ground.data }, { on := 11, ground := Ground.gcOnly Departure.lateStores }], guard := none }) (v := ?v104x7) rfl (by kernel_rfl) (by kernel_rfl) (by kernel_rfl) (fun _ _ _ h => h) (Or.inl ⟨by rfl, ?hy104x7⟩) (by with_reducible assumption) ?rest104x7
              case hy104x7 => (intro w hSw; (try dsimp only at hSw); go_simp; try with_reducible rfl)
              case' rest104x7 => (try simp only [Act.put, List.setIfInBounds_toArray, List.set_cons_zero, List.set_cons_succ])
              refine wpAnyH_take (i := 8) (oi := { dst := some 26, op := Op.extract (Operand.tmp 18) 2, type := 4, pos := "exact.go:3770", after := #[{ on := 5, ground := Ground.data }, { on := 12, ground := Ground.gcOnly Departure.lateStores }], guard := none }) (v := ?v105x8) rfl (by kernel_rfl) (by kernel_rfl) (by kernel_rfl) (fun _ _ _ h => h) (Or.inl ⟨by rfl, ?hy105x8⟩) (by with_reducible assumption) ?rest105x8
              case hy105x8 => (intro w hSw; (try dsimp only at hSw); go_simp; try with_reducible rfl)
              case' rest105x8 => (try simp only [Act.put, List.setIfInBounds_toArray, List.set_cons_zero, List.set_cons_succ])
              have f00 := K0.f 0
              have f01 := K0.f 1
              have d00 := K0.c0
              have d01 := K0.c1
              refine wpAnyH_ready (rs := [11]) (by kernel_rfl) (by simp) ?_
              refine AllReadyH.cons (o := { dst := none, op := Op.store 26 (Operand.tmp 6) (Operand.tmp 24), type := 0, pos := "exact.go:3770", after := #[{ on := 9, ground := Ground.data }, { on := 6, ground := Ground.data }, { on := 4, ground := Ground.chain }, { on := 0, ground := Ground.phase }, { on := 1, ground := Ground.phase }, { on := 2, ground := Ground.phase }, { on := 3, ground := Ground.phase }, { on := 4, ground := Ground.phase }, { on := 5, ground := Ground.phase }, { on := 6, ground := Ground.phase }, { on := 7, ground := Ground.textOnly Departure.lateStores }, { on := 8, ground := Ground.textOnly Departure.lateStores }, { on := 9, ground := Ground.phase }, { on := 10, ground := Ground.phase }], guard := none }) rfl (fun K hK => ?_) AllReadyH.nil
              go_simp
              refine hK.out _ _ ?_ (fun hHeld => ?_)
              · exact keepSt (B := B0) hHeld hlt0 _ _
              clear hK K
              try simp only [Act.put, List.setIfInBounds_toArray, List.set_cons_zero, List.set_cons_succ]
              clear f00 f01 d00 d01
              replace K0 := K0.set ex0 ey0
              replace K1 := ((K1.other (B' := B0) (i := 0) (by omega) (.int .i64 ex0)).other (B' := B0) (i := 1) (by omega) (.int .i64 ey0))
              generalize (w3.setCell ⟨B0, 0, none⟩ (.int .i64 ex0)).setCell ⟨B0, 1, none⟩ (.int .i64 ey0) = wS0 at hHeld K0 K1 ⊢
              have f10 := K1.f 0
              have f11 := K1.f 1
              have d10 := K1.c0
              have d11 := K1.c1
              refine wpAnyH_ready (rs := [12]) (by kernel_rfl) (by simp) ?_
              refine AllReadyH.cons (o := { dst := none, op := Op.store 26 (Operand.tmp 7) (Operand.tmp 25), type := 0, pos := "exact.go:3770", after := #[{ on := 10, ground := Ground.data }, { on := 7, ground := Ground.data }, { on := 11, ground := Ground.chain }, { on := 0, ground := Ground.phase }, { on := 1, ground := Ground.phase }, { on := 2, ground := Ground.phase }, { on := 3, ground := Ground.phase }, { on := 4, ground := Ground.phase }, { on := 5, ground := Ground.phase }, { on := 6, ground := Ground.phase }, { on := 7, ground := Ground.phase }, { on := 8, ground := Ground.textOnly Departure.lateStores }, { on := 9, ground := Ground.phase }, { on := 10, ground := Ground.phase }, { on := 11, ground := Ground.phase }], guard := none }) rfl (fun K hK => ?_) AllReadyH.nil
              go_simp
              refine hK.out _ _ ?_ (fun hHeld => ?_)
              · exact keepSt (B := B1) hHeld hlt1 _ _
              clear hK K
              try simp only [Act.put, List.setIfInBounds_toArray, List.set_cons_zero, List.set_cons_succ]
              clear f10 f11 d10 d11
              replace K1 := K1.set ex1 ey1
              replace K0 := ((K0.other (B' := B1) (i := 0) (by omega) (.int .i64 ex1)).other (B' := B1) (i := 1) (by omega) (.int .i64 ey1))
              generalize (wS0.setCell ⟨B1, 0, none⟩ (.int .i64 ex1)).setCell ⟨B1, 1, none⟩ (.int .i64 ey1) = wS1 at hHeld K0 K1 ⊢
              refine wpAnyH_take (i := 13) (oi := { dst := some 8, op := Op.assign (Operand.tmp 26), type := 4, pos := "exact.go:3770", after := #[{ on := 8, ground := Ground.data }, { on := 12, ground := Ground.chain }, { on := 0, ground := Ground.phase }, { on := 1, ground := Ground.phase }, { on := 2, ground := Ground.phase }, { on := 3, ground := Ground.phase }, { on := 4, ground := Ground.phase }, { on := 5, ground := Ground.phase }, { on := 6, ground := Ground.phase }, { on := 7, ground := Ground.phase }, { on := 8, ground := Ground.phase }, { on := 9, ground := Ground.phase }, { on := 10, ground := Ground.phase }, { on := 11, ground := Ground.phase }, { on := 12, ground := Ground.phase }], guard := none }) (v := ?v106x13) rfl (by kernel_rfl) (by kernel_rfl) (by kernel_rfl) (fun _ _ _ h => h) (Or.inl ⟨by rfl, ?hy106x13⟩) (by with_reducible assumption) ?rest106x13
              case hy106x13 => (intro w hSw; (try dsimp only at hSw); go_simp; try with_reducible rfl)
              case' rest106x13 => (try simp only [Act.put, List.setIfInBounds_toArray, List.set_cons_zero, List.set_cons_succ])
              refine wpAnyH_done (by kernel_rfl) ?_ _
              obtain ⟨r0, r1, hb3'⟩ := hHeld
              go_wp2_with (first
                | (go_at_call 12; clear tok2; refine (toPointS_e l _ _ _ _ hl h20 ((HA.out.later hb3').mono hb3'.size)).mono ?_; rintro e w4 ⟨b4, rfl, hc4, hb4⟩; have ha4 := hc4.at; have hb4' := grew hb3' hb4; have s0 := cell_later hb4 r0; have s1 := cell_later hb4 r1; replace K0 := K0.later hb4; replace K1 := K1.later hb4; clear hc4)
                | (go_at_call 13; refine (toPoint_c _ _ _).mono ?_; rintro e w5 ⟨rfl, hb5⟩; have hb5' := grew hb4' hb5; replace K0 := K0.later hb5; replace K1 := K1.later hb5; have ha5 := (ha4.later hb5).mono hb5.size)
                | (go_at_call 20; refine (tangentsImpl_c l x y _ _ _ _ hl h20 ha5 (cell_later hb5' C0.out)).mono ?_; rw [hE0, hE1]; rintro e w6 ⟨rfl, hb6⟩; have hb6' := grew hb5' hb6; replace K0 := K0.later hb6; replace K1 := K1.later hb6; have k0x := K0.c0; have k0y := K0.c1; have lk0 := K0.lt; have k1x := K1.c0; have k1y := K1.c1; have lk1 := K1.lt; have n60 := cell_later (show Below w6.heap.size w6 ((w6.alloc (.cells #[.int .i64 ex0, .int .i64 ey0] 26)).alloc (.cells #[.int .i64 ex1, .int .i64 ey1] 26)) by go_grown) k1x; have n61 := cell_later (show Below w6.heap.size w6 ((w6.alloc (.cells #[.int .i64 ex0, .int .i64 ey0] 26)).alloc (.cells #[.int .i64 ex1, .int .i64 ey1] 26)) by go_grown) k1y; have G11 := BoxP.new (w6.alloc (.cells #[.int .i64 ex0, .int .i64 ey0] 26)) ex1 ey1; simp only [World.size_alloc] at G11; have n70 := G11.c0; have n71 := G11.c1; have ha6 := (ha5.later hb6).mono hb6.size)
                | (go_at_call 15; clear tk8; refine (eqPoint_c _ _ _ _ _).mono ?_; rw [hQ0]; rintro e w8 ⟨rfl, hb8⟩; have hB8 : Below w6.heap.size w6 w8 := (by go_grown : Below w6.heap.size w6 ((w6.alloc (.cells #[.int .i64 ex0, .int .i64 ey0] 26)).alloc (.cells #[.int .i64 ex1, .int .i64 ey1] 26))).trans (hb8.mono (by go_size)); have m60 := cell_later hb8 n60; have m61 := cell_later hb8 n61; have m70 := cell_later hb8 n70; have m71 := cell_later hb8 n71)
                | (go_at_call 15; refine (eqPoint_c _ _ _ _ _).mono ?_; rw [hQ1]; rintro e w9 ⟨rfl, hb9⟩; have hB9 := hB8.trans (hb9.mono hB8.size); have hb9' := grew hb6' hB9; have ha9 := (ha6.later hB9).mono hB9.size)
                | (go_at_call 12; refine (toPointS_e l _ _ _ _ hl h20 ((HA.out.later hb9').mono hb9'.size)).mono ?_; rintro e w7 ⟨b7, rfl, hc7, hb7⟩; have ha7 := hc7.at; have hb7' := grew hb9' hb7; have ha67 := (ha9.later hb7).mono hb7.size; clear hc7)
                | (go_at_call 16; refine (eqPointS_c l l _ _ _ _ _ _ _ hl hl h20 h20 ha67 ha7).mono ?_; rintro e wA ⟨rfl, hbA⟩))
              go_ret
              exact ⟨rfl, grew hb7' hbA⟩
        · go_simp
          refine hK.out _ _ ?_ (fun hHeld => ?_)
          · (refine keep2 ?_ (by with_reducible assumption); go_grown)
          clear hK K
          try simp only [Act.put, List.setIfInBounds_toArray, List.set_cons_zero, List.set_cons_succ]
          have hlt0 : w.heap.size < w1.heap.size := held_lt (by with_reducible assumption)
          have K0 := BoxP.new w1 0 0
          have hbB0 : Below w1.heap.size w1 (w1.alloc (.cells #[.int .i64 0, .int .i64 0] 26)) := by go_grown
          replace ha1 := (ha1.later hbB0).mono hbB0.size
          have hne10 : B1 < w1.heap.size := K1.lt
          replace K1 := K1.later hbB0
          generalize w1.heap.size = B0 at K0 hlt0 hne10 ⊢
          generalize w1.alloc (.cells #[.int .i64 0, .int .i64 0] 26) = wB0 at *
          refine wpAnyH_ready (rs := [3]) (by kernel_rfl) (by simp) ?_
          refine (AllReadyH.cons (o := { dst := some 22, op := Op.call { callee := Callee.value (Operand.func 13), args := #[Operand.tmp 21], argTypes := #[24] }, type := 26, pos := "exact.go:3770", after := #[{ on := 2, ground := Ground.data }, { on := 1, ground := Ground.chain }], guard := none }) rfl (fun K hK => ?_) AllReadyH.nil)
          · go_simp
            refine (toPoint_c _ _ _).mono ?_
            rintro e w2 ⟨rfl, hb2⟩
            go_wp2_with fail
            refine hK.out _ _ ?_ (fun hHeld => ?_)
            · exact keep2 hb2 (by with_reducible assumption)
            clear hK K
            try simp only [Act.put, List.setIfInBounds_toArray, List.set_cons_zero, List.set_cons_succ]
            replace ha1 := (ha1.later hb2).mono hb2.size
            replace K1 := K1.later hb2
            replace K0 := K0.later hb2
            refine wpAnyH_ready (rs := [4]) (by kernel_rfl) (by simp) ?_
            refine (AllReadyH.cons (o := { dst := some 23, op := Op.call { callee := Callee.value (Operand.func 19), args := #[Operand.tmp 20, Operand.tmp 22], argTypes := #[29, 26] }, type := 37, pos := "exact.go:3770", after := #[{ on := 1, ground := Ground.data }, { on := 3, ground := Ground.data }, { on := 3, ground := Ground.chain }], guard := none }) rfl (fun K hK => ?_) AllReadyH.nil)
            · go_simp
              refine (tangentsSpec_c l x y _ _ _ _ hl h20 ha1).mono ?_
              rw [hE0, hE1]
              rintro e w3 ⟨rfl, hb3⟩
              go_wp2_with fail
              refine hK.out _ _ ?_ (fun hHeld => ?_)
              · exact keep2 hb3 (by with_reducible assumption)
              clear hK K
              try simp only [Act.put, List.setIfInBounds_toArray, List.set_cons_zero, List.set_cons_succ]
              replace ha1 := (ha1.later hb3).mono hb3.size
              replace K1 := K1.later hb3
              replace K0 := K0.later hb3
              refine wpAnyH_take (i := 5) (oi := { dst := some 18, op := Op.move (Operand.tmp 23), type := 37, pos := "exact.go:3770", after := #[{ on := 4, ground := Ground.data }], guard := none }) (v := ?v107x5) rfl (by kernel_rfl) (by kernel_rfl) (by kernel_rfl) (fun _ _ _ h => h) (Or.inl ⟨by rfl, ?hy107x5⟩) (by with_reducible assumption) ?rest107x5
              case hy107x5 => (intro w hSw; (try dsimp only at hSw); go_simp; try with_reducible rfl)
              case' rest107x5 => (try simp only [Act.put, List.setIfInBounds_toArray, List.set_cons_zero, List.set_cons_succ])
              refine wpAnyH_take (i := 6) (oi := { dst := some 24, op := Op.extract (Operand.tmp 18) 0, type := 26, pos := "exact.go:3770", after := #[{ on := 5, ground := Ground.data }], guard := none }) (v := ?v108x6) rfl (by kernel_rfl) (by kernel_rfl) (by kernel_rfl) (fun _ _ _ h => h) (Or.inl ⟨by rfl, ?hy108x6⟩) (by with_reducible assumption) ?rest108x6
              case hy108x6 => (intro w hSw; (try dsimp only at hSw); go_simp; try with_reducible rfl)
              case' rest108x6 => (try simp only [Act.put, List.setIfInBounds_toArray, List.set_cons_zero, List.set_cons_succ])
              refine wpAnyH_take (i := 7) (oi := { dst := some 25, op := Op.extract (Operand.tmp 18) 1, type := 26, pos := "exact.go:3770", after := #[{ on := 5, ground := Ground.data }, { on := 11, ground := Ground.gcOnly Departure.lateStores }], guard := none }) (v := ?v109x7) rfl (by kernel_rfl) (by kernel_rfl) (by kernel_rfl) (fun _ _ _ h => h) (Or.inl ⟨by rfl, ?hy109x7⟩) (by with_reducible assumption) ?rest109x7
              case hy109x7 => (intro w hSw; (try dsimp only at hSw); go_simp; try with_reducible rfl)
              case' rest109x7 => (try simp only [Act.put, List.setIfInBounds_toArray, List.set_cons_zero, List.set_cons_succ])
              refine wpAnyH_take (i := 8) (oi := { dst := some 26, op := Op.extract (Operand.tmp 18) 2, type := 4, pos := "exact.go:3770", after := #[{ on := 5, ground := Ground.data }, { on := 12, ground := Ground.gcOnly Departure.lateStores }], guard := none }) (v := ?v110x8) rfl (by kernel_rfl) (by kernel_rfl) (by kernel_rfl) (fun _ _ _ h => h) (Or.inl ⟨by rfl, ?hy110x8⟩) (by with_reducible assumption) ?rest110x8
              case hy110x8 => (intro w hSw; (try dsimp only at hSw); go_simp; try with_reducible rfl)
              case' rest110x8 => (try simp only [Act.put, List.setIfInBounds_toArray, List.set_cons_zero, List.set_cons_succ])
              have f00 := K0.f 0
              have f01 := K0.f 1
              have d00 := K0.c0
              have d01 := K0.c1
              refine wpAnyH_ready (rs := [11]) (by kernel_rfl) (by simp) ?_
              refine AllReadyH.cons (o := { dst := none, op := Op.store 26 (Operand.tmp 6) (Operand.tmp 24), type := 0, pos := "exact.go:3770", after := #[{ on := 9, ground := Ground.data }, { on := 6, ground := Ground.data }, { on := 4, ground := Ground.chain }, { on := 0, ground := Ground.phase }, { on := 1, ground := Ground.phase }, { on := 2, ground := Ground.phase }, { on := 3, ground := Ground.phase }, { on := 4, ground := Ground.phase }, { on := 5, ground := Ground.phase }, { on := 6, ground := Ground.phase }, { on := 7, ground := Ground.textOnly Departure.lateStores }, { on := 8, ground := Ground.textOnly Departure.lateStores }, { on := 9, ground := Ground.phase }, { on := 10, ground := Ground.phase }], guard := none }) rfl (fun K hK => ?_) AllReadyH.nil
              go_simp
              refine hK.out _ _ ?_ (fun hHeld => ?_)
              · exact keepSt (B := B0) hHeld hlt0 _ _
              clear hK K
              try simp only [Act.put, List.setIfInBounds_toArray, List.set_cons_zero, List.set_cons_succ]
              clear f00 f01 d00 d01
              replace K0 := K0.set ex0 ey0
              replace K1 := ((K1.other (B' := B0) (i := 0) (by omega) (.int .i64 ex0)).other (B' := B0) (i := 1) (by omega) (.int .i64 ey0))
              generalize (w3.setCell ⟨B0, 0, none⟩ (.int .i64 ex0)).setCell ⟨B0, 1, none⟩ (.int .i64 ey0) = wS0 at hHeld K0 K1 ⊢
              have f10 := K1.f 0
              have f11 := K1.f 1
              have d10 := K1.c0
              have d11 := K1.c1
              refine wpAnyH_ready (rs := [12]) (by kernel_rfl) (by simp) ?_
              refine AllReadyH.cons (o := { dst := none, op := Op.store 26 (Operand.tmp 7) (Operand.tmp 25), type := 0, pos := "exact.go:3770", after := #[{ on := 10, ground := Ground.data }, { on := 7, ground := Ground.data }, { on := 11, ground := Ground.chain }, { on := 0, ground := Ground.phase }, { on := 1, ground := Ground.phase }, { on := 2, ground := Ground.phase }, { on := 3, ground := Ground.phase }, { on := 4, ground := Ground.phase }, { on := 5, ground := Ground.phase }, { on := 6, ground := Ground.phase }, { on := 7, ground := Ground.phase }, { on := 8, ground := Ground.textOnly Departure.lateStores }, { on := 9, ground := Ground.phase }, { on := 10, ground := Ground.phase }, { on := 11, ground := Ground.phase }], guard := none }) rfl (fun K hK => ?_) AllReadyH.nil
              go_simp
              refine hK.out _ _ ?_ (fun hHeld => ?_)
              · exact keepSt (B := B1) hHeld hlt1 _ _
              clear hK K
              try simp only [Act.put, List.setIfInBounds_toArray, List.set_cons_zero, List.set_cons_succ]
              clear f10 f11 d10 d11
              replace K1 := K1.set ex1 ey1
              replace K0 := ((K0.other (B' := B1) (i := 0) (by omega) (.int .i64 ex1)).other (B' := B1) (i := 1) (by omega) (.int .i64 ey1))
              generalize (wS0.setCell ⟨B1, 0, none⟩ (.int .i64 ex1)).setCell ⟨B1, 1, none⟩ (.int .i64 ey1) = wS1 at hHeld K0 K1 ⊢
              refine wpAnyH_take (i := 13) (oi := { dst := some 8, op := Op.assign (Operand.tmp 26), type := 4, pos := "exact.go:3770", after := #[{ on := 8, ground := Ground.data }, { on := 12, ground := Ground.chain }, { on := 0, ground := Ground.phase }, { on := 1, ground := Ground.phase }, { on := 2, ground := Ground.phase }, { on := 3, ground := Ground.phase }, { on := 4, ground := Ground.phase }, { on := 5, ground := Ground.phase }, { on := 6, ground := Ground.phase }, { on := 7, ground := Ground.phase }, { on := 8, ground := Ground.phase }, { on := 9, ground := Ground.phase }, { on := 10, ground := Ground.phase }, { on := 11, ground := Ground.phase }, { on := 12, ground := Ground.phase }], guard := none }) (v := ?v111x13) rfl (by kernel_rfl) (by kernel_rfl) (by kernel_rfl) (fun _ _ _ h => h) (Or.inl ⟨by rfl, ?hy111x13⟩) (by with_reducible assumption) ?rest111x13
              case hy111x13 => (intro w hSw; (try dsimp only at hSw); go_simp; try with_reducible rfl)
              case' rest111x13 => (try simp only [Act.put, List.setIfInBounds_toArray, List.set_cons_zero, List.set_cons_succ])
              refine wpAnyH_done (by kernel_rfl) ?_ _
              obtain ⟨r0, r1, hb3'⟩ := hHeld
              go_wp2_with (first
                | (go_at_call 12; clear tok2; refine (toPointS_e l _ _ _ _ hl h20 ((HA.out.later hb3').mono hb3'.size)).mono ?_; rintro e w4 ⟨b4, rfl, hc4, hb4⟩; have ha4 := hc4.at; have hb4' := grew hb3' hb4; have s0 := cell_later hb4 r0; have s1 := cell_later hb4 r1; replace K0 := K0.later hb4; replace K1 := K1.later hb4; clear hc4)
                | (go_at_call 13; refine (toPoint_c _ _ _).mono ?_; rintro e w5 ⟨rfl, hb5⟩; have hb5' := grew hb4' hb5; replace K0 := K0.later hb5; replace K1 := K1.later hb5; have ha5 := (ha4.later hb5).mono hb5.size)
                | (go_at_call 20; refine (tangentsImpl_c l x y _ _ _ _ hl h20 ha5 (cell_later hb5' C0.out)).mono ?_; rw [hE0, hE1]; rintro e w6 ⟨rfl, hb6⟩; have hb6' := grew hb5' hb6; replace K0 := K0.later hb6; replace K1 := K1.later hb6; have k0x := K0.c0; have k0y := K0.c1; have lk0 := K0.lt; have k1x := K1.c0; have k1y := K1.c1; have lk1 := K1.lt; have n60 := cell_later (show Below w6.heap.size w6 ((w6.alloc (.cells #[.int .i64 ex0, .int .i64 ey0] 26)).alloc (.cells #[.int .i64 ex1, .int .i64 ey1] 26)) by go_grown) k1x; have n61 := cell_later (show Below w6.heap.size w6 ((w6.alloc (.cells #[.int .i64 ex0, .int .i64 ey0] 26)).alloc (.cells #[.int .i64 ex1, .int .i64 ey1] 26)) by go_grown) k1y; have G11 := BoxP.new (w6.alloc (.cells #[.int .i64 ex0, .int .i64 ey0] 26)) ex1 ey1; simp only [World.size_alloc] at G11; have n70 := G11.c0; have n71 := G11.c1; have ha6 := (ha5.later hb6).mono hb6.size)
                | (go_at_call 15; clear tk8; refine (eqPoint_c _ _ _ _ _).mono ?_; rw [hQ0]; rintro e w8 ⟨rfl, hb8⟩; have hB8 : Below w6.heap.size w6 w8 := (by go_grown : Below w6.heap.size w6 ((w6.alloc (.cells #[.int .i64 ex0, .int .i64 ey0] 26)).alloc (.cells #[.int .i64 ex1, .int .i64 ey1] 26))).trans (hb8.mono (by go_size)); have m60 := cell_later hb8 n60; have m61 := cell_later hb8 n61; have m70 := cell_later hb8 n70; have m71 := cell_later hb8 n71)
                | (go_at_call 15; refine (eqPoint_c _ _ _ _ _).mono ?_; rw [hQ1]; rintro e w9 ⟨rfl, hb9⟩; have hB9 := hB8.trans (hb9.mono hB8.size); have hb9' := grew hb6' hB9; have ha9 := (ha6.later hB9).mono hB9.size)
                | (go_at_call 12; refine (toPointS_e l _ _ _ _ hl h20 ((HA.out.later hb9').mono hb9'.size)).mono ?_; rintro e w7 ⟨b7, rfl, hc7, hb7⟩; have ha7 := hc7.at; have hb7' := grew hb9' hb7; have ha67 := (ha9.later hb7).mono hb7.size; clear hc7)
                | (go_at_call 16; refine (eqPointS_c l l _ _ _ _ _ _ _ hl hl h20 h20 ha67 ha7).mono ?_; rintro e wA ⟨rfl, hbA⟩))
              go_ret
              exact ⟨rfl, grew hb7' hbA⟩
      · go_simp
        refine hK.out _ _ ?_ (fun hHeld => ?_)
        · (refine keep2 ?_ (by with_reducible assumption); go_grown)
        clear hK K
        try simp only [Act.put, List.setIfInBounds_toArray, List.set_cons_zero, List.set_cons_succ]
        have hlt0 : w.heap.size < wB1.heap.size := held_lt (by with_reducible assumption)
        have K0 := BoxP.new wB1 0 0
        have hbB0 : Below wB1.heap.size wB1 (wB1.alloc (.cells #[.int .i64 0, .int .i64 0] 26)) := by go_grown
        have hne10 : B1 < wB1.heap.size := K1.lt
        replace K1 := K1.later hbB0
        generalize wB1.heap.size = B0 at K0 hlt0 hne10 ⊢
        generalize wB1.alloc (.cells #[.int .i64 0, .int .i64 0] 26) = wB0 at *
        refine wpAnyH_ready (rs := [1]) (by kernel_rfl) (by simp) ?_
        refine (AllReadyH.cons (o := { dst := some 20, op := Op.call { callee := Callee.value (Operand.func 12), args := #[Operand.tmp 19], argTypes := #[22] }, type := 29, pos := "exact.go:3770", after := #[{ on := 0, ground := Ground.data }], guard := none }) rfl (fun K hK => ?_) AllReadyH.nil)
        · go_simp
          refine (toPointS_e l _ _ _ _ hl h20 ((HA.out.later hHeld.2.2).mono hHeld.2.2.size)).mono ?_
          rintro e w1 ⟨b1, rfl, hc1, hb1⟩
          go_wp2_with fail
          refine hK.out _ _ ?_ (fun hHeld => ?_)
          · exact keep2 hb1 (by with_reducible assumption)
          clear hK K
          try simp only [Act.put, List.setIfInBounds_toArray, List.set_cons_zero, List.set_cons_succ]
          replace K1 := K1.later hb1
          replace K0 := K0.later hb1
          have ha1 := hc1.at
          refine wpAnyH_ready (rs := [3]) (by kernel_rfl) (by simp) ?_
          refine (AllReadyH.cons (o := { dst := some 22, op := Op.call { callee := Callee.value (Operand.func 13), args := #[Operand.tmp 21], argTypes := #[24] }, type := 26, pos := "exact.go:3770", after := #[{ on := 2, ground := Ground.data }, { on := 1, ground := Ground.chain }], guard := none }) rfl (fun K hK => ?_) AllReadyH.nil)
          · go_simp
            refine (toPoint_c _ _ _).mono ?_
            rintro e w2 ⟨rfl, hb2⟩
            go_wp2_with fail
            refine hK.out _ _ ?_ (fun hHeld => ?_)
            · exact keep2 hb2 (by with_reducible assumption)
            clear hK K
            try simp only [Act.put, List.setIfInBounds_toArray, List.set_cons_zero, List.set_cons_succ]
            replace ha1 := (ha1.later hb2).mono hb2.size
            replace K1 := K1.later hb2
            replace K0 := K0.later hb2
            refine wpAnyH_ready (rs := [4]) (by kernel_rfl) (by simp) ?_
            refine (AllReadyH.cons (o := { dst := some 23, op := Op.call { callee := Callee.value (Operand.func 19), args := #[Operand.tmp 20, Operand.tmp 22], argTypes := #[29, 26] }, type := 37, pos := "exact.go:3770", after := #[{ on := 1, ground := Ground.data }, { on := 3, ground := Ground.data }, { on := 3, ground := Ground.chain }], guard := none }) rfl (fun K hK => ?_) AllReadyH.nil)
            · go_simp
              refine (tangentsSpec_c l x y _ _ _ _ hl h20 ha1).mono ?_
              rw [hE0, hE1]
              rintro e w3 ⟨rfl, hb3⟩
              go_wp2_with fail
              refine hK.out _ _ ?_ (fun hHeld => ?_)
              · exact keep2 hb3 (by with_reducible assumption)
              clear hK K
              try simp only [Act.put, List.setIfInBounds_toArray, List.set_cons_zero, List.set_cons_succ]
              replace ha1 := (ha1.later hb3).mono hb3.size
              replace K1 := K1.later hb3
              replace K0 := K0.later hb3
              refine wpAnyH_take (i := 5) (oi := { dst := some 18, op := Op.move (Operand.tmp 23), type := 37, pos := "exact.go:3770", after := #[{ on := 4, ground := Ground.data }], guard := none }) (v := ?v112x5) rfl (by kernel_rfl) (by kernel_rfl) (by kernel_rfl) (fun _ _ _ h => h) (Or.inl ⟨by rfl, ?hy112x5⟩) (by with_reducible assumption) ?rest112x5
              case hy112x5 => (intro w hSw; (try dsimp only at hSw); go_simp; try with_reducible rfl)
              case' rest112x5 => (try simp only [Act.put, List.setIfInBounds_toArray, List.set_cons_zero, List.set_cons_succ])
              refine wpAnyH_take (i := 6) (oi := { dst := some 24, op := Op.extract (Operand.tmp 18) 0, type := 26, pos := "exact.go:3770", after := #[{ on := 5, ground := Ground.data }], guard := none }) (v := ?v113x6) rfl (by kernel_rfl) (by kernel_rfl) (by kernel_rfl) (fun _ _ _ h => h) (Or.inl ⟨by rfl, ?hy113x6⟩) (by with_reducible assumption) ?rest113x6
              case hy113x6 => (intro w hSw; (try dsimp only at hSw); go_simp; try with_reducible rfl)
              case' rest113x6 => (try simp only [Act.put, List.setIfInBounds_toArray, List.set_cons_zero, List.set_cons_succ])
              refine wpAnyH_take (i := 7) (oi := { dst := some 25, op := Op.extract (Operand.tmp 18) 1, type := 26, pos := "exact.go:3770", after := #[{ on := 5, ground := Ground.data }, { on := 11, ground := Ground.gcOnly Departure.lateStores }], guard := none }) (v := ?v114x7) rfl (by kernel_rfl) (by kernel_rfl) (by kernel_rfl) (fun _ _ _ h => h) (Or.inl ⟨by rfl, ?hy114x7⟩) (by with_reducible assumption) ?rest114x7
              case hy114x7 => (intro w hSw; (try dsimp only at hSw); go_simp; try with_reducible rfl)
              case' rest114x7 => (try simp only [Act.put, List.setIfInBounds_toArray, List.set_cons_zero, List.set_cons_succ])
              refine wpAnyH_take (i := 8) (oi := { dst := some 26, op := Op.extract (Operand.tmp 18) 2, type := 4, pos := "exact.go:3770", after := #[{ on := 5, ground := Ground.data }, { on := 12, ground := Ground.gcOnly Departure.lateStores }], guard := none }) (v := ?v115x8) rfl (by kernel_rfl) (by kernel_rfl) (by kernel_rfl) (fun _ _ _ h => h) (Or.inl ⟨by rfl, ?hy115x8⟩) (by with_reducible assumption) ?rest115x8
              case hy115x8 => (intro w hSw; (try dsimp only at hSw); go_simp; try with_reducible rfl)
              case' rest115x8 => (try simp only [Act.put, List.setIfInBounds_toArray, List.set_cons_zero, List.set_cons_succ])
              have f00 := K0.f 0
              have f01 := K0.f 1
              have d00 := K0.c0
              have d01 := K0.c1
              refine wpAnyH_ready (rs := [11]) (by kernel_rfl) (by simp) ?_
              refine AllReadyH.cons (o := { dst := none, op := Op.store 26 (Operand.tmp 6) (Operand.tmp 24), type := 0, pos := "exact.go:3770", after := #[{ on := 9, ground := Ground.data }, { on := 6, ground := Ground.data }, { on := 4, ground := Ground.chain }, { on := 0, ground := Ground.phase }, { on := 1, ground := Ground.phase }, { on := 2, ground := Ground.phase }, { on := 3, ground := Ground.phase }, { on := 4, ground := Ground.phase }, { on := 5, ground := Ground.phase }, { on := 6, ground := Ground.phase }, { on := 7, ground := Ground.textOnly Departure.lateStores }, { on := 8, ground := Ground.textOnly Departure.lateStores }, { on := 9, ground := Ground.phase }, { on := 10, ground := Ground.phase }], guard := none }) rfl (fun K hK => ?_) AllReadyH.nil
              go_simp
              refine hK.out _ _ ?_ (fun hHeld => ?_)
              · exact keepSt (B := B0) hHeld hlt0 _ _
              clear hK K
              try simp only [Act.put, List.setIfInBounds_toArray, List.set_cons_zero, List.set_cons_succ]
              clear f00 f01 d00 d01
              replace K0 := K0.set ex0 ey0
              replace K1 := ((K1.other (B' := B0) (i := 0) (by omega) (.int .i64 ex0)).other (B' := B0) (i := 1) (by omega) (.int .i64 ey0))
              generalize (w3.setCell ⟨B0, 0, none⟩ (.int .i64 ex0)).setCell ⟨B0, 1, none⟩ (.int .i64 ey0) = wS0 at hHeld K0 K1 ⊢
              have f10 := K1.f 0
              have f11 := K1.f 1
              have d10 := K1.c0
              have d11 := K1.c1
              refine wpAnyH_ready (rs := [12]) (by kernel_rfl) (by simp) ?_
              refine AllReadyH.cons (o := { dst := none, op := Op.store 26 (Operand.tmp 7) (Operand.tmp 25), type := 0, pos := "exact.go:3770", after := #[{ on := 10, ground := Ground.data }, { on := 7, ground := Ground.data }, { on := 11, ground := Ground.chain }, { on := 0, ground := Ground.phase }, { on := 1, ground := Ground.phase }, { on := 2, ground := Ground.phase }, { on := 3, ground := Ground.phase }, { on := 4, ground := Ground.phase }, { on := 5, ground := Ground.phase }, { on := 6, ground := Ground.phase }, { on := 7, ground := Ground.phase }, { on := 8, ground := Ground.textOnly Departure.lateStores }, { on := 9, ground := Ground.phase }, { on := 10, ground := Ground.phase }, { on := 11, ground := Ground.phase }], guard := none }) rfl (fun K hK => ?_) AllReadyH.nil
              go_simp
              refine hK.out _ _ ?_ (fun hHeld => ?_)
              · exact keepSt (B := B1) hHeld hlt1 _ _
              clear hK K
              try simp only [Act.put, List.setIfInBounds_toArray, List.set_cons_zero, List.set_cons_succ]
              clear f10 f11 d10 d11
              replace K1 := K1.set ex1 ey1
              replace K0 := ((K0.other (B' := B1) (i := 0) (by omega) (.int .i64 ex1)).other (B' := B1) (i := 1) (by omega) (.int .i64 ey1))
              generalize (wS0.setCell ⟨B1, 0, none⟩ (.int .i64 ex1)).setCell ⟨B1, 1, none⟩ (.int .i64 ey1) = wS1 at hHeld K0 K1 ⊢
              refine wpAnyH_take (i := 13) (oi := { dst := some 8, op := Op.assign (Operand.tmp 26), type := 4, pos := "exact.go:3770", after := #[{ on := 8, ground := Ground.data }, { on := 12, ground := Ground.chain }, { on := 0, ground := Ground.phase }, { on := 1, ground := Ground.phase }, { on := 2, ground := Ground.phase }, { on := 3, ground := Ground.phase }, { on := 4, ground := Ground.phase }, { on := 5, ground := Ground.phase }, { on := 6, ground := Ground.phase }, { on := 7, ground := Ground.phase }, { on := 8, ground := Ground.phase }, { on := 9, ground := Ground.phase }, { on := 10, ground := Ground.phase }, { on := 11, ground := Ground.phase }, { on := 12, ground := Ground.phase }], guard := none }) (v := ?v116x13) rfl (by kernel_rfl) (by kernel_rfl) (by kernel_rfl) (fun _ _ _ h => h) (Or.inl ⟨by rfl, ?hy116x13⟩) (by with_reducible assumption) ?rest116x13
              case hy116x13 => (intro w hSw; (try dsimp only at hSw); go_simp; try with_reducible rfl)
              case' rest116x13 => (try simp only [Act.put, List.setIfInBounds_toArray, List.set_cons_zero, List.set_cons_succ])
              refine wpAnyH_done (by kernel_rfl) ?_ _
              obtain ⟨r0, r1, hb3'⟩ := hHeld
              go_wp2_with (first
                | (go_at_call 12; clear tok2; refine (toPointS_e l _ _ _ _ hl h20 ((HA.out.later hb3').mono hb3'.size)).mono ?_; rintro e w4 ⟨b4, rfl, hc4, hb4⟩; have ha4 := hc4.at; have hb4' := grew hb3' hb4; have s0 := cell_later hb4 r0; have s1 := cell_later hb4 r1; replace K0 := K0.later hb4; replace K1 := K1.later hb4; clear hc4)
                | (go_at_call 13; refine (toPoint_c _ _ _).mono ?_; rintro e w5 ⟨rfl, hb5⟩; have hb5' := grew hb4' hb5; replace K0 := K0.later hb5; replace K1 := K1.later hb5; have ha5 := (ha4.later hb5).mono hb5.size)
                | (go_at_call 20; refine (tangentsImpl_c l x y _ _ _ _ hl h20 ha5 (cell_later hb5' C0.out)).mono ?_; rw [hE0, hE1]; rintro e w6 ⟨rfl, hb6⟩; have hb6' := grew hb5' hb6; replace K0 := K0.later hb6; replace K1 := K1.later hb6; have k0x := K0.c0; have k0y := K0.c1; have lk0 := K0.lt; have k1x := K1.c0; have k1y := K1.c1; have lk1 := K1.lt; have n60 := cell_later (show Below w6.heap.size w6 ((w6.alloc (.cells #[.int .i64 ex0, .int .i64 ey0] 26)).alloc (.cells #[.int .i64 ex1, .int .i64 ey1] 26)) by go_grown) k1x; have n61 := cell_later (show Below w6.heap.size w6 ((w6.alloc (.cells #[.int .i64 ex0, .int .i64 ey0] 26)).alloc (.cells #[.int .i64 ex1, .int .i64 ey1] 26)) by go_grown) k1y; have G11 := BoxP.new (w6.alloc (.cells #[.int .i64 ex0, .int .i64 ey0] 26)) ex1 ey1; simp only [World.size_alloc] at G11; have n70 := G11.c0; have n71 := G11.c1; have ha6 := (ha5.later hb6).mono hb6.size)
                | (go_at_call 15; clear tk8; refine (eqPoint_c _ _ _ _ _).mono ?_; rw [hQ0]; rintro e w8 ⟨rfl, hb8⟩; have hB8 : Below w6.heap.size w6 w8 := (by go_grown : Below w6.heap.size w6 ((w6.alloc (.cells #[.int .i64 ex0, .int .i64 ey0] 26)).alloc (.cells #[.int .i64 ex1, .int .i64 ey1] 26))).trans (hb8.mono (by go_size)); have m60 := cell_later hb8 n60; have m61 := cell_later hb8 n61; have m70 := cell_later hb8 n70; have m71 := cell_later hb8 n71)
                | (go_at_call 15; refine (eqPoint_c _ _ _ _ _).mono ?_; rw [hQ1]; rintro e w9 ⟨rfl, hb9⟩; have hB9 := hB8.trans (hb9.mono hB8.size); have hb9' := grew hb6' hB9; have ha9 := (ha6.later hB9).mono hB9.size)
                | (go_at_call 12; refine (toPointS_e l _ _ _ _ hl h20 ((HA.out.later hb9').mono hb9'.size)).mono ?_; rintro e w7 ⟨b7, rfl, hc7, hb7⟩; have ha7 := hc7.at; have hb7' := grew hb9' hb7; have ha67 := (ha9.later hb7).mono hb7.size; clear hc7)
                | (go_at_call 16; refine (eqPointS_c l l _ _ _ _ _ _ _ hl hl h20 h20 ha67 ha7).mono ?_; rintro e wA ⟨rfl, hbA⟩))
              go_ret
              exact ⟨rfl, grew hb7' hbA⟩
  · have hn : (1048576 : Int) < (len : Int) := by omega
    go_enter Tryd.func5, Tryd.ntmps5
    go_wp2_with (go_at_call 10; refine (szPointS_f _ _ _ _ ?_ ?_ hm _).mono ?_; (omega); (omega); rintro e w' ⟨rfl, rfl⟩)
    go_ret
    exact ⟨rfl, by go_grown⟩
end Go.Proofs.YtegmlemejmahiaaDoor.fnExactTangentsFrom
