/-
  Points added, a triangle's weight, the middle of a hull, as the program reckons them (contracts for the walks).
  Conditions: as each theorem states them.
-/
import Derived.Test.YtohcllojjmhbcaaDoorAr8N
import Derived.Test.YtohcllojjmhbcaaDoorAr8F
namespace Go.Proofs.YtohcllojjmhbcaaDoor
open Go.RowKit Go.Shelf
set_option linter.unusedVariables false
set_option maxRecDepth 8000
theorem tg1_c (l : List (Int × Int)) (k B : Nat) (a : Option Addr) (len cap : Nat) (wu : World) (hl : l.length = len) (h1 : len ≤ 1048576) (hkl : k < len) (hA : At wu.heap.size a l wu) (hB : BoxV wu B (.slice a len cap) 24) :
    Calls Tryd.prog 86 #[.int .i64 (k : Int), .pointer (some ⟨B, 0, none⟩)] wu fun e u' => e = .returned (.int .i64 (px l k)) ∧ Below wu.heap.size wu u' := by
  subst hl
  obtain ⟨b, off, rfl, hbN, q0, q1⟩ := hA k hkl
  have qb := hB.c0
  have k0 : (0 : Int) ≤ (k : Int) := by omega
  have k1 : (k : Int) < (l.length : Int) := by omega
  clear hA hB
  go_enter Tryd.func86, Tryd.ntmps86
  go_wp2
  go_ret
  exact ⟨rfl, Below.refl _ _⟩
theorem enterT1 (xs : Array Value) (u : World) : Sem.run Tryd.prog (callFunc 86 xs) u = Result.ok (Next.enter 86 xs) u := by
  simp [callFunc, go_sem, Tryd.f86]
theorem tg2_c (l : List (Int × Int)) (k B : Nat) (a : Option Addr) (len cap : Nat) (wu : World) (hl : l.length = len) (h1 : len ≤ 1048576) (hkl : k < len) (hA : At wu.heap.size a l wu) (hB : BoxV wu B (.slice a len cap) 24) :
    Calls Tryd.prog 87 #[.int .i64 (k : Int), .pointer (some ⟨B, 0, none⟩)] wu fun e u' => e = .returned (.int .i64 (py l k)) ∧ Below wu.heap.size wu u' := by
  subst hl
  obtain ⟨b, off, rfl, hbN, q0, q1⟩ := hA k hkl
  have qb := hB.c0
  have k0 : (0 : Int) ≤ (k : Int) := by omega
  have k1 : (k : Int) < (l.length : Int) := by omega
  clear hA hB
  go_enter Tryd.func87, Tryd.ntmps87
  go_wp2
  go_ret
  exact ⟨rfl, Below.refl _ _⟩
theorem enterT2 (xs : Array Value) (u : World) : Sem.run Tryd.prog (callFunc 87 xs) u = Result.ok (Next.enter 87 xs) u := by
  simp [callFunc, go_sem, Tryd.f87]
theorem bv_other {W : World} {B B' i t : Nat} {u : Value} (h : BoxV W B u t) (hne : B ≠ B') (v : Value) : BoxV (W.setCell ⟨B', i, none⟩ v) B u t := (Below.heap_setCell W _ v B hne).trans h
set_option maxHeartbeats 4000000 in
theorem together_c (l : List (Int × Int)) (a : Option Addr) (len cap : Nat) (w : World) (hl : l.length = len) (h1 : len ≤ 1048576) (hA : At w.heap.size a l w)
    (hsx : ∀ k, k ≤ len → IntKind.i64.wrap (sumT (px l) k) = sumT (px l) k) (hsy : ∀ k, k ≤ len → IntKind.i64.wrap (sumT (py l) k) = sumT (py l) k) :
    Calls Tryd.prog 54 #[.slice a len cap] w fun e w' => e = .returned (.agg #[.int .i64 (sumT (px l) len), .int .i64 (sumT (py l) len)]) ∧ Below w.heap.size w w' := by
  subst hl
  have HA := hid hA
  clear hA
  have hbw : Below w.heap.size w ((w.alloc (.cells #[.slice a l.length cap] 24)).alloc (.cells #[.int .i64 0, .int .i64 0] 26)) := by go_grown
  have K1 : BoxV ((w.alloc (.cells #[.slice a l.length cap] 24)).alloc (.cells #[.int .i64 0, .int .i64 0] 26)) w.heap.size (.slice a l.length cap) 24 := BoxV.later (BoxV.new w _ _) ((Below.refl _ _).alloc (Nat.le_refl _) _)
  have K2 : BoxP ((w.alloc (.cells #[.slice a l.length cap] 24)).alloc (.cells #[.int .i64 0, .int .i64 0] 26)) (w.heap.size + 1) (0, 0) := by have h := BoxP.new (w.alloc (.cells #[.slice a l.length cap] 24)) 0 0; simp only [World.size_alloc] at h; exact h
  have HSX := hid (fun (u : World) (hu : Below w.heap.size w u) (hB : BoxV u w.heap.size (.slice a l.length cap) 24) =>
    sumOf_c 86 w.heap.size (px l) l.length u (fun x k hx hk => tg1_c l k w.heap.size a l.length cap x rfl h1 hk ((HA.out.later (grew hu hx)).mono (grew hu hx).size) (hB.later hx)) enterT1 hsx h1)
  have HSY := hid (fun (u : World) (hu : Below w.heap.size w u) (hB : BoxV u w.heap.size (.slice a l.length cap) 24) =>
    sumOf_c 87 w.heap.size (py l) l.length u (fun x k hx hk => tg2_c l k w.heap.size a l.length cap x rfl h1 hk ((HA.out.later (grew hu hx)).mono (grew hu hx).size) (hB.later hx)) enterT2 hsy h1)
  generalize sumT (px l) l.length = SX at HSX ⊢
  generalize sumT (py l) l.length = SY at HSY ⊢
  clear hsx hsy
  obtain ⟨B2, hB2⟩ : ∃ b, b = w.heap.size + 1 := ⟨_, rfl⟩
  go_enter Tryd.func54, Tryd.ntmps54
  go_upto_region 1 with fail
  rw [← hB2] at K2 ⊢
  have hlt2 : w.heap.size < B2 := by omega
  clear hB2
  generalize ((w.alloc (.cells #[.slice a l.length cap] 24)).alloc (.cells #[.int .i64 0, .int .i64 0] 26)) = wb at *
  refine wp_region_held_drew (S := (fun u => BoxV u w.heap.size (.slice a l.length cap) 24 ∧ Below w.heap.size w u)) (by kernel_rfl) ?_ (fun hHeld => ?_)
  · exact ⟨K1.later (drewN_below 1 _), grew hbw (drewN_below 1 _)⟩
  have hd : Below wb.heap.size wb wb.drew := (Below.refl _ _).drew
  replace K1 := K1.later hd
  replace K2 := K2.later hd
  replace hbw := grew hbw hd
  clear hd hHeld
  generalize wb.drew = wd at *
  have hHeld : BoxV wd w.heap.size (.slice a l.length cap) 24 ∧ Below w.heap.size w wd := ⟨K1, hbw⟩
  refine wpAnyH_take (i := 0) (oi := { dst := some 3, op := Op.load 24 (Operand.tmp 1), type := 24, pos := "l8_area.go:128", after := #[], guard := none }) (v := ?v2yx0u1) rfl (by kernel_rfl) (by kernel_rfl) (by kernel_rfl) (fun _ _ _ h => h) (Or.inl ⟨by rfl, ?hy2yx0u1⟩) (by with_reducible assumption) ?rest2yx0u1
  case hy2yx0u1 => (intro wS hSw; (try dsimp only at hSw); have z0 := hSw.1.c0; clear hSw; go_simp; try with_reducible rfl)
  case' rest2yx0u1 => (try simp only [Act.put, List.setIfInBounds_toArray, List.set_cons_zero, List.set_cons_succ])
  refine wpAnyH_take (i := 1) (oi := { dst := some 4, op := Op.call { callee := Callee.builtin Builtin.len, args := #[Operand.tmp 3], argTypes := #[24] }, type := 3, pos := "l8_area.go:128", after := #[{ on := 0, ground := Ground.data }], guard := none }) (v := ?v3yx1u2) rfl (by kernel_rfl) (by kernel_rfl) (by kernel_rfl) (fun _ _ _ h => h) (Or.inl ⟨by rfl, ?hy3yx1u2⟩) (by with_reducible assumption) ?rest3yx1u2
  case hy3yx1u2 => (intro wS hSw; (try dsimp only at hSw); have z0 := hSw.1.c0; clear hSw; go_simp; try with_reducible rfl)
  case' rest3yx1u2 => (try simp only [Act.put, List.setIfInBounds_toArray, List.set_cons_zero, List.set_cons_succ])
  refine wpAnyH_take (i := 2) (oi := { dst := some 5, op := Op.makeFunc (Fn.func 86) #[] #[Operand.tmp 1], type := 77, pos := "l8_area.go:128", after := #[], guard := none }) (v := ?v4yx2u3) rfl (by kernel_rfl) (by kernel_rfl) (by kernel_rfl) (fun _ _ _ h => h) (Or.inl ⟨by rfl, ?hy4yx2u3⟩) (by with_reducible assumption) ?rest4yx2u3
  case hy4yx2u3 => (intro wS hSw; (try dsimp only at hSw); have z0 := hSw.1.c0; clear hSw; go_simp; try with_reducible rfl)
  case' rest4yx2u3 => (try simp only [Act.put, List.setIfInBounds_toArray, List.set_cons_zero, List.set_cons_succ])
  refine wpAnyH_take (i := 4) (oi := { dst := some 7, op := Op.load 24 (Operand.tmp 1), type := 24, pos := "l8_area.go:128", after := #[], guard := none }) (v := ?v5yx4u4) rfl (by kernel_rfl) (by kernel_rfl) (by kernel_rfl) (fun _ _ _ h => h) (Or.inl ⟨by rfl, ?hy5yx4u4⟩) (by with_reducible assumption) ?rest5yx4u4
  case hy5yx4u4 => (intro wS hSw; (try dsimp only at hSw); have z0 := hSw.1.c0; clear hSw; go_simp; try with_reducible rfl)
  case' rest5yx4u4 => (try simp only [Act.put, List.setIfInBounds_toArray, List.set_cons_zero, List.set_cons_succ])
  refine wpAnyH_take (i := 5) (oi := { dst := some 8, op := Op.call { callee := Callee.builtin Builtin.len, args := #[Operand.tmp 7], argTypes := #[24] }, type := 3, pos := "l8_area.go:128", after := #[{ on := 4, ground := Ground.data }], guard := none }) (v := ?v6yx5u5) rfl (by kernel_rfl) (by kernel_rfl) (by kernel_rfl) (fun _ _ _ h => h) (Or.inl ⟨by rfl, ?hy6yx5u5⟩) (by with_reducible assumption) ?rest6yx5u5
  case hy6yx5u5 => (intro wS hSw; (try dsimp only at hSw); have z0 := hSw.1.c0; clear hSw; go_simp; try with_reducible rfl)
  case' rest6yx5u5 => (try simp only [Act.put, List.setIfInBounds_toArray, List.set_cons_zero, List.set_cons_succ])
  refine wpAnyH_take (i := 6) (oi := { dst := some 9, op := Op.makeFunc (Fn.func 87) #[] #[Operand.tmp 1], type := 77, pos := "l8_area.go:128", after := #[], guard := none }) (v := ?v7yx6u6) rfl (by kernel_rfl) (by kernel_rfl) (by kernel_rfl) (fun _ _ _ h => h) (Or.inl ⟨by rfl, ?hy7yx6u6⟩) (by with_reducible assumption) ?rest7yx6u6
  case hy7yx6u6 => (intro wS hSw; (try dsimp only at hSw); have z0 := hSw.1.c0; clear hSw; go_simp; try with_reducible rfl)
  case' rest7yx6u6 => (try simp only [Act.put, List.setIfInBounds_toArray, List.set_cons_zero, List.set_cons_succ])
  refine wpAnyH_ready (rs := [3]) (by kernel_rfl) (by simp) ?_
  refine AllReadyH.cons (o := { dst := some 6, op := Op.call { callee := Callee.value (Operand.func 81), args := #[Operand.tmp 4, Operand.tmp 5], argTypes := #[3, 77] }, type := 3, pos := "l8_area.go:129", after := #[{ on := 1, ground := Ground.data }, { on := 2, ground := Ground.data }], guard := none }) rfl (fun K hK => ?_) AllReadyH.nil
  go_simp
  refine (HSX.out _ hbw K1).mono ?_
  rintro e w2 ⟨rfl, hb1⟩
  go_wp2_with fail
  refine hK.out _ _ ?_ (fun hHeld => ?_)
  · exact ⟨K1.later hb1, grew hbw hb1⟩
  replace K1 := K1.later hb1
  replace K2 := K2.later hb1
  replace hbw := grew hbw hb1
  clear hb1
  clear hK K
  try simp only [Act.put, List.setIfInBounds_toArray, List.set_cons_zero, List.set_cons_succ]
  refine wpAnyH_ready (rs := [7]) (by kernel_rfl) (by simp) ?_
  refine AllReadyH.cons (o := { dst := some 10, op := Op.call { callee := Callee.value (Operand.func 81), args := #[Operand.tmp 8, Operand.tmp 9], argTypes := #[3, 77] }, type := 3, pos := "l8_area.go:130", after := #[{ on := 5, ground := Ground.data }, { on := 6, ground := Ground.data }, { on := 3, ground := Ground.chain }], guard := none }) rfl (fun K hK => ?_) AllReadyH.nil
  go_simp
  refine (HSY.out _ hbw K1).mono ?_
  rintro e w3 ⟨rfl, hb1⟩
  go_wp2_with fail
  refine hK.out _ _ ?_ (fun hHeld => ?_)
  · exact ⟨K1.later hb1, grew hbw hb1⟩
  replace K1 := K1.later hb1
  replace K2 := K2.later hb1
  replace hbw := grew hbw hb1
  clear hb1
  clear hK K
  try simp only [Act.put, List.setIfInBounds_toArray, List.set_cons_zero, List.set_cons_succ]
  refine wpAnyH_take (i := 8) (oi := { dst := some 11, op := Op.build 26 #[(0, Operand.tmp 6), (1, Operand.tmp 10)], type := 26, pos := "l8_area.go:128", after := #[{ on := 3, ground := Ground.data }, { on := 7, ground := Ground.data }], guard := none }) (v := ?v8yx8u7) rfl (by kernel_rfl) (by kernel_rfl) (by kernel_rfl) (fun _ _ _ h => h) (Or.inl ⟨by rfl, ?hy8yx8u7⟩) (by with_reducible assumption) ?rest8yx8u7
  case hy8yx8u7 => (intro wS hSw; (try dsimp only at hSw); have z0 := hSw.1.c0; clear hSw; go_simp; try with_reducible rfl)
  case' rest8yx8u7 => (try simp only [Act.put, List.setIfInBounds_toArray, List.set_cons_zero, List.set_cons_succ])
  refine wpAnyH_ready (rs := [9]) (by kernel_rfl) (by simp) ?_
  refine AllReadyH.cons (o := { dst := none, op := Op.store 26 (Operand.tmp 2) (Operand.tmp 11), type := 0, pos := "l8_area.go:128", after := #[{ on := 8, ground := Ground.data }, { on := 7, ground := Ground.chain }, { on := 0, ground := Ground.phase }, { on := 1, ground := Ground.phase }, { on := 2, ground := Ground.phase }, { on := 3, ground := Ground.phase }, { on := 4, ground := Ground.phase }, { on := 5, ground := Ground.phase }, { on := 6, ground := Ground.phase }, { on := 7, ground := Ground.phase }, { on := 8, ground := Ground.phase }], guard := none }) rfl (fun K hK => ?_) AllReadyH.nil
  have f20 := K2.f 0
  have f21 := K2.f 1
  have c20 := K2.c0
  have c21 := K2.c1
  go_simp
  refine hK.out _ _ ?_ (fun hHeld => ?_)
  · exact ⟨bv_other (bv_other K1 (by omega) _) (by omega) _, (hbw.setCell (p := ⟨B2, 0, none⟩) (show _ ≤ B2 by omega) _).setCell (p := ⟨B2, 1, none⟩) (show _ ≤ B2 by omega) _⟩
  clear f20 f21 c20 c21 hHeld
  replace hbw := (hbw.setCell (p := ⟨B2, 0, none⟩) (show _ ≤ B2 by omega) (.int .i64 SX)).setCell (p := ⟨B2, 1, none⟩) (show _ ≤ B2 by omega) (.int .i64 SY)
  replace K2 := K2.set SX SY
  clear hK K
  try simp only [Act.put, List.setIfInBounds_toArray, List.set_cons_zero, List.set_cons_succ]
  refine wpAnyH_done (by kernel_rfl) ?_ _
  have c20 := K2.c0
  have c21 := K2.c1
  generalize (w3.setCell ⟨B2, 0, none⟩ (.int .i64 SX)).setCell ⟨B2, 1, none⟩ (.int .i64 SY) = w4 at *
  go_wp2
  refine bodyPost_ret (v := .agg #[.int .i64 SX, .int .i64 SY]) (by simp [results, Tryd.results54, go_sem, c20, c21]) rfl ?_
  exact ⟨rfl, hbw⟩
theorem sp_gp {p : Int × Int} (h : sp8 p) : gp p := by
  have := smB_r h
  exact decide_eq_true (by omega)
theorem three_at (w : World) (x0 y0 x1 y1 x2 y2 : Int) : At ((w.alloc (.cells #[.int .i64 x0, .int .i64 y0, .int .i64 x1, .int .i64 y1, .int .i64 x2, .int .i64 y2] 69)).alloc (.cells #[.int .i64 0, .int .i64 0] 26)).heap.size (some ⟨w.heap.size, 0, none⟩) [(x0, y0), (x1, y1), (x2, y2)] ((w.alloc (.cells #[.int .i64 x0, .int .i64 y0, .int .i64 x1, .int .i64 y1, .int .i64 x2, .int .i64 y2] 69)).alloc (.cells #[.int .i64 0, .int .i64 0] 26)) := fun i hi => by
  refine ⟨w.heap.size, 0, rfl, by simp; omega, ?_⟩
  have : i = 0 ∨ i = 1 ∨ i = 2 := by simp at hi; omega
  rcases this with rfl | rfl | rfl <;> exact ⟨by simp [go_sem, px], by simp [go_sem, py]⟩
set_option maxHeartbeats 4000000 in
theorem balance_c (x0 y0 x1 y1 x2 y2 : Int) (w : World) (p0 : sp8 (x0, y0)) (p1 : sp8 (x1, y1)) (p2 : sp8 (x2, y2)) :
    Calls Tryd.prog 53 #[.agg #[.int .i64 x0, .int .i64 y0, .int .i64 x1, .int .i64 y1, .int .i64 x2, .int .i64 y2]] w fun e w' => e = .returned (.agg #[.int .i64 (wgt (x0, y0) (x1, y1) (x2, y2)).1, .int .i64 (wgt (x0, y0) (x1, y1) (x2, y2)).2]) ∧ Below w.heap.size w w' := by
  have r0 := smB_r p0
  have r1 := smB_r p1
  have r2 := smB_r p2
  have ht := sd_tiny p0 p1 p2
  have hw := wgt_tiny p0 p1 p2
  have HE := crossW_eq (sp_gp p0) (sp_gp p1) (sp_gp p2)
  unfold crossW at HE
  simp only at r0 r1 r2 HE
  have hsx : sumT (px [(x0, y0), (x1, y1), (x2, y2)]) 3 = x0 + x1 + x2 := by simp [sumT, px]
  have hsy : sumT (py [(x0, y0), (x1, y1), (x2, y2)]) 3 = y0 + y1 + y2 := by simp [sumT, py]
  have HTG0 := fun (u : World) (hu : Below ((w.alloc (.cells #[.int .i64 x0, .int .i64 y0, .int .i64 x1, .int .i64 y1, .int .i64 x2, .int .i64 y2] 69)).alloc (.cells #[.int .i64 0, .int .i64 0] 26)).heap.size ((w.alloc (.cells #[.int .i64 x0, .int .i64 y0, .int .i64 x1, .int .i64 y1, .int .i64 x2, .int .i64 y2] 69)).alloc (.cells #[.int .i64 0, .int .i64 0] 26)) u) => together_c [(x0, y0), (x1, y1), (x2, y2)] (some ⟨w.heap.size, 0, none⟩) 3 3 u rfl (by decide) (((three_at w x0 y0 x1 y1 x2 y2).later hu).mono hu.size)
    (fun k hk => by
      have : k = 0 ∨ k = 1 ∨ k = 2 ∨ k = 3 := by omega
      rw [IntKind.wrap_i64]
      rcases this with rfl | rfl | rfl | rfl <;> simp [sumT, px] <;> omega)
    (fun k hk => by
      have : k = 0 ∨ k = 1 ∨ k = 2 ∨ k = 3 := by omega
      rw [IntKind.wrap_i64]
      rcases this with rfl | rfl | rfl | rfl <;> simp [sumT, py] <;> omega)
  have hv : wgt (x0, y0) (x1, y1) (x2, y2) = (sd (x0, y0) (x1, y1) (x2, y2) * (x0 + x1 + x2), sd (x0, y0) (x1, y1) (x2, y2) * (y0 + y1 + y2)) := rfl
  rw [hsx, hsy] at HTG0
  generalize sd (x0, y0) (x1, y1) (x2, y2) = NN at ht HE hv
  generalize hSX : x0 + x1 + x2 = SX at HTG0 hv
  generalize hSY : y0 + y1 + y2 = SY at HTG0 hv
  rw [hv] at hw ⊢
  simp only at hw ⊢
  obtain ⟨WX, hWX⟩ : ∃ x, NN * SX = x := ⟨_, rfl⟩
  obtain ⟨WY, hWY⟩ : ∃ x, NN * SY = x := ⟨_, rfl⟩
  rw [hWX, hWY] at hw ⊢
  have m1 : IntKind.i64.wrap (SX * NN) = WX := by rw [Int.mul_comm, hWX, IntKind.wrap_i64]; omega
  have m2 : IntKind.i64.wrap (SY * NN) = WY := by rw [Int.mul_comm, hWY, IntKind.wrap_i64]; omega
  have HTG := hid HTG0
  replace HE := hid HE
  clear HTG0 hWX hWY hw ht hv hsx hsy r0 r1 r2 p0 p1 p2 hSX hSY
  have hbw : Below w.heap.size w ((w.alloc (.cells #[.int .i64 x0, .int .i64 y0, .int .i64 x1, .int .i64 y1, .int .i64 x2, .int .i64 y2] 69)).alloc (.cells #[.int .i64 0, .int .i64 0] 26)) := by go_grown
  have K2 : BoxP ((w.alloc (.cells #[.int .i64 x0, .int .i64 y0, .int .i64 x1, .int .i64 y1, .int .i64 x2, .int .i64 y2] 69)).alloc (.cells #[.int .i64 0, .int .i64 0] 26)) (w.heap.size + 1) (0, 0) := by have h := BoxP.new (w.alloc (.cells #[.int .i64 x0, .int .i64 y0, .int .i64 x1, .int .i64 y1, .int .i64 x2, .int .i64 y2] 69)) 0 0; simp only [World.size_alloc] at h; exact h
  have d0 : ((w.alloc (.cells #[.int .i64 x0, .int .i64 y0, .int .i64 x1, .int .i64 y1, .int .i64 x2, .int .i64 y2] 69)).alloc (.cells #[.int .i64 0, .int .i64 0] 26)).cell? ⟨w.heap.size, 0, none⟩ = some (.int .i64 x0) := by simp [go_sem]
  have d1 : ((w.alloc (.cells #[.int .i64 x0, .int .i64 y0, .int .i64 x1, .int .i64 y1, .int .i64 x2, .int .i64 y2] 69)).alloc (.cells #[.int .i64 0, .int .i64 0] 26)).cell? ⟨w.heap.size, 1, none⟩ = some (.int .i64 y0) := by simp [go_sem]
  have d2 : ((w.alloc (.cells #[.int .i64 x0, .int .i64 y0, .int .i64 x1, .int .i64 y1, .int .i64 x2, .int .i64 y2] 69)).alloc (.cells #[.int .i64 0, .int .i64 0] 26)).cell? ⟨w.heap.size, 2, none⟩ = some (.int .i64 x1) := by simp [go_sem]
  have d3 : ((w.alloc (.cells #[.int .i64 x0, .int .i64 y0, .int .i64 x1, .int .i64 y1, .int .i64 x2, .int .i64 y2] 69)).alloc (.cells #[.int .i64 0, .int .i64 0] 26)).cell? ⟨w.heap.size, 3, none⟩ = some (.int .i64 y1) := by simp [go_sem]
  have d4 : ((w.alloc (.cells #[.int .i64 x0, .int .i64 y0, .int .i64 x1, .int .i64 y1, .int .i64 x2, .int .i64 y2] 69)).alloc (.cells #[.int .i64 0, .int .i64 0] 26)).cell? ⟨w.heap.size, 4, none⟩ = some (.int .i64 x2) := by simp [go_sem]
  have d5 : ((w.alloc (.cells #[.int .i64 x0, .int .i64 y0, .int .i64 x1, .int .i64 y1, .int .i64 x2, .int .i64 y2] 69)).alloc (.cells #[.int .i64 0, .int .i64 0] 26)).cell? ⟨w.heap.size, 5, none⟩ = some (.int .i64 y2) := by simp [go_sem]
  obtain ⟨B2, hB2⟩ : ∃ b, b = w.heap.size + 1 := ⟨_, rfl⟩
  go_enter Tryd.func53, Tryd.ntmps53
  go_upto_region 1 with fail
  rw [← hB2] at K2 ⊢
  have hlt2 : w.heap.size < B2 := by omega
  clear hB2
  generalize ((w.alloc (.cells #[.int .i64 x0, .int .i64 y0, .int .i64 x1, .int .i64 y1, .int .i64 x2, .int .i64 y2] 69)).alloc (.cells #[.int .i64 0, .int .i64 0] 26)) = wb at *
  refine wp_region_held_drew (S := (fun u => Below wb.heap.size wb u)) (by kernel_rfl) ?_ (fun hHeld => ?_)
  · exact (Below.refl _ _).drew
  have hd : Below wb.heap.size wb wb.drew := (Below.refl _ _).drew
  replace K2 := K2.later hd
  clear hHeld
  generalize hwd : wb.drew = wd at *
  clear hwd
  have hHeld : Below wb.heap.size wb wd := hd
  clear hd
  refine wpAnyH_take (i := 0) (oi := { dst := some 5, op := Op.slice 69 (Operand.tmp 1) none none none, type := 24, pos := "l8_area.go:122", after := #[], guard := none }) (v := ?v10yx0u8) rfl (by kernel_rfl) (by kernel_rfl) (by kernel_rfl) (fun _ _ _ h => h) (Or.inl ⟨by rfl, ?hy10yx0u8⟩) (by with_reducible assumption) ?rest10yx0u8
  case hy10yx0u8 => (intro wS hSw; (try dsimp only at hSw); have z0 := cell_later hSw d0; have z1 := cell_later hSw d1; have z2 := cell_later hSw d2; have z3 := cell_later hSw d3; have z4 := cell_later hSw d4; have z5 := cell_later hSw d5; clear hSw; go_simp; try with_reducible rfl)
  case' rest10yx0u8 => (try simp only [Act.put, List.setIfInBounds_toArray, List.set_cons_zero, List.set_cons_succ])
  refine wpAnyH_take (i := 2) (oi := { dst := some 7, op := Op.load 69 (Operand.tmp 1), type := 69, pos := "l8_area.go:122", after := #[], guard := none }) (v := ?v11yx2u9) rfl (by kernel_rfl) (by kernel_rfl) (by kernel_rfl) (fun _ _ _ h => h) (Or.inl ⟨by rfl, ?hy11yx2u9⟩) (by with_reducible assumption) ?rest11yx2u9
  case hy11yx2u9 => (intro wS hSw; (try dsimp only at hSw); have z0 := cell_later hSw d0; have z1 := cell_later hSw d1; have z2 := cell_later hSw d2; have z3 := cell_later hSw d3; have z4 := cell_later hSw d4; have z5 := cell_later hSw d5; clear hSw; go_simp; try with_reducible rfl)
  case' rest11yx2u9 => (try simp only [Act.put, List.setIfInBounds_toArray, List.set_cons_zero, List.set_cons_succ])
  refine wpAnyH_ready (rs := [1, 4]) (by kernel_rfl) (by simp) ?_
  refine AllReadyH.cons (o := { dst := some 6, op := Op.call { callee := Callee.value (Operand.func 54), args := #[Operand.tmp 5], argTypes := #[24] }, type := 26, pos := "l8_area.go:122", after := #[{ on := 0, ground := Ground.data }], guard := none }) rfl (fun K hK => ?_) (AllReadyH.cons (o := { dst := some 3, op := Op.alloc 26, type := 0, pos := "l8_area.go:122", after := #[], guard := none }) rfl (fun K hK => ?_) AllReadyH.nil)
  · go_simp
    refine (HTG.out _ hHeld).mono ?_
    rintro e wc1 ⟨rfl, hb1⟩
    go_wp2_with fail
    refine hK.out _ _ ?_ (fun hHeld2 => ?_)
    · exact grew hHeld hb1
    replace K2 := K2.later hb1
    replace hHeld := grew hHeld hb1
    clear hb1 hHeld2
    clear hK K
    try simp only [Act.put, List.setIfInBounds_toArray, List.set_cons_zero, List.set_cons_succ]
    refine wpAnyH_ready (rs := [3, 4]) (by kernel_rfl) (by simp) ?_
    refine AllReadyH.cons (o := { dst := some 8, op := Op.call { callee := Callee.value (Operand.func 83), args := #[Operand.tmp 7], argTypes := #[69] }, type := 3, pos := "l8_area.go:122", after := #[{ on := 2, ground := Ground.data }, { on := 1, ground := Ground.chain }], guard := none }) rfl (fun K hK => ?_) (AllReadyH.cons (o := { dst := some 3, op := Op.alloc 26, type := 0, pos := "l8_area.go:122", after := #[], guard := none }) rfl (fun K hK => ?_) AllReadyH.nil)
    · go_simp
      refine (twA_c _ _ _ _ _ _ _).mono ?_
      rw [HE.out]
      rintro e wc3 ⟨rfl, hb1⟩
      go_wp2_with fail
      refine hK.out _ _ ?_ (fun hHeld2 => ?_)
      · exact grew hHeld hb1
      replace K2 := K2.later hb1
      replace hHeld := grew hHeld hb1
      clear hb1 hHeld2
      clear hK K
      try simp only [Act.put, List.setIfInBounds_toArray, List.set_cons_zero, List.set_cons_succ]
      refine wpAnyH_ready (rs := [4]) (by kernel_rfl) (by simp) ?_
      refine AllReadyH.cons (o := { dst := some 3, op := Op.alloc 26, type := 0, pos := "l8_area.go:122", after := #[], guard := none }) rfl (fun K hK => ?_) AllReadyH.nil
      go_simp
      refine hK.out _ _ ?_ (fun hHeld2 => ?_)
      · exact grew hHeld (by go_grown : Below wc3.heap.size wc3 _)
      have hbA : Below wc3.heap.size wc3 (wc3.alloc (.cells #[.int .i64 0, .int .i64 0] 26)) := by go_grown
      have hle3 : wb.heap.size ≤ wc3.heap.size := hHeld.size
      have hlt3 : B2 < wc3.heap.size := K2.lt
      replace K2 := K2.later hbA
      have K3 := BoxP.new wc3 0 0
      replace hHeld := grew hHeld hbA
      clear hbA hHeld2
      generalize wc3.heap.size = B3 at K3 hle3 hlt3 ⊢
      generalize wc3.alloc (.cells #[.int .i64 0, .int .i64 0] 26) = wa at *
      clear hK K
      try simp only [Act.put, List.setIfInBounds_toArray, List.set_cons_zero, List.set_cons_succ]
      refine wpAnyH_ready (rs := [5]) (by kernel_rfl) (by simp) ?_
      refine AllReadyH.cons (o := { dst := none, op := Op.store 26 (Operand.tmp 3) (Operand.tmp 6), type := 0, pos := "l8_area.go:122", after := #[{ on := 4, ground := Ground.data }, { on := 1, ground := Ground.data }, { on := 3, ground := Ground.chain }, { on := 0, ground := Ground.phase }, { on := 1, ground := Ground.phase }, { on := 2, ground := Ground.textOnly Departure.lateStores }, { on := 3, ground := Ground.textOnly Departure.lateStoresUnsure }, { on := 4, ground := Ground.phase }], guard := none }) rfl (fun K hK => ?_) AllReadyH.nil
      have f30 := K3.f 0
      have f31 := K3.f 1
      have c30 := K3.c0
      have c31 := K3.c1
      go_simp
      refine hK.out _ _ ?_ (fun hHeld2 => ?_)
      · exact (hHeld.setCell (p := ⟨B3, 0, none⟩) (show _ ≤ B3 by omega) _).setCell (p := ⟨B3, 1, none⟩) (show _ ≤ B3 by omega) _
      clear f30 f31 c30 c31 hHeld2
      replace hHeld := (hHeld.setCell (p := ⟨B3, 0, none⟩) (show _ ≤ B3 by omega) (.int .i64 SX)).setCell (p := ⟨B3, 1, none⟩) (show _ ≤ B3 by omega) (.int .i64 SY)
      replace K3 := K3.set SX SY
      replace K2 := (K2.other (B' := B3) (i := 0) (by omega) (.int .i64 SX)).other (B' := B3) (i := 1) (by omega) (.int .i64 SY)
      generalize (wa.setCell ⟨B3, 0, none⟩ (.int .i64 SX)).setCell ⟨B3, 1, none⟩ (.int .i64 SY) = we at *
      clear hK K
      try simp only [Act.put, List.setIfInBounds_toArray, List.set_cons_zero, List.set_cons_succ]
      refine wpAnyH_take (i := 6) (oi := { dst := some 4, op := Op.assign (Operand.tmp 8), type := 3, pos := "l8_area.go:122", after := #[{ on := 3, ground := Ground.data }, { on := 5, ground := Ground.chain }, { on := 0, ground := Ground.phase }, { on := 1, ground := Ground.phase }, { on := 2, ground := Ground.phase }, { on := 3, ground := Ground.phase }, { on := 4, ground := Ground.phase }, { on := 5, ground := Ground.phase }], guard := none }) (v := ?v12yx6u10) rfl (by kernel_rfl) (by kernel_rfl) (by kernel_rfl) (fun _ _ _ h => h) (Or.inl ⟨by rfl, ?hy12yx6u10⟩) (by with_reducible assumption) ?rest12yx6u10
      case hy12yx6u10 => (intro wS hSw; (try dsimp only at hSw); have z0 := cell_later hSw d0; have z1 := cell_later hSw d1; have z2 := cell_later hSw d2; have z3 := cell_later hSw d3; have z4 := cell_later hSw d4; have z5 := cell_later hSw d5; clear hSw; go_simp; try with_reducible rfl)
      case' rest12yx6u10 => (try simp only [Act.put, List.setIfInBounds_toArray, List.set_cons_zero, List.set_cons_succ])
      refine wpAnyH_done (by kernel_rfl) ?_ _
      replace hbw := grew hbw hHeld
      clear hHeld
      have c30 := K3.c0
      have c31 := K3.c1
      have f20 := K2.f 0
      have f21 := K2.f 1
      have c20 := K2.c0
      have c21 := K2.c1
      go_wp2
      clear c20 c21 f20 f21
      replace hbw := (hbw.setCell (p := ⟨B2, 0, none⟩) (show _ ≤ B2 by omega) (.int .i64 WX)).setCell (p := ⟨B2, 1, none⟩) (show _ ≤ B2 by omega) (.int .i64 WY)
      replace K2 := K2.set WX WY
      generalize (we.setCell ⟨B2, 0, none⟩ (.int .i64 WX)).setCell ⟨B2, 1, none⟩ (.int .i64 WY) = wf at *
      have c20 := K2.c0
      have c21 := K2.c1
      refine bodyPost_ret (v := .agg #[.int .i64 WX, .int .i64 WY]) (by simp [results, Tryd.results53, go_sem, c20, c21]) rfl ?_
      exact ⟨rfl, hbw⟩
    · go_simp
      refine hK.out _ _ ?_ (fun hHeld2 => ?_)
      · exact grew hHeld (by go_grown : Below wc1.heap.size wc1 _)
      have hbA : Below wc1.heap.size wc1 (wc1.alloc (.cells #[.int .i64 0, .int .i64 0] 26)) := by go_grown
      have hle3 : wb.heap.size ≤ wc1.heap.size := hHeld.size
      have hlt3 : B2 < wc1.heap.size := K2.lt
      replace K2 := K2.later hbA
      have K3 := BoxP.new wc1 0 0
      replace hHeld := grew hHeld hbA
      clear hbA hHeld2
      generalize wc1.heap.size = B3 at K3 hle3 hlt3 ⊢
      generalize wc1.alloc (.cells #[.int .i64 0, .int .i64 0] 26) = wa at *
      clear hK K
      try simp only [Act.put, List.setIfInBounds_toArray, List.set_cons_zero, List.set_cons_succ]
      refine wpAnyH_ready (rs := [3]) (by kernel_rfl) (by simp) ?_
      refine AllReadyH.cons (o := { dst := some 8, op := Op.call { callee := Callee.value (Operand.func 83), args := #[Operand.tmp 7], argTypes := #[69] }, type := 3, pos := "l8_area.go:122", after := #[{ on := 2, ground := Ground.data }, { on := 1, ground := Ground.chain }], guard := none }) rfl (fun K hK => ?_) AllReadyH.nil
      go_simp
      refine (twA_c _ _ _ _ _ _ _).mono ?_
      rw [HE.out]
      rintro e wc3 ⟨rfl, hb1⟩
      go_wp2_with fail
      refine hK.out _ _ ?_ (fun hHeld2 => ?_)
      · exact grew hHeld hb1
      replace K2 := K2.later hb1
      replace K3 := K3.later hb1
      replace hHeld := grew hHeld hb1
      clear hb1 hHeld2
      clear hK K
      try simp only [Act.put, List.setIfInBounds_toArray, List.set_cons_zero, List.set_cons_succ]
      refine wpAnyH_ready (rs := [5]) (by kernel_rfl) (by simp) ?_
      refine AllReadyH.cons (o := { dst := none, op := Op.store 26 (Operand.tmp 3) (Operand.tmp 6), type := 0, pos := "l8_area.go:122", after := #[{ on := 4, ground := Ground.data }, { on := 1, ground := Ground.data }, { on := 3, ground := Ground.chain }, { on := 0, ground := Ground.phase }, { on := 1, ground := Ground.phase }, { on := 2, ground := Ground.textOnly Departure.lateStores }, { on := 3, ground := Ground.textOnly Departure.lateStoresUnsure }, { on := 4, ground := Ground.phase }], guard := none }) rfl (fun K hK => ?_) AllReadyH.nil
      have f30 := K3.f 0
      have f31 := K3.f 1
      have c30 := K3.c0
      have c31 := K3.c1
      go_simp
      refine hK.out _ _ ?_ (fun hHeld2 => ?_)
      · exact (hHeld.setCell (p := ⟨B3, 0, none⟩) (show _ ≤ B3 by omega) _).setCell (p := ⟨B3, 1, none⟩) (show _ ≤ B3 by omega) _
      clear f30 f31 c30 c31 hHeld2
      replace hHeld := (hHeld.setCell (p := ⟨B3, 0, none⟩) (show _ ≤ B3 by omega) (.int .i64 SX)).setCell (p := ⟨B3, 1, none⟩) (show _ ≤ B3 by omega) (.int .i64 SY)
      replace K3 := K3.set SX SY
      replace K2 := (K2.other (B' := B3) (i := 0) (by omega) (.int .i64 SX)).other (B' := B3) (i := 1) (by omega) (.int .i64 SY)
      generalize (wc3.setCell ⟨B3, 0, none⟩ (.int .i64 SX)).setCell ⟨B3, 1, none⟩ (.int .i64 SY) = we at *
      clear hK K
      try simp only [Act.put, List.setIfInBounds_toArray, List.set_cons_zero, List.set_cons_succ]
      refine wpAnyH_take (i := 6) (oi := { dst := some 4, op := Op.assign (Operand.tmp 8), type := 3, pos := "l8_area.go:122", after := #[{ on := 3, ground := Ground.data }, { on := 5, ground := Ground.chain }, { on := 0, ground := Ground.phase }, { on := 1, ground := Ground.phase }, { on := 2, ground := Ground.phase }, { on := 3, ground := Ground.phase }, { on := 4, ground := Ground.phase }, { on := 5, ground := Ground.phase }], guard := none }) (v := ?v13yx6u11) rfl (by kernel_rfl) (by kernel_rfl) (by kernel_rfl) (fun _ _ _ h => h) (Or.inl ⟨by rfl, ?hy13yx6u11⟩) (by with_reducible assumption) ?rest13yx6u11
      case hy13yx6u11 => (intro wS hSw; (try dsimp only at hSw); have z0 := cell_later hSw d0; have z1 := cell_later hSw d1; have z2 := cell_later hSw d2; have z3 := cell_later hSw d3; have z4 := cell_later hSw d4; have z5 := cell_later hSw d5; clear hSw; go_simp; try with_reducible rfl)
      case' rest13yx6u11 => (try simp only [Act.put, List.setIfInBounds_toArray, List.set_cons_zero, List.set_cons_succ])
      refine wpAnyH_done (by kernel_rfl) ?_ _
      replace hbw := grew hbw hHeld
      clear hHeld
      have c30 := K3.c0
      have c31 := K3.c1
      have f20 := K2.f 0
      have f21 := K2.f 1
      have c20 := K2.c0
      have c21 := K2.c1
      go_wp2
      clear c20 c21 f20 f21
      replace hbw := (hbw.setCell (p := ⟨B2, 0, none⟩) (show _ ≤ B2 by omega) (.int .i64 WX)).setCell (p := ⟨B2, 1, none⟩) (show _ ≤ B2 by omega) (.int .i64 WY)
      replace K2 := K2.set WX WY
      generalize (we.setCell ⟨B2, 0, none⟩ (.int .i64 WX)).setCell ⟨B2, 1, none⟩ (.int .i64 WY) = wf at *
      have c20 := K2.c0
      have c21 := K2.c1
      refine bodyPost_ret (v := .agg #[.int .i64 WX, .int .i64 WY]) (by simp [results, Tryd.results53, go_sem, c20, c21]) rfl ?_
      exact ⟨rfl, hbw⟩
  · go_simp
    refine hK.out _ _ ?_ (fun hHeld2 => ?_)
    · exact grew hHeld (by go_grown : Below wd.heap.size wd _)
    have hbA : Below wd.heap.size wd (wd.alloc (.cells #[.int .i64 0, .int .i64 0] 26)) := by go_grown
    have hle3 : wb.heap.size ≤ wd.heap.size := hHeld.size
    have hlt3 : B2 < wd.heap.size := K2.lt
    replace K2 := K2.later hbA
    have K3 := BoxP.new wd 0 0
    replace hHeld := grew hHeld hbA
    clear hbA hHeld2
    generalize wd.heap.size = B3 at K3 hle3 hlt3 ⊢
    generalize wd.alloc (.cells #[.int .i64 0, .int .i64 0] 26) = wa at *
    clear hK K
    try simp only [Act.put, List.setIfInBounds_toArray, List.set_cons_zero, List.set_cons_succ]
    refine wpAnyH_ready (rs := [1]) (by kernel_rfl) (by simp) ?_
    refine AllReadyH.cons (o := { dst := some 6, op := Op.call { callee := Callee.value (Operand.func 54), args := #[Operand.tmp 5], argTypes := #[24] }, type := 26, pos := "l8_area.go:122", after := #[{ on := 0, ground := Ground.data }], guard := none }) rfl (fun K hK => ?_) AllReadyH.nil
    go_simp
    refine (HTG.out _ hHeld).mono ?_
    rintro e wc1 ⟨rfl, hb1⟩
    go_wp2_with fail
    refine hK.out _ _ ?_ (fun hHeld2 => ?_)
    · exact grew hHeld hb1
    replace K2 := K2.later hb1
    replace K3 := K3.later hb1
    replace hHeld := grew hHeld hb1
    clear hb1 hHeld2
    clear hK K
    try simp only [Act.put, List.setIfInBounds_toArray, List.set_cons_zero, List.set_cons_succ]
    refine wpAnyH_ready (rs := [3]) (by kernel_rfl) (by simp) ?_
    refine AllReadyH.cons (o := { dst := some 8, op := Op.call { callee := Callee.value (Operand.func 83), args := #[Operand.tmp 7], argTypes := #[69] }, type := 3, pos := "l8_area.go:122", after := #[{ on := 2, ground := Ground.data }, { on := 1, ground := Ground.chain }], guard := none }) rfl (fun K hK => ?_) AllReadyH.nil
    go_simp
    refine (twA_c _ _ _ _ _ _ _).mono ?_
    rw [HE.out]
    rintro e wc3 ⟨rfl, hb1⟩
    go_wp2_with fail
    refine hK.out _ _ ?_ (fun hHeld2 => ?_)
    · exact grew hHeld hb1
    replace K2 := K2.later hb1
    replace K3 := K3.later hb1
    replace hHeld := grew hHeld hb1
    clear hb1 hHeld2
    clear hK K
    try simp only [Act.put, List.setIfInBounds_toArray, List.set_cons_zero, List.set_cons_succ]
    refine wpAnyH_ready (rs := [5]) (by kernel_rfl) (by simp) ?_
    refine AllReadyH.cons (o := { dst := none, op := Op.store 26 (Operand.tmp 3) (Operand.tmp 6), type := 0, pos := "l8_area.go:122", after := #[{ on := 4, ground := Ground.data }, { on := 1, ground := Ground.data }, { on := 3, ground := Ground.chain }, { on := 0, ground := Ground.phase }, { on := 1, ground := Ground.phase }, { on := 2, ground := Ground.textOnly Departure.lateStores }, { on := 3, ground := Ground.textOnly Departure.lateStoresUnsure }, { on := 4, ground := Ground.phase }], guard := none }) rfl (fun K hK => ?_) AllReadyH.nil
    have f30 := K3.f 0
    have f31 := K3.f 1
    have c30 := K3.c0
    have c31 := K3.c1
    go_simp
    refine hK.out _ _ ?_ (fun hHeld2 => ?_)
    · exact (hHeld.setCell (p := ⟨B3, 0, none⟩) (show _ ≤ B3 by omega) _).setCell (p := ⟨B3, 1, none⟩) (show _ ≤ B3 by omega) _
    clear f30 f31 c30 c31 hHeld2
    replace hHeld := (hHeld.setCell (p := ⟨B3, 0, none⟩) (show _ ≤ B3 by omega) (.int .i64 SX)).setCell (p := ⟨B3, 1, none⟩) (show _ ≤ B3 by omega) (.int .i64 SY)
    replace K3 := K3.set SX SY
    replace K2 := (K2.other (B' := B3) (i := 0) (by omega) (.int .i64 SX)).other (B' := B3) (i := 1) (by omega) (.int .i64 SY)
    generalize (wc3.setCell ⟨B3, 0, none⟩ (.int .i64 SX)).setCell ⟨B3, 1, none⟩ (.int .i64 SY) = we at *
    clear hK K
    try simp only [Act.put, List.setIfInBounds_toArray, List.set_cons_zero, List.set_cons_succ]
    refine wpAnyH_take (i := 6) (oi := { dst := some 4, op := Op.assign (Operand.tmp 8), type := 3, pos := "l8_area.go:122", after := #[{ on := 3, ground := Ground.data }, { on := 5, ground := Ground.chain }, { on := 0, ground := Ground.phase }, { on := 1, ground := Ground.phase }, { on := 2, ground := Ground.phase }, { on := 3, ground := Ground.phase }, { on := 4, ground := Ground.phase }, { on := 5, ground := Ground.phase }], guard := none }) (v := ?v14yx6u12) rfl (by kernel_rfl) (by kernel_rfl) (by kernel_rfl) (fun _ _ _ h => h) (Or.inl ⟨by rfl, ?hy14yx6u12⟩) (by with_reducible assumption) ?rest14yx6u12
    case hy14yx6u12 => (intro wS hSw; (try dsimp only at hSw); have z0 := cell_later hSw d0; have z1 := cell_later hSw d1; have z2 := cell_later hSw d2; have z3 := cell_later hSw d3; have z4 := cell_later hSw d4; have z5 := cell_later hSw d5; clear hSw; go_simp; try with_reducible rfl)
    case' rest14yx6u12 => (try simp only [Act.put, List.setIfInBounds_toArray, List.set_cons_zero, List.set_cons_succ])
    refine wpAnyH_done (by kernel_rfl) ?_ _
    replace hbw := grew hbw hHeld
    clear hHeld
    have c30 := K3.c0
    have c31 := K3.c1
    have f20 := K2.f 0
    have f21 := K2.f 1
    have c20 := K2.c0
    have c21 := K2.c1
    go_wp2
    clear c20 c21 f20 f21
    replace hbw := (hbw.setCell (p := ⟨B2, 0, none⟩) (show _ ≤ B2 by omega) (.int .i64 WX)).setCell (p := ⟨B2, 1, none⟩) (show _ ≤ B2 by omega) (.int .i64 WY)
    replace K2 := K2.set WX WY
    generalize (we.setCell ⟨B2, 0, none⟩ (.int .i64 WX)).setCell ⟨B2, 1, none⟩ (.int .i64 WY) = wf at *
    have c20 := K2.c0
    have c21 := K2.c1
    refine bodyPost_ret (v := .agg #[.int .i64 WX, .int .i64 WY]) (by simp [results, Tryd.results53, go_sem, c20, c21]) rfl ?_
    exact ⟨rfl, hbw⟩
end Go.Proofs.YtohcllojjmhbcaaDoor
