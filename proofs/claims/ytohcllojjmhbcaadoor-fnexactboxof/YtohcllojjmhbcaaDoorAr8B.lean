/-
  The least and the greatest numbers of a set: the program's function and the specification's (contracts for the walks).
  Conditions: as each theorem states them.
-/
import Derived.Test.YtohcllojjmhbcaaDoorArMath
import Derived.Test.YtohcllojjmhbcaaDoorHBeyond
import Derived.Deep.DeepCutAuto
namespace Go.Proofs.YtohcllojjmhbcaaDoor
open Go.RowKit Go.Shelf
set_option linter.unusedVariables false
set_option maxRecDepth 8000
def boxOk (l : List (Int × Int)) : Bool := goodL l && decide (0 < l.length)
def bxL (l : List (Int × Int)) : Int × Int := if boxOk l = true then boxL l l.length else (0, 0)
def bxH (l : List (Int × Int)) : Int × Int := if boxOk l = true then boxH l l.length else (0, 0)
theorem min_if8 (a b : Int) : min a b = if b < a then b else a := by split <;> omega
theorem max_if8 (a b : Int) : max a b = if a < b then b else a := by split <;> omega
theorem least_c (a b : Int) (w : World) : Calls Tryd.prog 48 #[.int .i64 a, .int .i64 b] w fun e w' => e = .returned (.int .i64 (min a b)) ∧ w = w' := by
  by_cases h : a < b
  · have e : min a b = a := by omega
    go_enter Tryd.func48, Tryd.ntmps48
    go_wp2
    go_ret
    exact ⟨ret_int (by first | rfl | omega), rfl⟩
  · have e : min a b = b := by omega
    go_enter Tryd.func48, Tryd.ntmps48
    go_wp2
    go_ret
    exact ⟨ret_int (by first | rfl | omega), rfl⟩
theorem most_c (a b : Int) (w : World) : Calls Tryd.prog 49 #[.int .i64 a, .int .i64 b] w fun e w' => e = .returned (.int .i64 (max a b)) ∧ w = w' := by
  by_cases h : b < a
  · have e : max a b = a := by omega
    go_enter Tryd.func49, Tryd.ntmps49
    go_wp2
    go_ret
    exact ⟨ret_int (by first | rfl | omega), rfl⟩
  · have e : max a b = b := by omega
    go_enter Tryd.func49, Tryd.ntmps49
    go_wp2
    go_ret
    exact ⟨ret_int (by first | rfl | omega), rfl⟩
theorem boxL_step {l : List (Int × Int)} {k : Nat} : boxL l (k + 1) = (min (boxL l k).1 (px l k), min (boxL l k).2 (py l k)) := rfl
theorem boxH_step {l : List (Int × Int)} {k : Nat} : boxH l (k + 1) = (max (boxH l k).1 (px l k), max (boxH l k).2 (py l k)) := rfl
theorem ret_box {a b c d : Int × Int} {x y : Bool} (h : a = b) (k : c = d) (e : x = y) : Ending.returned (.tuple #[.agg #[.int .i64 a.1, .int .i64 a.2], .agg #[.int .i64 c.1, .int .i64 c.2], .bool x]) = .returned (.tuple #[.agg #[.int .i64 b.1, .int .i64 b.2], .agg #[.int .i64 d.1, .int .i64 d.2], .bool y]) := by rw [h, k, e]
set_option maxHeartbeats 8000000 in
theorem boxImpl_c (l : List (Int × Int)) (a : Option Addr) (len cap : Nat) (w : World) (hl : l.length = len) (h1 : len ≤ 1048576) (hA : At w.heap.size a l w) (c0 : w.cell? ⟨0, 0, none⟩ = some (.int .i64 1000000)) :
    Calls Tryd.prog 18 #[.slice a len cap] w fun e w' => e = .returned (.tuple #[.agg #[.int .i64 (bxL l).1, .int .i64 (bxL l).2], .agg #[.int .i64 (bxH l).1, .int .i64 (bxH l).2], .bool (boxOk l)]) ∧ Below w.heap.size w w' := by
  subst hl
  have HA := hid hA
  have C0 := hid c0
  clear hA c0
  have hb0 : Below w.heap.size w ((w.alloc (.cells #[.int .i64 0, .int .i64 0] 26)).alloc (.cells #[.int .i64 0, .int .i64 0] 26)) := by go_grown
  have K2 : BoxP ((w.alloc (.cells #[.int .i64 0, .int .i64 0] 26)).alloc (.cells #[.int .i64 0, .int .i64 0] 26)) w.heap.size (0, 0) := BoxP.later (BoxP.new w 0 0) ((Below.refl _ _).alloc (Nat.le_refl _) _)
  have K3 : BoxP ((w.alloc (.cells #[.int .i64 0, .int .i64 0] 26)).alloc (.cells #[.int .i64 0, .int .i64 0] 26)) (w.heap.size + 1) (0, 0) := by have h := BoxP.new (w.alloc (.cells #[.int .i64 0, .int .i64 0] 26)) 0 0; simp only [World.size_alloc] at h; exact h
  have hle2 : w.heap.size ≤ w.heap.size := Nat.le_refl _
  have hle3 : w.heap.size < w.heap.size + 1 := Nat.lt_succ_self _
  cases hG : goodL l
  · have E : boxOk l = false := by unfold boxOk; rw [hG]; rfl
    go_enter Tryd.func18, Tryd.ntmps18
    go_upto_region 1 with fail
    generalize ((w.alloc (.cells #[.int .i64 0, .int .i64 0] 26)).alloc (.cells #[.int .i64 0, .int .i64 0] 26)) = w0 at *
    go_upto_region 2 with (go_at_call 40; refine (goodSetImpl_c l _ _ _ _ rfl h1 ((HA.out.later hb0).mono hb0.size) (cell_later hb0 C0.out)).mono ?_; rw [hG]; rintro e w1 ⟨rfl, hb1⟩; replace K2 := K2.later hb1; replace K3 := K3.later hb1; have hbw := grew hb0 hb1; clear hb1)
    obtain ⟨B3, hB3⟩ : ∃ b, w.heap.size + 1 = b := ⟨_, rfl⟩
    obtain ⟨B2, hB2⟩ : ∃ b, w.heap.size = b := ⟨_, rfl⟩
    rw [hB3] at K3 ⊢
    simp only [hB2] at K2 hbw hB3 ⊢
    have f20 := K2.f 0
    have f21 := K2.f 1
    have c20 := K2.c0
    have c21 := K2.c1
    have f30 := K3.f 0
    have f31 := K3.f 1
    have c30 := K3.c0
    have c31 := K3.c1
    go_wp2
    clear f20 f21 c20 c21
    clear f30 f31 c30 c31
    clear hle2 hle3
    replace hbw := (hbw.setCell (p := ⟨B2, 0, none⟩) (show _ ≤ B2 by omega) (.int .i64 0)).setCell (p := ⟨B2, 1, none⟩) (show _ ≤ B2 by omega) (.int .i64 0)
    replace K2 := K2.set 0 0
    replace K3 := (K3.other (B' := B2) (i := 0) (by omega) (.int .i64 0)).other (B' := B2) (i := 1) (by omega) (.int .i64 0)
    generalize (w1.setCell ⟨B2, 0, none⟩ (.int .i64 0)).setCell ⟨B2, 1, none⟩ (.int .i64 0) = w2 at *
    replace hbw := (hbw.setCell (p := ⟨B3, 0, none⟩) (show _ ≤ B3 by omega) (.int .i64 0)).setCell (p := ⟨B3, 1, none⟩) (show _ ≤ B3 by omega) (.int .i64 0)
    replace K3 := K3.set 0 0
    replace K2 := (K2.other (B' := B3) (i := 0) (by omega) (.int .i64 0)).other (B' := B3) (i := 1) (by omega) (.int .i64 0)
    generalize (w2.setCell ⟨B3, 0, none⟩ (.int .i64 0)).setCell ⟨B3, 1, none⟩ (.int .i64 0) = w3 at *
    have c20 := K2.c0
    have c21 := K2.c1
    have c30 := K3.c0
    have c31 := K3.c1
    refine bodyPost_ret (v := .tuple #[.agg #[.int .i64 0, .int .i64 0], .agg #[.int .i64 0, .int .i64 0], .bool false]) (by simp [results, Tryd.results18, go_sem, c20, c21, c30, c31]) rfl ?_
    exact ⟨ret_box (a := (0, 0)) (c := (0, 0)) (by unfold bxL; rw [E]; rfl) (by unfold bxH; rw [E]; rfl) (by first | rfl | exact E.symm), hbw⟩
  by_cases e0 : l.length = 0
  · have E : boxOk l = false := by unfold boxOk; rw [hG, decide_eq_false (by omega)]; rfl
    have z : ((l.length : Int) == 0) = true := by simp [e0]
    clear e0
    go_enter Tryd.func18, Tryd.ntmps18
    go_upto_region 1 with fail
    generalize ((w.alloc (.cells #[.int .i64 0, .int .i64 0] 26)).alloc (.cells #[.int .i64 0, .int .i64 0] 26)) = w0 at *
    go_upto_region 2 with (go_at_call 40; refine (goodSetImpl_c l _ _ _ _ rfl h1 ((HA.out.later hb0).mono hb0.size) (cell_later hb0 C0.out)).mono ?_; rw [hG]; rintro e w1 ⟨rfl, hb1⟩; replace K2 := K2.later hb1; replace K3 := K3.later hb1; have hbw := grew hb0 hb1; clear hb1)
    obtain ⟨B3, hB3⟩ : ∃ b, w.heap.size + 1 = b := ⟨_, rfl⟩
    obtain ⟨B2, hB2⟩ : ∃ b, w.heap.size = b := ⟨_, rfl⟩
    rw [hB3] at K3 ⊢
    simp only [hB2] at K2 hbw hB3 ⊢
    have f20 := K2.f 0
    have f21 := K2.f 1
    have c20 := K2.c0
    have c21 := K2.c1
    have f30 := K3.f 0
    have f31 := K3.f 1
    have c30 := K3.c0
    have c31 := K3.c1
    go_wp2
    clear f20 f21 c20 c21
    clear f30 f31 c30 c31
    clear hle2 hle3
    replace hbw := (hbw.setCell (p := ⟨B2, 0, none⟩) (show _ ≤ B2 by omega) (.int .i64 0)).setCell (p := ⟨B2, 1, none⟩) (show _ ≤ B2 by omega) (.int .i64 0)
    replace K2 := K2.set 0 0
    replace K3 := (K3.other (B' := B2) (i := 0) (by omega) (.int .i64 0)).other (B' := B2) (i := 1) (by omega) (.int .i64 0)
    generalize (w1.setCell ⟨B2, 0, none⟩ (.int .i64 0)).setCell ⟨B2, 1, none⟩ (.int .i64 0) = w2 at *
    replace hbw := (hbw.setCell (p := ⟨B3, 0, none⟩) (show _ ≤ B3 by omega) (.int .i64 0)).setCell (p := ⟨B3, 1, none⟩) (show _ ≤ B3 by omega) (.int .i64 0)
    replace K3 := K3.set 0 0
    replace K2 := (K2.other (B' := B3) (i := 0) (by omega) (.int .i64 0)).other (B' := B3) (i := 1) (by omega) (.int .i64 0)
    generalize (w2.setCell ⟨B3, 0, none⟩ (.int .i64 0)).setCell ⟨B3, 1, none⟩ (.int .i64 0) = w3 at *
    have c20 := K2.c0
    have c21 := K2.c1
    have c30 := K3.c0
    have c31 := K3.c1
    refine bodyPost_ret (v := .tuple #[.agg #[.int .i64 0, .int .i64 0], .agg #[.int .i64 0, .int .i64 0], .bool false]) (by simp [results, Tryd.results18, go_sem, c20, c21, c30, c31]) rfl ?_
    exact ⟨ret_box (a := (0, 0)) (c := (0, 0)) (by unfold bxL; rw [E]; rfl) (by unfold bxH; rw [E]; rfl) (by first | rfl | exact E.symm), hbw⟩
  · have E : boxOk l = true := by unfold boxOk; rw [hG, decide_eq_true (by omega)]; rfl
    have z : ((l.length : Int) == 0) = false := by simp [e0]
    obtain ⟨b, off, rfl, hbN, g0, g1⟩ := HA.out 0 (by omega)
    simp only [Nat.zero_mul, Nat.add_zero] at g0 g1
    have HX0 := hid (show boxL l 0 = (px l 0, py l 0) from rfl)
    have HX1 := hid (show boxH l 0 = (px l 0, py l 0) from rfl)
    obtain ⟨x0, hx0⟩ : ∃ x, px l 0 = x := ⟨_, rfl⟩
    obtain ⟨y0, hy0⟩ : ∃ x, py l 0 = x := ⟨_, rfl⟩
    rw [hx0, hy0] at HX0 HX1
    rw [hx0] at g0
    rw [hy0] at g1
    have n0 : 0 < l.length := by omega
    clear hx0 hy0 e0
    go_enter Tryd.func18, Tryd.ntmps18
    go_upto_region 1 with fail
    generalize ((w.alloc (.cells #[.int .i64 0, .int .i64 0] 26)).alloc (.cells #[.int .i64 0, .int .i64 0] 26)) = w0 at *
    go_upto_region 3 with (go_at_call 40; refine (goodSetImpl_c l _ _ _ _ rfl h1 ((HA.out.later hb0).mono hb0.size) (cell_later hb0 C0.out)).mono ?_; rw [hG]; rintro e w1 ⟨rfl, hb1⟩; replace K2 := K2.later hb1; replace K3 := K3.later hb1; have hbw := grew hb0 hb1; clear hb1)
    obtain ⟨B3, hB3⟩ : ∃ b, w.heap.size + 1 = b := ⟨_, rfl⟩
    obtain ⟨B2, hB2⟩ : ∃ b, w.heap.size = b := ⟨_, rfl⟩
    rw [hB3] at K3 ⊢
    rw [hB2] at K2 ⊢
    refine (fun (TAIL3 : ∀ (B5 B6 : Nat) (u : World), (BoxP u B2 (0, 0) ∧ BoxP u B3 (0, 0) ∧ BoxP u B5 (x0, y0) ∧ BoxP u B6 (x0, y0) ∧ B5 ≠ B6 ∧ B3 < B5 ∧ B3 < B6 ∧ Below w.heap.size w u) → (?PTail3 : Nat → Nat → World → Prop) B5 B6 u) => ?main3) ?tail3
    case main3 =>
      refine wp_region_held_drew (S := (fun u => Below w.heap.size w u)) (by kernel_rfl) ?_ (fun hHeld => ?_)
      · exact grew hbw (drewN_below 1 _)
      have hd : Below w1.heap.size w1 w1.drew := (Below.refl _ _).drew
      replace K2 := K2.later hd
      replace K3 := K3.later hd
      replace hbw := grew hbw hd
      clear hd hHeld
      generalize w1.drew = wa0 at *
      refine wpAnyH_take (i := 0) (oi := { dst := some 19, op := Op.move (Operand.tmp 0), type := 24, pos := "l8_area.go:64", after := #[], guard := none }) (v := ?v2yx0u1) rfl (by kernel_rfl) (by kernel_rfl) (by kernel_rfl) (fun _ _ _ h => h) (Or.inl ⟨by rfl, ?hy2yx0u1⟩) (by with_reducible assumption) ?rest2yx0u1
      case hy2yx0u1 => (intro wS hSw; (try dsimp only at hSw); have z0 := cell_later hSw g0; have z1 := cell_later hSw g1; clear hSw; go_simp; try with_reducible rfl)
      case' rest2yx0u1 => (try simp only [Act.put, List.setIfInBounds_toArray, List.set_cons_zero, List.set_cons_succ])
      refine wpAnyH_take (i := 1) (oi := { dst := some 20, op := Op.indexAddr 24 (Operand.tmp 19) (Operand.const (Value.int IntKind.i64 0)), type := 0, pos := "l8_area.go:64", after := #[{ on := 0, ground := Ground.data }], guard := none }) (v := ?v3yx1u2) rfl (by kernel_rfl) (by kernel_rfl) (by kernel_rfl) (fun _ _ _ h => h) (Or.inl ⟨by rfl, ?hy3yx1u2⟩) (by with_reducible assumption) ?rest3yx1u2
      case hy3yx1u2 => (intro wS hSw; (try dsimp only at hSw); have z0 := cell_later hSw g0; have z1 := cell_later hSw g1; clear hSw; go_simp; try with_reducible rfl)
      case' rest3yx1u2 => (try simp only [Act.put, List.setIfInBounds_toArray, List.set_cons_zero, List.set_cons_succ])
      refine wpAnyH_take (i := 2) (oi := { dst := some 21, op := Op.load 26 (Operand.tmp 20), type := 26, pos := "l8_area.go:64", after := #[{ on := 1, ground := Ground.data }], guard := none }) (v := ?v4yx2u3) rfl (by kernel_rfl) (by kernel_rfl) (by kernel_rfl) (fun _ _ _ h => h) (Or.inl ⟨by rfl, ?hy4yx2u3⟩) (by with_reducible assumption) ?rest4yx2u3
      case hy4yx2u3 => (intro wS hSw; (try dsimp only at hSw); have z0 := cell_later hSw g0; have z1 := cell_later hSw g1; clear hSw; go_simp; try with_reducible rfl)
      case' rest4yx2u3 => (try simp only [Act.put, List.setIfInBounds_toArray, List.set_cons_zero, List.set_cons_succ])
      refine wpAnyH_take (i := 3) (oi := { dst := some 22, op := Op.move (Operand.tmp 0), type := 24, pos := "l8_area.go:64", after := #[{ on := 8, ground := Ground.gcOnly Departure.lateStores }], guard := none }) (v := ?v5yx3u4) rfl (by kernel_rfl) (by kernel_rfl) (by kernel_rfl) (fun _ _ _ h => h) (Or.inl ⟨by rfl, ?hy5yx3u4⟩) (by with_reducible assumption) ?rest5yx3u4
      case hy5yx3u4 => (intro wS hSw; (try dsimp only at hSw); have z0 := cell_later hSw g0; have z1 := cell_later hSw g1; clear hSw; go_simp; try with_reducible rfl)
      case' rest5yx3u4 => (try simp only [Act.put, List.setIfInBounds_toArray, List.set_cons_zero, List.set_cons_succ])
      refine wpAnyH_take (i := 4) (oi := { dst := some 23, op := Op.indexAddr 24 (Operand.tmp 22) (Operand.const (Value.int IntKind.i64 0)), type := 0, pos := "l8_area.go:64", after := #[{ on := 3, ground := Ground.data }, { on := 8, ground := Ground.gcOnly Departure.lateStores }], guard := none }) (v := ?v6yx4u5) rfl (by kernel_rfl) (by kernel_rfl) (by kernel_rfl) (fun _ _ _ h => h) (Or.inl ⟨by rfl, ?hy6yx4u5⟩) (by with_reducible assumption) ?rest6yx4u5
      case hy6yx4u5 => (intro wS hSw; (try dsimp only at hSw); have z0 := cell_later hSw g0; have z1 := cell_later hSw g1; clear hSw; go_simp; try with_reducible rfl)
      case' rest6yx4u5 => (try simp only [Act.put, List.setIfInBounds_toArray, List.set_cons_zero, List.set_cons_succ])
      refine wpAnyH_take (i := 5) (oi := { dst := some 24, op := Op.load 26 (Operand.tmp 23), type := 26, pos := "l8_area.go:64", after := #[{ on := 4, ground := Ground.data }, { on := 8, ground := Ground.gcOnly Departure.lateStores }], guard := none }) (v := ?v7yx5u6) rfl (by kernel_rfl) (by kernel_rfl) (by kernel_rfl) (fun _ _ _ h => h) (Or.inl ⟨by rfl, ?hy7yx5u6⟩) (by with_reducible assumption) ?rest7yx5u6
      case hy7yx5u6 => (intro wS hSw; (try dsimp only at hSw); have z0 := cell_later hSw g0; have z1 := cell_later hSw g1; clear hSw; go_simp; try with_reducible rfl)
      case' rest7yx5u6 => (try simp only [Act.put, List.setIfInBounds_toArray, List.set_cons_zero, List.set_cons_succ])
      refine wpAnyH_ready (rs := [6, 7]) (by kernel_rfl) (by simp) ?_
      refine AllReadyH.cons (o := { dst := some 5, op := Op.alloc 26, type := 0, pos := "l8_area.go:64", after := #[], guard := none }) rfl (fun K hK => ?_) (AllReadyH.cons (o := { dst := some 6, op := Op.alloc 26, type := 0, pos := "l8_area.go:64", after := #[], guard := none }) rfl (fun K hK => ?_) AllReadyH.nil)
      · go_simp
        refine hK.out _ _ ?_ (fun hHeld => ?_)
        · exact grew hbw (by go_grown : Below wa0.heap.size wa0 _)
        have hbA : Below wa0.heap.size wa0 (wa0.alloc (.cells #[.int .i64 0, .int .i64 0] 26)) := by go_grown
        have hlt5 : B3 < wa0.heap.size := K3.lt
        replace K2 := K2.later hbA
        replace K3 := K3.later hbA
        have K5 := BoxP.new wa0 0 0
        replace hbw := grew hbw hbA
        clear hbA hHeld
        generalize wa0.heap.size = B5 at K5 hlt5 ⊢
        generalize wa0.alloc (.cells #[.int .i64 0, .int .i64 0] 26) = wa1 at *
        clear hK K
        try simp only [Act.put, List.setIfInBounds_toArray, List.set_cons_zero, List.set_cons_succ]
        refine wpAnyH_ready (rs := [7]) (by kernel_rfl) (by simp) ?_
        refine AllReadyH.cons (o := { dst := some 6, op := Op.alloc 26, type := 0, pos := "l8_area.go:64", after := #[], guard := none }) rfl (fun K hK => ?_) AllReadyH.nil
        go_simp
        refine hK.out _ _ ?_ (fun hHeld => ?_)
        · exact grew hbw (by go_grown : Below wa1.heap.size wa1 _)
        have hbA : Below wa1.heap.size wa1 (wa1.alloc (.cells #[.int .i64 0, .int .i64 0] 26)) := by go_grown
        have hlt6 : B3 < wa1.heap.size := K3.lt
        have hne : B5 < wa1.heap.size := K5.lt
        replace K2 := K2.later hbA
        replace K3 := K3.later hbA
        replace K5 := K5.later hbA
        have K6 := BoxP.new wa1 0 0
        replace hbw := grew hbw hbA
        clear hbA hHeld
        generalize wa1.heap.size = B6 at K6 hlt6 hne ⊢
        generalize wa1.alloc (.cells #[.int .i64 0, .int .i64 0] 26) = wa2 at *
        clear hK K
        try simp only [Act.put, List.setIfInBounds_toArray, List.set_cons_zero, List.set_cons_succ]
        refine wpAnyH_ready (rs := [8]) (by kernel_rfl) (by simp) ?_
        refine AllReadyH.cons (o := { dst := none, op := Op.store 26 (Operand.tmp 5) (Operand.tmp 21), type := 0, pos := "l8_area.go:64", after := #[{ on := 6, ground := Ground.data }, { on := 2, ground := Ground.data }, { on := 0, ground := Ground.phase }, { on := 1, ground := Ground.phase }, { on := 2, ground := Ground.phase }, { on := 3, ground := Ground.textOnly Departure.lateStores }, { on := 4, ground := Ground.textOnly Departure.lateStores }, { on := 5, ground := Ground.textOnly Departure.lateStores }, { on := 6, ground := Ground.phase }, { on := 7, ground := Ground.phase }], guard := none }) rfl (fun K hK => ?_) AllReadyH.nil
        have f50 := K5.f 0
        have f51 := K5.f 1
        have c50 := K5.c0
        have c51 := K5.c1
        go_simp
        refine hK.out _ _ ?_ (fun hHeld => ?_)
        · exact (hbw.setCell (p := ⟨B5, 0, none⟩) (show _ ≤ B5 by omega) (.int .i64 x0)).setCell (p := ⟨B5, 1, none⟩) (show _ ≤ B5 by omega) (.int .i64 y0)
        clear hHeld
        clear f50 f51 c50 c51
        replace hbw := (hbw.setCell (p := ⟨B5, 0, none⟩) (show _ ≤ B5 by omega) (.int .i64 x0)).setCell (p := ⟨B5, 1, none⟩) (show _ ≤ B5 by omega) (.int .i64 y0)
        replace K5 := K5.set x0 y0
        replace K2 := (K2.other (B' := B5) (i := 0) (by omega) (.int .i64 x0)).other (B' := B5) (i := 1) (by omega) (.int .i64 y0)
        replace K3 := (K3.other (B' := B5) (i := 0) (by omega) (.int .i64 x0)).other (B' := B5) (i := 1) (by omega) (.int .i64 y0)
        replace K6 := (K6.other (B' := B5) (i := 0) (by omega) (.int .i64 x0)).other (B' := B5) (i := 1) (by omega) (.int .i64 y0)
        generalize (wa2.setCell ⟨B5, 0, none⟩ (.int .i64 x0)).setCell ⟨B5, 1, none⟩ (.int .i64 y0) = wb5 at *
        clear hK K
        try simp only [Act.put, List.setIfInBounds_toArray, List.set_cons_zero, List.set_cons_succ]
        refine wpAnyH_ready (rs := [9]) (by kernel_rfl) (by simp) ?_
        refine AllReadyH.cons (o := { dst := none, op := Op.store 26 (Operand.tmp 6) (Operand.tmp 24), type := 0, pos := "l8_area.go:64", after := #[{ on := 7, ground := Ground.data }, { on := 5, ground := Ground.data }, { on := 8, ground := Ground.chain }, { on := 0, ground := Ground.phase }, { on := 1, ground := Ground.phase }, { on := 2, ground := Ground.phase }, { on := 3, ground := Ground.phase }, { on := 4, ground := Ground.phase }, { on := 5, ground := Ground.phase }, { on := 6, ground := Ground.phase }, { on := 7, ground := Ground.phase }, { on := 8, ground := Ground.phase }], guard := none }) rfl (fun K hK => ?_) AllReadyH.nil
        have f60 := K6.f 0
        have f61 := K6.f 1
        have c60 := K6.c0
        have c61 := K6.c1
        go_simp
        refine hK.out _ _ ?_ (fun hHeld => ?_)
        · exact (hbw.setCell (p := ⟨B6, 0, none⟩) (show _ ≤ B6 by omega) (.int .i64 x0)).setCell (p := ⟨B6, 1, none⟩) (show _ ≤ B6 by omega) (.int .i64 y0)
        clear hHeld
        clear f60 f61 c60 c61
        replace hbw := (hbw.setCell (p := ⟨B6, 0, none⟩) (show _ ≤ B6 by omega) (.int .i64 x0)).setCell (p := ⟨B6, 1, none⟩) (show _ ≤ B6 by omega) (.int .i64 y0)
        replace K6 := K6.set x0 y0
        replace K2 := (K2.other (B' := B6) (i := 0) (by omega) (.int .i64 x0)).other (B' := B6) (i := 1) (by omega) (.int .i64 y0)
        replace K3 := (K3.other (B' := B6) (i := 0) (by omega) (.int .i64 x0)).other (B' := B6) (i := 1) (by omega) (.int .i64 y0)
        replace K5 := (K5.other (B' := B6) (i := 0) (by omega) (.int .i64 x0)).other (B' := B6) (i := 1) (by omega) (.int .i64 y0)
        generalize (wb5.setCell ⟨B6, 0, none⟩ (.int .i64 x0)).setCell ⟨B6, 1, none⟩ (.int .i64 y0) = wb6 at *
        clear hK K
        try simp only [Act.put, List.setIfInBounds_toArray, List.set_cons_zero, List.set_cons_succ]
        refine wpAnyH_done (by kernel_rfl) ?_ _
        exact TAIL3 B5 B6 wb6 ⟨K2, K3, K5, K6, by omega, hlt5, hlt6, hbw⟩
      · go_simp
        refine hK.out _ _ ?_ (fun hHeld => ?_)
        · exact grew hbw (by go_grown : Below wa0.heap.size wa0 _)
        have hbA : Below wa0.heap.size wa0 (wa0.alloc (.cells #[.int .i64 0, .int .i64 0] 26)) := by go_grown
        have hlt6 : B3 < wa0.heap.size := K3.lt
        replace K2 := K2.later hbA
        replace K3 := K3.later hbA
        have K6 := BoxP.new wa0 0 0
        replace hbw := grew hbw hbA
        clear hbA hHeld
        generalize wa0.heap.size = B6 at K6 hlt6 ⊢
        generalize wa0.alloc (.cells #[.int .i64 0, .int .i64 0] 26) = wa1 at *
        clear hK K
        try simp only [Act.put, List.setIfInBounds_toArray, List.set_cons_zero, List.set_cons_succ]
        refine wpAnyH_ready (rs := [6]) (by kernel_rfl) (by simp) ?_
        refine AllReadyH.cons (o := { dst := some 5, op := Op.alloc 26, type := 0, pos := "l8_area.go:64", after := #[], guard := none }) rfl (fun K hK => ?_) AllReadyH.nil
        go_simp
        refine hK.out _ _ ?_ (fun hHeld => ?_)
        · exact grew hbw (by go_grown : Below wa1.heap.size wa1 _)
        have hbA : Below wa1.heap.size wa1 (wa1.alloc (.cells #[.int .i64 0, .int .i64 0] 26)) := by go_grown
        have hlt5 : B3 < wa1.heap.size := K3.lt
        have hne : B6 < wa1.heap.size := K6.lt
        replace K2 := K2.later hbA
        replace K3 := K3.later hbA
        replace K6 := K6.later hbA
        have K5 := BoxP.new wa1 0 0
        replace hbw := grew hbw hbA
        clear hbA hHeld
        generalize wa1.heap.size = B5 at K5 hlt5 hne ⊢
        generalize wa1.alloc (.cells #[.int .i64 0, .int .i64 0] 26) = wa2 at *
        clear hK K
        try simp only [Act.put, List.setIfInBounds_toArray, List.set_cons_zero, List.set_cons_succ]
        refine wpAnyH_ready (rs := [8]) (by kernel_rfl) (by simp) ?_
        refine AllReadyH.cons (o := { dst := none, op := Op.store 26 (Operand.tmp 5) (Operand.tmp 21), type := 0, pos := "l8_area.go:64", after := #[{ on := 6, ground := Ground.data }, { on := 2, ground := Ground.data }, { on := 0, ground := Ground.phase }, { on := 1, ground := Ground.phase }, { on := 2, ground := Ground.phase }, { on := 3, ground := Ground.textOnly Departure.lateStores }, { on := 4, ground := Ground.textOnly Departure.lateStores }, { on := 5, ground := Ground.textOnly Departure.lateStores }, { on := 6, ground := Ground.phase }, { on := 7, ground := Ground.phase }], guard := none }) rfl (fun K hK => ?_) AllReadyH.nil
        have f50 := K5.f 0
        have f51 := K5.f 1
        have c50 := K5.c0
        have c51 := K5.c1
        go_simp
        refine hK.out _ _ ?_ (fun hHeld => ?_)
        · exact (hbw.setCell (p := ⟨B5, 0, none⟩) (show _ ≤ B5 by omega) (.int .i64 x0)).setCell (p := ⟨B5, 1, none⟩) (show _ ≤ B5 by omega) (.int .i64 y0)
        clear hHeld
        clear f50 f51 c50 c51
        replace hbw := (hbw.setCell (p := ⟨B5, 0, none⟩) (show _ ≤ B5 by omega) (.int .i64 x0)).setCell (p := ⟨B5, 1, none⟩) (show _ ≤ B5 by omega) (.int .i64 y0)
        replace K5 := K5.set x0 y0
        replace K2 := (K2.other (B' := B5) (i := 0) (by omega) (.int .i64 x0)).other (B' := B5) (i := 1) (by omega) (.int .i64 y0)
        replace K3 := (K3.other (B' := B5) (i := 0) (by omega) (.int .i64 x0)).other (B' := B5) (i := 1) (by omega) (.int .i64 y0)
        replace K6 := (K6.other (B' := B5) (i := 0) (by omega) (.int .i64 x0)).other (B' := B5) (i := 1) (by omega) (.int .i64 y0)
        generalize (wa2.setCell ⟨B5, 0, none⟩ (.int .i64 x0)).setCell ⟨B5, 1, none⟩ (.int .i64 y0) = wb5 at *
        clear hK K
        try simp only [Act.put, List.setIfInBounds_toArray, List.set_cons_zero, List.set_cons_succ]
        refine wpAnyH_ready (rs := [9]) (by kernel_rfl) (by simp) ?_
        refine AllReadyH.cons (o := { dst := none, op := Op.store 26 (Operand.tmp 6) (Operand.tmp 24), type := 0, pos := "l8_area.go:64", after := #[{ on := 7, ground := Ground.data }, { on := 5, ground := Ground.data }, { on := 8, ground := Ground.chain }, { on := 0, ground := Ground.phase }, { on := 1, ground := Ground.phase }, { on := 2, ground := Ground.phase }, { on := 3, ground := Ground.phase }, { on := 4, ground := Ground.phase }, { on := 5, ground := Ground.phase }, { on := 6, ground := Ground.phase }, { on := 7, ground := Ground.phase }, { on := 8, ground := Ground.phase }], guard := none }) rfl (fun K hK => ?_) AllReadyH.nil
        have f60 := K6.f 0
        have f61 := K6.f 1
        have c60 := K6.c0
        have c61 := K6.c1
        go_simp
        refine hK.out _ _ ?_ (fun hHeld => ?_)
        · exact (hbw.setCell (p := ⟨B6, 0, none⟩) (show _ ≤ B6 by omega) (.int .i64 x0)).setCell (p := ⟨B6, 1, none⟩) (show _ ≤ B6 by omega) (.int .i64 y0)
        clear hHeld
        clear f60 f61 c60 c61
        replace hbw := (hbw.setCell (p := ⟨B6, 0, none⟩) (show _ ≤ B6 by omega) (.int .i64 x0)).setCell (p := ⟨B6, 1, none⟩) (show _ ≤ B6 by omega) (.int .i64 y0)
        replace K6 := K6.set x0 y0
        replace K2 := (K2.other (B' := B6) (i := 0) (by omega) (.int .i64 x0)).other (B' := B6) (i := 1) (by omega) (.int .i64 y0)
        replace K3 := (K3.other (B' := B6) (i := 0) (by omega) (.int .i64 x0)).other (B' := B6) (i := 1) (by omega) (.int .i64 y0)
        replace K5 := (K5.other (B' := B6) (i := 0) (by omega) (.int .i64 x0)).other (B' := B6) (i := 1) (by omega) (.int .i64 y0)
        generalize (wb5.setCell ⟨B6, 0, none⟩ (.int .i64 x0)).setCell ⟨B6, 1, none⟩ (.int .i64 y0) = wb6 at *
        clear hK K
        try simp only [Act.put, List.setIfInBounds_toArray, List.set_cons_zero, List.set_cons_succ]
        refine wpAnyH_done (by kernel_rfl) ?_ _
        exact TAIL3 B5 B6 wb6 ⟨K2, K3, K5, K6, by omega, hlt5, hlt6, hbw⟩
    case tail3 =>
      clear K2 K3 hbw
      rintro B5 B6 w3 ⟨K2, K3, K5, K6, hne56, hlt5, hlt6, hbw⟩
      go_wp2
      go_loopw [27] (fun i wr => ∃ k : Nat, k ≤ l.length ∧ i = .int .i64 (k : Int) ∧ BoxP wr B2 (0, 0) ∧ BoxP wr B3 (0, 0) ∧ BoxP wr B5 (boxL l k) ∧ BoxP wr B6 (boxH l k) ∧ Below w.heap.size w wr) (fun i _ => l.length - (intOf i).toNat)
      case atStart => exact ⟨0, Nat.zero_le _, rfl, K2, K3, by rw [HX0.out]; exact K5, by rw [HX1.out]; exact K6, hbw⟩
      case round =>
        clear K2 K3 K5 K6 hbw
        obtain ⟨k, hk, rfl, K2, K3, K5, K6, hbw⟩ := hrel
        by_cases hkl : k < l.length
        · obtain ⟨b', off', e1, hbN', g2, g3⟩ := HA.out k hkl
          obtain ⟨rfl, rfl⟩ : b = b' ∧ off = off' := by simpa using e1
          clear e1
          have q0 := cell_later hbw g2
          have q1 := cell_later hbw g3
          clear g2 g3
          have SL1 := hid (boxL_step (l := l) (k := k))
          have SH1 := hid (boxH_step (l := l) (k := k))
          obtain ⟨x, hx⟩ : ∃ x, px l k = x := ⟨_, rfl⟩
          obtain ⟨y, hy⟩ : ∃ x, py l k = x := ⟨_, rfl⟩
          rw [hx, hy] at SL1 SH1
          rw [hx] at q0
          rw [hy] at q1
          clear hx hy
          generalize boxL l k = bl at K5 SL1
          generalize boxH l k = bh at K6 SH1
          obtain ⟨lx, ly⟩ := bl
          obtain ⟨gx, gy⟩ := bh
          simp only at SL1 SH1
          have nk : (0 : Int) ≤ (k : Int) := by omega
          have nk1 : (k : Int) < (l.length : Int) := by omega
          go_upto_region 7 with fail
          have hb8 : Below wr.heap.size wr (wr.alloc (.cells #[.int .i64 x, .int .i64 y] 26)) := by go_grown
          have K8 := BoxP.new wr x y
          have hl2 : B2 < wr.heap.size := K2.lt
          have hl3 : B3 < wr.heap.size := K3.lt
          have hl5 : B5 < wr.heap.size := K5.lt
          have hl6 : B6 < wr.heap.size := K6.lt
          replace K2 := K2.later hb8
          replace K3 := K3.later hb8
          replace K5 := K5.later hb8
          replace K6 := K6.later hb8
          replace hbw := grew hbw hb8
          clear q0 q1 hb8
          generalize wr.heap.size = B8 at K8 hl2 hl3 hl5 hl6 ⊢
          generalize wr.alloc (.cells #[.int .i64 x, .int .i64 y] 26) = wp at *
          obtain ⟨m5x, hm5x⟩ : ∃ m, (if x < lx then x else lx) = m := ⟨_, rfl⟩
          obtain ⟨m5y, hm5y⟩ : ∃ m, (if y < ly then y else ly) = m := ⟨_, rfl⟩
          rw [min_if8, min_if8, hm5x, hm5y] at SL1
          have f50 := K5.f 0
          have f51 := K5.f 1
          have c50 := K5.c0
          have c51 := K5.c1
          have c80 := K8.c0
          have c81 := K8.c1
          go_upto_region 8 with fail
          clear f50 f51 c50 c51
          clear c80 c81
          replace hbw := (hbw.setCell (p := ⟨B5, 0, none⟩) (show _ ≤ B5 by omega) (.int .i64 m5x)).setCell (p := ⟨B5, 1, none⟩) (show _ ≤ B5 by omega) (.int .i64 m5y)
          replace K5 := K5.set m5x m5y
          replace K2 := (K2.other (B' := B5) (i := 0) (by omega) (.int .i64 m5x)).other (B' := B5) (i := 1) (by omega) (.int .i64 m5y)
          replace K3 := (K3.other (B' := B5) (i := 0) (by omega) (.int .i64 m5x)).other (B' := B5) (i := 1) (by omega) (.int .i64 m5y)
          replace K6 := (K6.other (B' := B5) (i := 0) (by omega) (.int .i64 m5x)).other (B' := B5) (i := 1) (by omega) (.int .i64 m5y)
          replace K8 := (K8.other (B' := B5) (i := 0) (by omega) (.int .i64 m5x)).other (B' := B5) (i := 1) (by omega) (.int .i64 m5y)
          generalize (wp.setCell ⟨B5, 0, none⟩ (.int .i64 m5x)).setCell ⟨B5, 1, none⟩ (.int .i64 m5y) = wq at *
          obtain ⟨m6x, hm6x⟩ : ∃ m, (if gx < x then x else gx) = m := ⟨_, rfl⟩
          obtain ⟨m6y, hm6y⟩ : ∃ m, (if gy < y then y else gy) = m := ⟨_, rfl⟩
          rw [max_if8, max_if8, hm6x, hm6y] at SH1
          have f60 := K6.f 0
          have f61 := K6.f 1
          have c60 := K6.c0
          have c61 := K6.c1
          have c80 := K8.c0
          have c81 := K8.c1
          go_wp2
          clear f60 f61 c60 c61
          clear c80 c81
          replace hbw := (hbw.setCell (p := ⟨B6, 0, none⟩) (show _ ≤ B6 by omega) (.int .i64 m6x)).setCell (p := ⟨B6, 1, none⟩) (show _ ≤ B6 by omega) (.int .i64 m6y)
          replace K6 := K6.set m6x m6y
          replace K2 := (K2.other (B' := B6) (i := 0) (by omega) (.int .i64 m6x)).other (B' := B6) (i := 1) (by omega) (.int .i64 m6y)
          replace K3 := (K3.other (B' := B6) (i := 0) (by omega) (.int .i64 m6x)).other (B' := B6) (i := 1) (by omega) (.int .i64 m6y)
          replace K5 := (K5.other (B' := B6) (i := 0) (by omega) (.int .i64 m6x)).other (B' := B6) (i := 1) (by omega) (.int .i64 m6y)
          replace K8 := (K8.other (B' := B6) (i := 0) (by omega) (.int .i64 m6x)).other (B' := B6) (i := 1) (by omega) (.int .i64 m6y)
          generalize (wq.setCell ⟨B6, 0, none⟩ (.int .i64 m6x)).setCell ⟨B6, 1, none⟩ (.int .i64 m6y) = ws at *
          go_wp2
          go_roundw
          case rel => exact ⟨k + 1, by omega, by go_num, K2, K3, by rw [SL1.out]; exact K5, by rw [SH1.out]; exact K6, hbw⟩
          case measure => simp [intOf]; omega
        · obtain rfl : k = l.length := by omega
          have EL := hid (show bxL l = boxL l l.length by unfold bxL; rw [E, if_pos rfl])
          have EH := hid (show bxH l = boxH l l.length by unfold bxH; rw [E, if_pos rfl])
          generalize boxL l l.length = bl at K5 EL
          generalize boxH l l.length = bh at K6 EH
          go_upto_region 10 with fail
          refine wp_region_held_drew (S := (fun u => BoxP u B5 bl ∧ BoxP u B6 bh ∧ Below w.heap.size w u)) (by kernel_rfl) ?_ (fun hHeld => ?_)
          · exact ⟨K5.later (drewN_below 1 _), K6.later (drewN_below 1 _), grew hbw (drewN_below 1 _)⟩
          have hd : Below wr.heap.size wr wr.drew := (Below.refl _ _).drew
          replace K2 := K2.later hd
          replace K3 := K3.later hd
          replace K5 := K5.later hd
          replace K6 := K6.later hd
          replace hbw := grew hbw hd
          clear hd hHeld
          generalize wr.drew = wd at *
          have hHeld : BoxP wd B5 bl ∧ BoxP wd B6 bh ∧ Below w.heap.size w wd := ⟨K5, K6, hbw⟩
          refine wpAnyH_take (i := 0) (oi := { dst := some 54, op := Op.load 26 (Operand.tmp 5), type := 26, pos := "l8_area.go:69", after := #[], guard := none }) (v := ?v9yx0u7) rfl (by kernel_rfl) (by kernel_rfl) (by kernel_rfl) (fun _ _ _ h => h) (Or.inl ⟨by rfl, ?hy9yx0u7⟩) (by with_reducible assumption) ?rest9yx0u7
          case hy9yx0u7 => (intro wS hSw; (try dsimp only at hSw); have z0 := hSw.1.c0; have z1 := hSw.1.c1; have z2 := hSw.2.1.c0; have z3 := hSw.2.1.c1; clear hSw; go_simp; try with_reducible rfl)
          case' rest9yx0u7 => (try simp only [Act.put, List.setIfInBounds_toArray, List.set_cons_zero, List.set_cons_succ])
          refine wpAnyH_take (i := 1) (oi := { dst := some 55, op := Op.load 26 (Operand.tmp 6), type := 26, pos := "l8_area.go:69", after := #[{ on := 2, ground := Ground.gcOnly Departure.lateStores }], guard := none }) (v := ?v10yx1u8) rfl (by kernel_rfl) (by kernel_rfl) (by kernel_rfl) (fun _ _ _ h => h) (Or.inl ⟨by rfl, ?hy10yx1u8⟩) (by with_reducible assumption) ?rest10yx1u8
          case hy10yx1u8 => (intro wS hSw; (try dsimp only at hSw); have z0 := hSw.1.c0; have z1 := hSw.1.c1; have z2 := hSw.2.1.c0; have z3 := hSw.2.1.c1; clear hSw; go_simp; try with_reducible rfl)
          case' rest10yx1u8 => (try simp only [Act.put, List.setIfInBounds_toArray, List.set_cons_zero, List.set_cons_succ])
          refine wpAnyH_ready (rs := [2]) (by kernel_rfl) (by simp) ?_
          refine AllReadyH.cons (o := { dst := none, op := Op.store 26 (Operand.tmp 2) (Operand.tmp 54), type := 0, pos := "l8_area.go:69", after := #[{ on := 0, ground := Ground.data }, { on := 0, ground := Ground.phase }, { on := 1, ground := Ground.textOnly Departure.lateStores }], guard := none }) rfl (fun K hK => ?_) AllReadyH.nil
          have f20 := K2.f 0
          have f21 := K2.f 1
          have c20 := K2.c0
          have c21 := K2.c1
          go_simp
          refine hK.out _ _ ?_ (fun hHeld => ?_)
          · exact ⟨(K5.other (B' := B2) (i := 0) (by omega) _).other (B' := B2) (i := 1) (by omega) _, (K6.other (B' := B2) (i := 0) (by omega) _).other (B' := B2) (i := 1) (by omega) _, (hbw.setCell (p := ⟨B2, 0, none⟩) (show _ ≤ B2 by omega) _).setCell (p := ⟨B2, 1, none⟩) (show _ ≤ B2 by omega) _⟩
          clear hHeld
          clear f20 f21 c20 c21
          replace hbw := (hbw.setCell (p := ⟨B2, 0, none⟩) (show _ ≤ B2 by omega) (.int .i64 bl.1)).setCell (p := ⟨B2, 1, none⟩) (show _ ≤ B2 by omega) (.int .i64 bl.2)
          replace K2 := K2.set bl.1 bl.2
          replace K3 := (K3.other (B' := B2) (i := 0) (by omega) (.int .i64 bl.1)).other (B' := B2) (i := 1) (by omega) (.int .i64 bl.2)
          replace K5 := (K5.other (B' := B2) (i := 0) (by omega) (.int .i64 bl.1)).other (B' := B2) (i := 1) (by omega) (.int .i64 bl.2)
          replace K6 := (K6.other (B' := B2) (i := 0) (by omega) (.int .i64 bl.1)).other (B' := B2) (i := 1) (by omega) (.int .i64 bl.2)
          generalize (wd.setCell ⟨B2, 0, none⟩ (.int .i64 bl.1)).setCell ⟨B2, 1, none⟩ (.int .i64 bl.2) = we at *
          have hHeld : BoxP we B5 bl ∧ BoxP we B6 bh ∧ Below w.heap.size w we := ⟨K5, K6, hbw⟩
          clear hK K
          try simp only [Act.put, List.setIfInBounds_toArray, List.set_cons_zero, List.set_cons_succ]
          refine wpAnyH_ready (rs := [3]) (by kernel_rfl) (by simp) ?_
          refine AllReadyH.cons (o := { dst := none, op := Op.store 26 (Operand.tmp 3) (Operand.tmp 55), type := 0, pos := "l8_area.go:69", after := #[{ on := 1, ground := Ground.data }, { on := 2, ground := Ground.chain }, { on := 0, ground := Ground.phase }, { on := 1, ground := Ground.phase }, { on := 2, ground := Ground.phase }], guard := none }) rfl (fun K hK => ?_) AllReadyH.nil
          have f30 := K3.f 0
          have f31 := K3.f 1
          have c30 := K3.c0
          have c31 := K3.c1
          go_simp
          refine hK.out _ _ ?_ (fun hHeld => ?_)
          · exact ⟨(K5.other (B' := B3) (i := 0) (by omega) _).other (B' := B3) (i := 1) (by omega) _, (K6.other (B' := B3) (i := 0) (by omega) _).other (B' := B3) (i := 1) (by omega) _, (hbw.setCell (p := ⟨B3, 0, none⟩) (show _ ≤ B3 by omega) _).setCell (p := ⟨B3, 1, none⟩) (show _ ≤ B3 by omega) _⟩
          clear hHeld
          clear f30 f31 c30 c31
          replace hbw := (hbw.setCell (p := ⟨B3, 0, none⟩) (show _ ≤ B3 by omega) (.int .i64 bh.1)).setCell (p := ⟨B3, 1, none⟩) (show _ ≤ B3 by omega) (.int .i64 bh.2)
          replace K3 := K3.set bh.1 bh.2
          replace K2 := (K2.other (B' := B3) (i := 0) (by omega) (.int .i64 bh.1)).other (B' := B3) (i := 1) (by omega) (.int .i64 bh.2)
          replace K5 := (K5.other (B' := B3) (i := 0) (by omega) (.int .i64 bh.1)).other (B' := B3) (i := 1) (by omega) (.int .i64 bh.2)
          replace K6 := (K6.other (B' := B3) (i := 0) (by omega) (.int .i64 bh.1)).other (B' := B3) (i := 1) (by omega) (.int .i64 bh.2)
          generalize (we.setCell ⟨B3, 0, none⟩ (.int .i64 bh.1)).setCell ⟨B3, 1, none⟩ (.int .i64 bh.2) = wf at *
          have hHeld : BoxP wf B5 bl ∧ BoxP wf B6 bh ∧ Below w.heap.size w wf := ⟨K5, K6, hbw⟩
          clear hK K
          try simp only [Act.put, List.setIfInBounds_toArray, List.set_cons_zero, List.set_cons_succ]
          refine wpAnyH_take (i := 4) (oi := { dst := some 4, op := Op.assign (Operand.const (Value.bool true)), type := 4, pos := "l8_area.go:69", after := #[{ on := 3, ground := Ground.chain }, { on := 0, ground := Ground.phase }, { on := 1, ground := Ground.phase }, { on := 2, ground := Ground.phase }, { on := 3, ground := Ground.phase }], guard := none }) (v := ?v11yx4u9) rfl (by kernel_rfl) (by kernel_rfl) (by kernel_rfl) (fun _ _ _ h => h) (Or.inl ⟨by rfl, ?hy11yx4u9⟩) (by with_reducible assumption) ?rest11yx4u9
          case hy11yx4u9 => (intro wS hSw; (try dsimp only at hSw); have z0 := hSw.1.c0; have z1 := hSw.1.c1; have z2 := hSw.2.1.c0; have z3 := hSw.2.1.c1; clear hSw; go_simp; try with_reducible rfl)
          case' rest11yx4u9 => (try simp only [Act.put, List.setIfInBounds_toArray, List.set_cons_zero, List.set_cons_succ])
          refine wpAnyH_done (by kernel_rfl) ?_ _
          go_wp2
          have c20 := K2.c0
          have c21 := K2.c1
          have c30 := K3.c0
          have c31 := K3.c1
          refine bodyPost_ret (v := .tuple #[.agg #[.int .i64 bl.1, .int .i64 bl.2], .agg #[.int .i64 bh.1, .int .i64 bh.2], .bool true]) (by simp [results, Tryd.results18, go_sem, c20, c21, c30, c31]) rfl ?_
          exact ⟨ret_box (a := (bl.1, bl.2)) (c := (bh.1, bh.2)) EL.out.symm EH.out.symm (by first | rfl | exact E.symm), hbw⟩
set_option maxHeartbeats 8000000 in
theorem boxSpec_c (l : List (Int × Int)) (a : Option Addr) (len cap : Nat) (w : World) (hl : l.length = len) (h1 : len ≤ 1048576) (hA : At w.heap.size a l w) :
    Calls Tryd.prog 19 #[.slice a len cap] w fun e w' => e = .returned (.tuple #[.agg #[.int .i64 (bxL l).1, .int .i64 (bxL l).2], .agg #[.int .i64 (bxH l).1, .int .i64 (bxH l).2], .bool (boxOk l)]) ∧ Below w.heap.size w w' := by
  subst hl
  have HA := hid hA
  clear hA
  have hb0 : Below w.heap.size w ((w.alloc (.cells #[.int .i64 0, .int .i64 0] 26)).alloc (.cells #[.int .i64 0, .int .i64 0] 26)) := by go_grown
  have K2 : BoxP ((w.alloc (.cells #[.int .i64 0, .int .i64 0] 26)).alloc (.cells #[.int .i64 0, .int .i64 0] 26)) w.heap.size (0, 0) := BoxP.later (BoxP.new w 0 0) ((Below.refl _ _).alloc (Nat.le_refl _) _)
  have K3 : BoxP ((w.alloc (.cells #[.int .i64 0, .int .i64 0] 26)).alloc (.cells #[.int .i64 0, .int .i64 0] 26)) (w.heap.size + 1) (0, 0) := by have h := BoxP.new (w.alloc (.cells #[.int .i64 0, .int .i64 0] 26)) 0 0; simp only [World.size_alloc] at h; exact h
  have hle2 : w.heap.size ≤ w.heap.size := Nat.le_refl _
  have hle3 : w.heap.size < w.heap.size + 1 := Nat.lt_succ_self _
  cases hG : goodL l
  · have E : boxOk l = false := by unfold boxOk; rw [hG]; rfl
    go_enter Tryd.func19, Tryd.ntmps19
    go_upto_region 1 with fail
    generalize ((w.alloc (.cells #[.int .i64 0, .int .i64 0] 26)).alloc (.cells #[.int .i64 0, .int .i64 0] 26)) = w0 at *
    go_upto_region 2 with (go_at_call 47; refine (l2Good_c l _ _ _ _ rfl h1 ((HA.out.later hb0).mono hb0.size)).mono ?_; rw [hG]; rintro e w1 ⟨rfl, hb1⟩; replace K2 := K2.later hb1; replace K3 := K3.later hb1; have hbw := grew hb0 hb1; clear hb1)
    obtain ⟨B3, hB3⟩ : ∃ b, w.heap.size + 1 = b := ⟨_, rfl⟩
    obtain ⟨B2, hB2⟩ : ∃ b, w.heap.size = b := ⟨_, rfl⟩
    rw [hB3] at K3 ⊢
    simp only [hB2] at K2 hbw hB3 ⊢
    have f20 := K2.f 0
    have f21 := K2.f 1
    have c20 := K2.c0
    have c21 := K2.c1
    have f30 := K3.f 0
    have f31 := K3.f 1
    have c30 := K3.c0
    have c31 := K3.c1
    go_wp2
    clear f20 f21 c20 c21
    clear f30 f31 c30 c31
    clear hle2 hle3
    replace hbw := (hbw.setCell (p := ⟨B2, 0, none⟩) (show _ ≤ B2 by omega) (.int .i64 0)).setCell (p := ⟨B2, 1, none⟩) (show _ ≤ B2 by omega) (.int .i64 0)
    replace K2 := K2.set 0 0
    replace K3 := (K3.other (B' := B2) (i := 0) (by omega) (.int .i64 0)).other (B' := B2) (i := 1) (by omega) (.int .i64 0)
    generalize (w1.setCell ⟨B2, 0, none⟩ (.int .i64 0)).setCell ⟨B2, 1, none⟩ (.int .i64 0) = w2 at *
    replace hbw := (hbw.setCell (p := ⟨B3, 0, none⟩) (show _ ≤ B3 by omega) (.int .i64 0)).setCell (p := ⟨B3, 1, none⟩) (show _ ≤ B3 by omega) (.int .i64 0)
    replace K3 := K3.set 0 0
    replace K2 := (K2.other (B' := B3) (i := 0) (by omega) (.int .i64 0)).other (B' := B3) (i := 1) (by omega) (.int .i64 0)
    generalize (w2.setCell ⟨B3, 0, none⟩ (.int .i64 0)).setCell ⟨B3, 1, none⟩ (.int .i64 0) = w3 at *
    have c20 := K2.c0
    have c21 := K2.c1
    have c30 := K3.c0
    have c31 := K3.c1
    refine bodyPost_ret (v := .tuple #[.agg #[.int .i64 0, .int .i64 0], .agg #[.int .i64 0, .int .i64 0], .bool false]) (by simp [results, Tryd.results19, go_sem, c20, c21, c30, c31]) rfl ?_
    exact ⟨ret_box (a := (0, 0)) (c := (0, 0)) (by unfold bxL; rw [E]; rfl) (by unfold bxH; rw [E]; rfl) (by first | rfl | exact E.symm), hbw⟩
  by_cases e0 : l.length = 0
  · have E : boxOk l = false := by unfold boxOk; rw [hG, decide_eq_false (by omega)]; rfl
    have z : ((l.length : Int) == 0) = true := by simp [e0]
    clear e0
    go_enter Tryd.func19, Tryd.ntmps19
    go_upto_region 1 with fail
    generalize ((w.alloc (.cells #[.int .i64 0, .int .i64 0] 26)).alloc (.cells #[.int .i64 0, .int .i64 0] 26)) = w0 at *
    go_upto_region 2 with (go_at_call 47; refine (l2Good_c l _ _ _ _ rfl h1 ((HA.out.later hb0).mono hb0.size)).mono ?_; rw [hG]; rintro e w1 ⟨rfl, hb1⟩; replace K2 := K2.later hb1; replace K3 := K3.later hb1; have hbw := grew hb0 hb1; clear hb1)
    obtain ⟨B3, hB3⟩ : ∃ b, w.heap.size + 1 = b := ⟨_, rfl⟩
    obtain ⟨B2, hB2⟩ : ∃ b, w.heap.size = b := ⟨_, rfl⟩
    rw [hB3] at K3 ⊢
    simp only [hB2] at K2 hbw hB3 ⊢
    have f20 := K2.f 0
    have f21 := K2.f 1
    have c20 := K2.c0
    have c21 := K2.c1
    have f30 := K3.f 0
    have f31 := K3.f 1
    have c30 := K3.c0
    have c31 := K3.c1
    go_wp2
    clear f20 f21 c20 c21
    clear f30 f31 c30 c31
    clear hle2 hle3
    replace hbw := (hbw.setCell (p := ⟨B2, 0, none⟩) (show _ ≤ B2 by omega) (.int .i64 0)).setCell (p := ⟨B2, 1, none⟩) (show _ ≤ B2 by omega) (.int .i64 0)
    replace K2 := K2.set 0 0
    replace K3 := (K3.other (B' := B2) (i := 0) (by omega) (.int .i64 0)).other (B' := B2) (i := 1) (by omega) (.int .i64 0)
    generalize (w1.setCell ⟨B2, 0, none⟩ (.int .i64 0)).setCell ⟨B2, 1, none⟩ (.int .i64 0) = w2 at *
    replace hbw := (hbw.setCell (p := ⟨B3, 0, none⟩) (show _ ≤ B3 by omega) (.int .i64 0)).setCell (p := ⟨B3, 1, none⟩) (show _ ≤ B3 by omega) (.int .i64 0)
    replace K3 := K3.set 0 0
    replace K2 := (K2.other (B' := B3) (i := 0) (by omega) (.int .i64 0)).other (B' := B3) (i := 1) (by omega) (.int .i64 0)
    generalize (w2.setCell ⟨B3, 0, none⟩ (.int .i64 0)).setCell ⟨B3, 1, none⟩ (.int .i64 0) = w3 at *
    have c20 := K2.c0
    have c21 := K2.c1
    have c30 := K3.c0
    have c31 := K3.c1
    refine bodyPost_ret (v := .tuple #[.agg #[.int .i64 0, .int .i64 0], .agg #[.int .i64 0, .int .i64 0], .bool false]) (by simp [results, Tryd.results19, go_sem, c20, c21, c30, c31]) rfl ?_
    exact ⟨ret_box (a := (0, 0)) (c := (0, 0)) (by unfold bxL; rw [E]; rfl) (by unfold bxH; rw [E]; rfl) (by first | rfl | exact E.symm), hbw⟩
  · have E : boxOk l = true := by unfold boxOk; rw [hG, decide_eq_true (by omega)]; rfl
    have z : ((l.length : Int) == 0) = false := by simp [e0]
    obtain ⟨b, off, rfl, hbN, g0, g1⟩ := HA.out 0 (by omega)
    simp only [Nat.zero_mul, Nat.add_zero] at g0 g1
    have HX0 := hid (show boxL l 0 = (px l 0, py l 0) from rfl)
    have HX1 := hid (show boxH l 0 = (px l 0, py l 0) from rfl)
    obtain ⟨x0, hx0⟩ : ∃ x, px l 0 = x := ⟨_, rfl⟩
    obtain ⟨y0, hy0⟩ : ∃ x, py l 0 = x := ⟨_, rfl⟩
    rw [hx0, hy0] at HX0 HX1
    rw [hx0] at g0
    rw [hy0] at g1
    have n0 : 0 < l.length := by omega
    clear hx0 hy0 e0
    go_enter Tryd.func19, Tryd.ntmps19
    go_upto_region 1 with fail
    generalize ((w.alloc (.cells #[.int .i64 0, .int .i64 0] 26)).alloc (.cells #[.int .i64 0, .int .i64 0] 26)) = w0 at *
    go_upto_region 3 with (go_at_call 47; refine (l2Good_c l _ _ _ _ rfl h1 ((HA.out.later hb0).mono hb0.size)).mono ?_; rw [hG]; rintro e w1 ⟨rfl, hb1⟩; replace K2 := K2.later hb1; replace K3 := K3.later hb1; have hbw := grew hb0 hb1; clear hb1)
    obtain ⟨B3, hB3⟩ : ∃ b, w.heap.size + 1 = b := ⟨_, rfl⟩
    obtain ⟨B2, hB2⟩ : ∃ b, w.heap.size = b := ⟨_, rfl⟩
    rw [hB3] at K3 ⊢
    rw [hB2] at K2 ⊢
    refine (fun (TAIL3 : ∀ (B5 B6 : Nat) (u : World), (BoxP u B2 (0, 0) ∧ BoxP u B3 (0, 0) ∧ BoxP u B5 (x0, y0) ∧ BoxP u B6 (x0, y0) ∧ B5 ≠ B6 ∧ B3 < B5 ∧ B3 < B6 ∧ Below w.heap.size w u) → (?PTail3 : Nat → Nat → World → Prop) B5 B6 u) => ?main3) ?tail3
    case main3 =>
      refine wp_region_held_drew (S := (fun u => Below w.heap.size w u)) (by kernel_rfl) ?_ (fun hHeld => ?_)
      · exact grew hbw (drewN_below 1 _)
      have hd : Below w1.heap.size w1 w1.drew := (Below.refl _ _).drew
      replace K2 := K2.later hd
      replace K3 := K3.later hd
      replace hbw := grew hbw hd
      clear hd hHeld
      generalize w1.drew = wa0 at *
      refine wpAnyH_take (i := 0) (oi := { dst := some 19, op := Op.move (Operand.tmp 0), type := 24, pos := "l8_area.go:105", after := #[], guard := none }) (v := ?v13yx0u10) rfl (by kernel_rfl) (by kernel_rfl) (by kernel_rfl) (fun _ _ _ h => h) (Or.inl ⟨by rfl, ?hy13yx0u10⟩) (by with_reducible assumption) ?rest13yx0u10
      case hy13yx0u10 => (intro wS hSw; (try dsimp only at hSw); have z0 := cell_later hSw g0; have z1 := cell_later hSw g1; clear hSw; go_simp; try with_reducible rfl)
      case' rest13yx0u10 => (try simp only [Act.put, List.setIfInBounds_toArray, List.set_cons_zero, List.set_cons_succ])
      refine wpAnyH_take (i := 1) (oi := { dst := some 20, op := Op.indexAddr 24 (Operand.tmp 19) (Operand.const (Value.int IntKind.i64 0)), type := 0, pos := "l8_area.go:105", after := #[{ on := 0, ground := Ground.data }], guard := none }) (v := ?v14yx1u11) rfl (by kernel_rfl) (by kernel_rfl) (by kernel_rfl) (fun _ _ _ h => h) (Or.inl ⟨by rfl, ?hy14yx1u11⟩) (by with_reducible assumption) ?rest14yx1u11
      case hy14yx1u11 => (intro wS hSw; (try dsimp only at hSw); have z0 := cell_later hSw g0; have z1 := cell_later hSw g1; clear hSw; go_simp; try with_reducible rfl)
      case' rest14yx1u11 => (try simp only [Act.put, List.setIfInBounds_toArray, List.set_cons_zero, List.set_cons_succ])
      refine wpAnyH_take (i := 2) (oi := { dst := some 21, op := Op.load 26 (Operand.tmp 20), type := 26, pos := "l8_area.go:105", after := #[{ on := 1, ground := Ground.data }], guard := none }) (v := ?v15yx2u12) rfl (by kernel_rfl) (by kernel_rfl) (by kernel_rfl) (fun _ _ _ h => h) (Or.inl ⟨by rfl, ?hy15yx2u12⟩) (by with_reducible assumption) ?rest15yx2u12
      case hy15yx2u12 => (intro wS hSw; (try dsimp only at hSw); have z0 := cell_later hSw g0; have z1 := cell_later hSw g1; clear hSw; go_simp; try with_reducible rfl)
      case' rest15yx2u12 => (try simp only [Act.put, List.setIfInBounds_toArray, List.set_cons_zero, List.set_cons_succ])
      refine wpAnyH_take (i := 3) (oi := { dst := some 22, op := Op.move (Operand.tmp 0), type := 24, pos := "l8_area.go:105", after := #[{ on := 8, ground := Ground.gcOnly Departure.lateStores }], guard := none }) (v := ?v16yx3u13) rfl (by kernel_rfl) (by kernel_rfl) (by kernel_rfl) (fun _ _ _ h => h) (Or.inl ⟨by rfl, ?hy16yx3u13⟩) (by with_reducible assumption) ?rest16yx3u13
      case hy16yx3u13 => (intro wS hSw; (try dsimp only at hSw); have z0 := cell_later hSw g0; have z1 := cell_later hSw g1; clear hSw; go_simp; try with_reducible rfl)
      case' rest16yx3u13 => (try simp only [Act.put, List.setIfInBounds_toArray, List.set_cons_zero, List.set_cons_succ])
      refine wpAnyH_take (i := 4) (oi := { dst := some 23, op := Op.indexAddr 24 (Operand.tmp 22) (Operand.const (Value.int IntKind.i64 0)), type := 0, pos := "l8_area.go:105", after := #[{ on := 3, ground := Ground.data }, { on := 8, ground := Ground.gcOnly Departure.lateStores }], guard := none }) (v := ?v17yx4u14) rfl (by kernel_rfl) (by kernel_rfl) (by kernel_rfl) (fun _ _ _ h => h) (Or.inl ⟨by rfl, ?hy17yx4u14⟩) (by with_reducible assumption) ?rest17yx4u14
      case hy17yx4u14 => (intro wS hSw; (try dsimp only at hSw); have z0 := cell_later hSw g0; have z1 := cell_later hSw g1; clear hSw; go_simp; try with_reducible rfl)
      case' rest17yx4u14 => (try simp only [Act.put, List.setIfInBounds_toArray, List.set_cons_zero, List.set_cons_succ])
      refine wpAnyH_take (i := 5) (oi := { dst := some 24, op := Op.load 26 (Operand.tmp 23), type := 26, pos := "l8_area.go:105", after := #[{ on := 4, ground := Ground.data }, { on := 8, ground := Ground.gcOnly Departure.lateStores }], guard := none }) (v := ?v18yx5u15) rfl (by kernel_rfl) (by kernel_rfl) (by kernel_rfl) (fun _ _ _ h => h) (Or.inl ⟨by rfl, ?hy18yx5u15⟩) (by with_reducible assumption) ?rest18yx5u15
      case hy18yx5u15 => (intro wS hSw; (try dsimp only at hSw); have z0 := cell_later hSw g0; have z1 := cell_later hSw g1; clear hSw; go_simp; try with_reducible rfl)
      case' rest18yx5u15 => (try simp only [Act.put, List.setIfInBounds_toArray, List.set_cons_zero, List.set_cons_succ])
      refine wpAnyH_ready (rs := [6, 7]) (by kernel_rfl) (by simp) ?_
      refine AllReadyH.cons (o := { dst := some 5, op := Op.alloc 26, type := 0, pos := "l8_area.go:105", after := #[], guard := none }) rfl (fun K hK => ?_) (AllReadyH.cons (o := { dst := some 6, op := Op.alloc 26, type := 0, pos := "l8_area.go:105", after := #[], guard := none }) rfl (fun K hK => ?_) AllReadyH.nil)
      · go_simp
        refine hK.out _ _ ?_ (fun hHeld => ?_)
        · exact grew hbw (by go_grown : Below wa0.heap.size wa0 _)
        have hbA : Below wa0.heap.size wa0 (wa0.alloc (.cells #[.int .i64 0, .int .i64 0] 26)) := by go_grown
        have hlt5 : B3 < wa0.heap.size := K3.lt
        replace K2 := K2.later hbA
        replace K3 := K3.later hbA
        have K5 := BoxP.new wa0 0 0
        replace hbw := grew hbw hbA
        clear hbA hHeld
        generalize wa0.heap.size = B5 at K5 hlt5 ⊢
        generalize wa0.alloc (.cells #[.int .i64 0, .int .i64 0] 26) = wa1 at *
        clear hK K
        try simp only [Act.put, List.setIfInBounds_toArray, List.set_cons_zero, List.set_cons_succ]
        refine wpAnyH_ready (rs := [7]) (by kernel_rfl) (by simp) ?_
        refine AllReadyH.cons (o := { dst := some 6, op := Op.alloc 26, type := 0, pos := "l8_area.go:105", after := #[], guard := none }) rfl (fun K hK => ?_) AllReadyH.nil
        go_simp
        refine hK.out _ _ ?_ (fun hHeld => ?_)
        · exact grew hbw (by go_grown : Below wa1.heap.size wa1 _)
        have hbA : Below wa1.heap.size wa1 (wa1.alloc (.cells #[.int .i64 0, .int .i64 0] 26)) := by go_grown
        have hlt6 : B3 < wa1.heap.size := K3.lt
        have hne : B5 < wa1.heap.size := K5.lt
        replace K2 := K2.later hbA
        replace K3 := K3.later hbA
        replace K5 := K5.later hbA
        have K6 := BoxP.new wa1 0 0
        replace hbw := grew hbw hbA
        clear hbA hHeld
        generalize wa1.heap.size = B6 at K6 hlt6 hne ⊢
        generalize wa1.alloc (.cells #[.int .i64 0, .int .i64 0] 26) = wa2 at *
        clear hK K
        try simp only [Act.put, List.setIfInBounds_toArray, List.set_cons_zero, List.set_cons_succ]
        refine wpAnyH_ready (rs := [8]) (by kernel_rfl) (by simp) ?_
        refine AllReadyH.cons (o := { dst := none, op := Op.store 26 (Operand.tmp 5) (Operand.tmp 21), type := 0, pos := "l8_area.go:105", after := #[{ on := 6, ground := Ground.data }, { on := 2, ground := Ground.data }, { on := 0, ground := Ground.phase }, { on := 1, ground := Ground.phase }, { on := 2, ground := Ground.phase }, { on := 3, ground := Ground.textOnly Departure.lateStores }, { on := 4, ground := Ground.textOnly Departure.lateStores }, { on := 5, ground := Ground.textOnly Departure.lateStores }, { on := 6, ground := Ground.phase }, { on := 7, ground := Ground.phase }], guard := none }) rfl (fun K hK => ?_) AllReadyH.nil
        have f50 := K5.f 0
        have f51 := K5.f 1
        have c50 := K5.c0
        have c51 := K5.c1
        go_simp
        refine hK.out _ _ ?_ (fun hHeld => ?_)
        · exact (hbw.setCell (p := ⟨B5, 0, none⟩) (show _ ≤ B5 by omega) (.int .i64 x0)).setCell (p := ⟨B5, 1, none⟩) (show _ ≤ B5 by omega) (.int .i64 y0)
        clear hHeld
        clear f50 f51 c50 c51
        replace hbw := (hbw.setCell (p := ⟨B5, 0, none⟩) (show _ ≤ B5 by omega) (.int .i64 x0)).setCell (p := ⟨B5, 1, none⟩) (show _ ≤ B5 by omega) (.int .i64 y0)
        replace K5 := K5.set x0 y0
        replace K2 := (K2.other (B' := B5) (i := 0) (by omega) (.int .i64 x0)).other (B' := B5) (i := 1) (by omega) (.int .i64 y0)
        replace K3 := (K3.other (B' := B5) (i := 0) (by omega) (.int .i64 x0)).other (B' := B5) (i := 1) (by omega) (.int .i64 y0)
        replace K6 := (K6.other (B' := B5) (i := 0) (by omega) (.int .i64 x0)).other (B' := B5) (i := 1) (by omega) (.int .i64 y0)
        generalize (wa2.setCell ⟨B5, 0, none⟩ (.int .i64 x0)).setCell ⟨B5, 1, none⟩ (.int .i64 y0) = wb5 at *
        clear hK K
        try simp only [Act.put, List.setIfInBounds_toArray, List.set_cons_zero, List.set_cons_succ]
        refine wpAnyH_ready (rs := [9]) (by kernel_rfl) (by simp) ?_
        refine AllReadyH.cons (o := { dst := none, op := Op.store 26 (Operand.tmp 6) (Operand.tmp 24), type := 0, pos := "l8_area.go:105", after := #[{ on := 7, ground := Ground.data }, { on := 5, ground := Ground.data }, { on := 8, ground := Ground.chain }, { on := 0, ground := Ground.phase }, { on := 1, ground := Ground.phase }, { on := 2, ground := Ground.phase }, { on := 3, ground := Ground.phase }, { on := 4, ground := Ground.phase }, { on := 5, ground := Ground.phase }, { on := 6, ground := Ground.phase }, { on := 7, ground := Ground.phase }, { on := 8, ground := Ground.phase }], guard := none }) rfl (fun K hK => ?_) AllReadyH.nil
        have f60 := K6.f 0
        have f61 := K6.f 1
        have c60 := K6.c0
        have c61 := K6.c1
        go_simp
        refine hK.out _ _ ?_ (fun hHeld => ?_)
        · exact (hbw.setCell (p := ⟨B6, 0, none⟩) (show _ ≤ B6 by omega) (.int .i64 x0)).setCell (p := ⟨B6, 1, none⟩) (show _ ≤ B6 by omega) (.int .i64 y0)
        clear hHeld
        clear f60 f61 c60 c61
        replace hbw := (hbw.setCell (p := ⟨B6, 0, none⟩) (show _ ≤ B6 by omega) (.int .i64 x0)).setCell (p := ⟨B6, 1, none⟩) (show _ ≤ B6 by omega) (.int .i64 y0)
        replace K6 := K6.set x0 y0
        replace K2 := (K2.other (B' := B6) (i := 0) (by omega) (.int .i64 x0)).other (B' := B6) (i := 1) (by omega) (.int .i64 y0)
        replace K3 := (K3.other (B' := B6) (i := 0) (by omega) (.int .i64 x0)).other (B' := B6) (i := 1) (by omega) (.int .i64 y0)
        replace K5 := (K5.other (B' := B6) (i := 0) (by omega) (.int .i64 x0)).other (B' := B6) (i := 1) (by omega) (.int .i64 y0)
        generalize (wb5.setCell ⟨B6, 0, none⟩ (.int .i64 x0)).setCell ⟨B6, 1, none⟩ (.int .i64 y0) = wb6 at *
        clear hK K
        try simp only [Act.put, List.setIfInBounds_toArray, List.set_cons_zero, List.set_cons_succ]
        refine wpAnyH_done (by kernel_rfl) ?_ _
        exact TAIL3 B5 B6 wb6 ⟨K2, K3, K5, K6, by omega, hlt5, hlt6, hbw⟩
      · go_simp
        refine hK.out _ _ ?_ (fun hHeld => ?_)
        · exact grew hbw (by go_grown : Below wa0.heap.size wa0 _)
        have hbA : Below wa0.heap.size wa0 (wa0.alloc (.cells #[.int .i64 0, .int .i64 0] 26)) := by go_grown
        have hlt6 : B3 < wa0.heap.size := K3.lt
        replace K2 := K2.later hbA
        replace K3 := K3.later hbA
        have K6 := BoxP.new wa0 0 0
        replace hbw := grew hbw hbA
        clear hbA hHeld
        generalize wa0.heap.size = B6 at K6 hlt6 ⊢
        generalize wa0.alloc (.cells #[.int .i64 0, .int .i64 0] 26) = wa1 at *
        clear hK K
        try simp only [Act.put, List.setIfInBounds_toArray, List.set_cons_zero, List.set_cons_succ]
        refine wpAnyH_ready (rs := [6]) (by kernel_rfl) (by simp) ?_
        refine AllReadyH.cons (o := { dst := some 5, op := Op.alloc 26, type := 0, pos := "l8_area.go:105", after := #[], guard := none }) rfl (fun K hK => ?_) AllReadyH.nil
        go_simp
        refine hK.out _ _ ?_ (fun hHeld => ?_)
        · exact grew hbw (by go_grown : Below wa1.heap.size wa1 _)
        have hbA : Below wa1.heap.size wa1 (wa1.alloc (.cells #[.int .i64 0, .int .i64 0] 26)) := by go_grown
        have hlt5 : B3 < wa1.heap.size := K3.lt
        have hne : B6 < wa1.heap.size := K6.lt
        replace K2 := K2.later hbA
        replace K3 := K3.later hbA
        replace K6 := K6.later hbA
        have K5 := BoxP.new wa1 0 0
        replace hbw := grew hbw hbA
        clear hbA hHeld
        generalize wa1.heap.size = B5 at K5 hlt5 hne ⊢
        generalize wa1.alloc (.cells #[.int .i64 0, .int .i64 0] 26) = wa2 at *
        clear hK K
        try simp only [Act.put, List.setIfInBounds_toArray, List.set_cons_zero, List.set_cons_succ]
        refine wpAnyH_ready (rs := [8]) (by kernel_rfl) (by simp) ?_
        refine AllReadyH.cons (o := { dst := none, op := Op.store 26 (Operand.tmp 5) (Operand.tmp 21), type := 0, pos := "l8_area.go:105", after := #[{ on := 6, ground := Ground.data }, { on := 2, ground := Ground.data }, { on := 0, ground := Ground.phase }, { on := 1, ground := Ground.phase }, { on := 2, ground := Ground.phase }, { on := 3, ground := Ground.textOnly Departure.lateStores }, { on := 4, ground := Ground.textOnly Departure.lateStores }, { on := 5, ground := Ground.textOnly Departure.lateStores }, { on := 6, ground := Ground.phase }, { on := 7, ground := Ground.phase }], guard := none }) rfl (fun K hK => ?_) AllReadyH.nil
        have f50 := K5.f 0
        have f51 := K5.f 1
        have c50 := K5.c0
        have c51 := K5.c1
        go_simp
        refine hK.out _ _ ?_ (fun hHeld => ?_)
        · exact (hbw.setCell (p := ⟨B5, 0, none⟩) (show _ ≤ B5 by omega) (.int .i64 x0)).setCell (p := ⟨B5, 1, none⟩) (show _ ≤ B5 by omega) (.int .i64 y0)
        clear hHeld
        clear f50 f51 c50 c51
        replace hbw := (hbw.setCell (p := ⟨B5, 0, none⟩) (show _ ≤ B5 by omega) (.int .i64 x0)).setCell (p := ⟨B5, 1, none⟩) (show _ ≤ B5 by omega) (.int .i64 y0)
        replace K5 := K5.set x0 y0
        replace K2 := (K2.other (B' := B5) (i := 0) (by omega) (.int .i64 x0)).other (B' := B5) (i := 1) (by omega) (.int .i64 y0)
        replace K3 := (K3.other (B' := B5) (i := 0) (by omega) (.int .i64 x0)).other (B' := B5) (i := 1) (by omega) (.int .i64 y0)
        replace K6 := (K6.other (B' := B5) (i := 0) (by omega) (.int .i64 x0)).other (B' := B5) (i := 1) (by omega) (.int .i64 y0)
        generalize (wa2.setCell ⟨B5, 0, none⟩ (.int .i64 x0)).setCell ⟨B5, 1, none⟩ (.int .i64 y0) = wb5 at *
        clear hK K
        try simp only [Act.put, List.setIfInBounds_toArray, List.set_cons_zero, List.set_cons_succ]
        refine wpAnyH_ready (rs := [9]) (by kernel_rfl) (by simp) ?_
        refine AllReadyH.cons (o := { dst := none, op := Op.store 26 (Operand.tmp 6) (Operand.tmp 24), type := 0, pos := "l8_area.go:105", after := #[{ on := 7, ground := Ground.data }, { on := 5, ground := Ground.data }, { on := 8, ground := Ground.chain }, { on := 0, ground := Ground.phase }, { on := 1, ground := Ground.phase }, { on := 2, ground := Ground.phase }, { on := 3, ground := Ground.phase }, { on := 4, ground := Ground.phase }, { on := 5, ground := Ground.phase }, { on := 6, ground := Ground.phase }, { on := 7, ground := Ground.phase }, { on := 8, ground := Ground.phase }], guard := none }) rfl (fun K hK => ?_) AllReadyH.nil
        have f60 := K6.f 0
        have f61 := K6.f 1
        have c60 := K6.c0
        have c61 := K6.c1
        go_simp
        refine hK.out _ _ ?_ (fun hHeld => ?_)
        · exact (hbw.setCell (p := ⟨B6, 0, none⟩) (show _ ≤ B6 by omega) (.int .i64 x0)).setCell (p := ⟨B6, 1, none⟩) (show _ ≤ B6 by omega) (.int .i64 y0)
        clear hHeld
        clear f60 f61 c60 c61
        replace hbw := (hbw.setCell (p := ⟨B6, 0, none⟩) (show _ ≤ B6 by omega) (.int .i64 x0)).setCell (p := ⟨B6, 1, none⟩) (show _ ≤ B6 by omega) (.int .i64 y0)
        replace K6 := K6.set x0 y0
        replace K2 := (K2.other (B' := B6) (i := 0) (by omega) (.int .i64 x0)).other (B' := B6) (i := 1) (by omega) (.int .i64 y0)
        replace K3 := (K3.other (B' := B6) (i := 0) (by omega) (.int .i64 x0)).other (B' := B6) (i := 1) (by omega) (.int .i64 y0)
        replace K5 := (K5.other (B' := B6) (i := 0) (by omega) (.int .i64 x0)).other (B' := B6) (i := 1) (by omega) (.int .i64 y0)
        generalize (wb5.setCell ⟨B6, 0, none⟩ (.int .i64 x0)).setCell ⟨B6, 1, none⟩ (.int .i64 y0) = wb6 at *
        clear hK K
        try simp only [Act.put, List.setIfInBounds_toArray, List.set_cons_zero, List.set_cons_succ]
        refine wpAnyH_done (by kernel_rfl) ?_ _
        exact TAIL3 B5 B6 wb6 ⟨K2, K3, K5, K6, by omega, hlt5, hlt6, hbw⟩
    case tail3 =>
      clear K2 K3 hbw
      rintro B5 B6 w3 ⟨K2, K3, K5, K6, hne56, hlt5, hlt6, hbw⟩
      go_wp2
      go_loopw [27] (fun i wr => ∃ k : Nat, k ≤ l.length ∧ i = .int .i64 (k : Int) ∧ BoxP wr B2 (0, 0) ∧ BoxP wr B3 (0, 0) ∧ BoxP wr B5 (boxL l k) ∧ BoxP wr B6 (boxH l k) ∧ Below w.heap.size w wr) (fun i _ => l.length - (intOf i).toNat)
      case atStart => exact ⟨0, Nat.zero_le _, rfl, K2, K3, by rw [HX0.out]; exact K5, by rw [HX1.out]; exact K6, hbw⟩
      case round =>
        clear K2 K3 K5 K6 hbw
        obtain ⟨k, hk, rfl, K2, K3, K5, K6, hbw⟩ := hrel
        by_cases hkl : k < l.length
        · obtain ⟨b', off', e1, hbN', g2, g3⟩ := HA.out k hkl
          obtain ⟨rfl, rfl⟩ : b = b' ∧ off = off' := by simpa using e1
          clear e1
          have q0 := cell_later hbw g2
          have q1 := cell_later hbw g3
          clear g2 g3
          have SL1 := hid (boxL_step (l := l) (k := k))
          have SH1 := hid (boxH_step (l := l) (k := k))
          obtain ⟨x, hx⟩ : ∃ x, px l k = x := ⟨_, rfl⟩
          obtain ⟨y, hy⟩ : ∃ x, py l k = x := ⟨_, rfl⟩
          rw [hx, hy] at SL1 SH1
          rw [hx] at q0
          rw [hy] at q1
          clear hx hy
          generalize boxL l k = bl at K5 SL1
          generalize boxH l k = bh at K6 SH1
          obtain ⟨lx, ly⟩ := bl
          obtain ⟨gx, gy⟩ := bh
          simp only at SL1 SH1
          have nk : (0 : Int) ≤ (k : Int) := by omega
          have nk1 : (k : Int) < (l.length : Int) := by omega
          go_upto_region 7 with fail
          have hb8 : Below wr.heap.size wr (wr.alloc (.cells #[.int .i64 x, .int .i64 y] 26)) := by go_grown
          have K8 := BoxP.new wr x y
          have hl2 : B2 < wr.heap.size := K2.lt
          have hl3 : B3 < wr.heap.size := K3.lt
          have hl5 : B5 < wr.heap.size := K5.lt
          have hl6 : B6 < wr.heap.size := K6.lt
          replace K2 := K2.later hb8
          replace K3 := K3.later hb8
          replace K5 := K5.later hb8
          replace K6 := K6.later hb8
          replace hbw := grew hbw hb8
          clear q0 q1 hb8
          generalize wr.heap.size = B8 at K8 hl2 hl3 hl5 hl6 ⊢
          generalize wr.alloc (.cells #[.int .i64 x, .int .i64 y] 26) = wp at *
          refine (fun (TAIL7 : ∀ (u : World), (BoxP u B2 (0, 0) ∧ BoxP u B3 (0, 0) ∧ BoxP u B5 (min lx x, min ly y) ∧ BoxP u B6 (gx, gy) ∧ BoxP u B8 (x, y) ∧ Below w.heap.size w u) → (?PTail7 : World → Prop) u) => ?main7) ?tail7
          case main7 =>
            refine wp_region_held_drew (S := (fun u => BoxP u B8 (x, y) ∧ Below w.heap.size w u)) (by kernel_rfl) ?_ (fun hHeld => ?_)
            · exact ⟨K8.later (drewN_below 1 _), grew hbw (drewN_below 1 _)⟩
            have hd : Below wp.heap.size wp wp.drew := (Below.refl _ _).drew
            replace K2 := K2.later hd
            replace K3 := K3.later hd
            replace K5 := K5.later hd
            replace K6 := K6.later hd
            replace K8 := K8.later hd
            replace hbw := grew hbw hd
            clear hd hHeld
            generalize wp.drew = wd7 at *
            have hHeld : BoxP wd7 B8 (x, y) ∧ Below w.heap.size w wd7 := ⟨K8, hbw⟩
            have f50 := K5.f 0
            have f51 := K5.f 1
            have c50 := K5.c0
            have c51 := K5.c1
            refine wpAnyH_take (i := 0) (oi := { dst := some 31, op := Op.fieldAddr 26 (Operand.tmp 5) 0, type := 0, pos := "l8_area.go:107", after := #[], guard := none }) (v := ?v20yx0u16) rfl (by kernel_rfl) (by kernel_rfl) (by kernel_rfl) (fun _ _ _ h => h) (Or.inl ⟨by rfl, ?hy20yx0u16⟩) (by with_reducible assumption) ?rest20yx0u16
            case hy20yx0u16 => (intro wS hSw; (try dsimp only at hSw); have z0 := hSw.1.c0; have z1 := hSw.1.c1; clear hSw; go_simp; try with_reducible rfl)
            case' rest20yx0u16 => (try simp only [Act.put, List.setIfInBounds_toArray, List.set_cons_zero, List.set_cons_succ])
            refine wpAnyH_take (i := 2) (oi := { dst := some 33, op := Op.fieldAddr 26 (Operand.tmp 8) 0, type := 0, pos := "l8_area.go:107", after := #[], guard := none }) (v := ?v21yx2u17) rfl (by kernel_rfl) (by kernel_rfl) (by kernel_rfl) (fun _ _ _ h => h) (Or.inl ⟨by rfl, ?hy21yx2u17⟩) (by with_reducible assumption) ?rest21yx2u17
            case hy21yx2u17 => (intro wS hSw; (try dsimp only at hSw); have z0 := hSw.1.c0; have z1 := hSw.1.c1; clear hSw; go_simp; try with_reducible rfl)
            case' rest21yx2u17 => (try simp only [Act.put, List.setIfInBounds_toArray, List.set_cons_zero, List.set_cons_succ])
            refine wpAnyH_take (i := 3) (oi := { dst := some 34, op := Op.load 3 (Operand.tmp 33), type := 3, pos := "l8_area.go:107", after := #[{ on := 2, ground := Ground.data }], guard := none }) (v := ?v22yx3u18) rfl (by kernel_rfl) (by kernel_rfl) (by kernel_rfl) (fun _ _ _ h => h) (Or.inl ⟨by rfl, ?hy22yx3u18⟩) (by with_reducible assumption) ?rest22yx3u18
            case hy22yx3u18 => (intro wS hSw; (try dsimp only at hSw); have z0 := hSw.1.c0; have z1 := hSw.1.c1; clear hSw; go_simp; try with_reducible rfl)
            case' rest22yx3u18 => (try simp only [Act.put, List.setIfInBounds_toArray, List.set_cons_zero, List.set_cons_succ])
            refine wpAnyH_take (i := 5) (oi := { dst := some 36, op := Op.fieldAddr 26 (Operand.tmp 5) 1, type := 0, pos := "l8_area.go:107", after := #[], guard := none }) (v := ?v23yx5u19) rfl (by kernel_rfl) (by kernel_rfl) (by kernel_rfl) (fun _ _ _ h => h) (Or.inl ⟨by rfl, ?hy23yx5u19⟩) (by with_reducible assumption) ?rest23yx5u19
            case hy23yx5u19 => (intro wS hSw; (try dsimp only at hSw); have z0 := hSw.1.c0; have z1 := hSw.1.c1; clear hSw; go_simp; try with_reducible rfl)
            case' rest23yx5u19 => (try simp only [Act.put, List.setIfInBounds_toArray, List.set_cons_zero, List.set_cons_succ])
            refine wpAnyH_take (i := 7) (oi := { dst := some 38, op := Op.fieldAddr 26 (Operand.tmp 8) 1, type := 0, pos := "l8_area.go:107", after := #[], guard := none }) (v := ?v24yx7u20) rfl (by kernel_rfl) (by kernel_rfl) (by kernel_rfl) (fun _ _ _ h => h) (Or.inl ⟨by rfl, ?hy24yx7u20⟩) (by with_reducible assumption) ?rest24yx7u20
            case hy24yx7u20 => (intro wS hSw; (try dsimp only at hSw); have z0 := hSw.1.c0; have z1 := hSw.1.c1; clear hSw; go_simp; try with_reducible rfl)
            case' rest24yx7u20 => (try simp only [Act.put, List.setIfInBounds_toArray, List.set_cons_zero, List.set_cons_succ])
            refine wpAnyH_take (i := 8) (oi := { dst := some 39, op := Op.load 3 (Operand.tmp 38), type := 3, pos := "l8_area.go:107", after := #[{ on := 7, ground := Ground.data }], guard := none }) (v := ?v25yx8u21) rfl (by kernel_rfl) (by kernel_rfl) (by kernel_rfl) (fun _ _ _ h => h) (Or.inl ⟨by rfl, ?hy25yx8u21⟩) (by with_reducible assumption) ?rest25yx8u21
            case hy25yx8u21 => (intro wS hSw; (try dsimp only at hSw); have z0 := hSw.1.c0; have z1 := hSw.1.c1; clear hSw; go_simp; try with_reducible rfl)
            case' rest25yx8u21 => (try simp only [Act.put, List.setIfInBounds_toArray, List.set_cons_zero, List.set_cons_succ])
            refine wpAnyH_ready (rs := [1, 6]) (by kernel_rfl) (by simp) ?_
            refine AllReadyH.cons (o := { dst := some 32, op := Op.load 3 (Operand.tmp 31), type := 3, pos := "l8_area.go:107", after := #[{ on := 0, ground := Ground.data }], guard := none }) rfl (fun K hK => ?_) (AllReadyH.cons (o := { dst := some 37, op := Op.load 3 (Operand.tmp 36), type := 3, pos := "l8_area.go:107", after := #[{ on := 5, ground := Ground.data }], guard := none }) rfl (fun K hK => ?_) AllReadyH.nil)
            · go_simp
              refine hK.out _ _ ?_ (fun hHeld => ?_)
              · exact ⟨K8, hbw⟩
              clear hK K
              try simp only [Act.put, List.setIfInBounds_toArray, List.set_cons_zero, List.set_cons_succ]
              refine wpAnyH_ready (rs := [4, 6]) (by kernel_rfl) (by simp) ?_
              refine AllReadyH.cons (o := { dst := some 35, op := Op.call { callee := Callee.value (Operand.func 48), args := #[Operand.tmp 32, Operand.tmp 34], argTypes := #[3, 3] }, type := 3, pos := "l8_area.go:107", after := #[{ on := 1, ground := Ground.data }, { on := 3, ground := Ground.data }], guard := none }) rfl (fun K hK => ?_) (AllReadyH.cons (o := { dst := some 37, op := Op.load 3 (Operand.tmp 36), type := 3, pos := "l8_area.go:107", after := #[{ on := 5, ground := Ground.data }], guard := none }) rfl (fun K hK => ?_) AllReadyH.nil)
              · go_simp
                refine (least_c _ _ _).mono ?_
                rintro e w' ⟨rfl, rfl⟩
                go_wp2_with fail
                refine hK.out _ _ ?_ (fun hHeld => ?_)
                · exact ⟨K8, hbw⟩
                clear hK K
                try simp only [Act.put, List.setIfInBounds_toArray, List.set_cons_zero, List.set_cons_succ]
                refine wpAnyH_ready (rs := [6]) (by kernel_rfl) (by simp) ?_
                refine AllReadyH.cons (o := { dst := some 37, op := Op.load 3 (Operand.tmp 36), type := 3, pos := "l8_area.go:107", after := #[{ on := 5, ground := Ground.data }], guard := none }) rfl (fun K hK => ?_) AllReadyH.nil
                go_simp
                refine hK.out _ _ ?_ (fun hHeld => ?_)
                · exact ⟨K8, hbw⟩
                clear hK K
                try simp only [Act.put, List.setIfInBounds_toArray, List.set_cons_zero, List.set_cons_succ]
                refine wpAnyH_ready (rs := [9]) (by kernel_rfl) (by simp) ?_
                refine AllReadyH.cons (o := { dst := some 40, op := Op.call { callee := Callee.value (Operand.func 48), args := #[Operand.tmp 37, Operand.tmp 39], argTypes := #[3, 3] }, type := 3, pos := "l8_area.go:107", after := #[{ on := 6, ground := Ground.data }, { on := 8, ground := Ground.data }, { on := 4, ground := Ground.chain }], guard := none }) rfl (fun K hK => ?_) AllReadyH.nil
                go_simp
                refine (least_c _ _ _).mono ?_
                rintro e w' ⟨rfl, rfl⟩
                go_wp2_with fail
                refine hK.out _ _ ?_ (fun hHeld => ?_)
                · exact ⟨K8, hbw⟩
                clear hK K
                try simp only [Act.put, List.setIfInBounds_toArray, List.set_cons_zero, List.set_cons_succ]
                refine wpAnyH_take (i := 10) (oi := { dst := some 41, op := Op.build 26 #[(0, Operand.tmp 35), (1, Operand.tmp 40)], type := 26, pos := "l8_area.go:107", after := #[{ on := 4, ground := Ground.data }, { on := 9, ground := Ground.data }], guard := none }) (v := ?v26yx10u22) rfl (by kernel_rfl) (by kernel_rfl) (by kernel_rfl) (fun _ _ _ h => h) (Or.inl ⟨by rfl, ?hy26yx10u22⟩) (by with_reducible assumption) ?rest26yx10u22
                case hy26yx10u22 => (intro wS hSw; (try dsimp only at hSw); have z0 := hSw.1.c0; have z1 := hSw.1.c1; clear hSw; go_simp; try with_reducible rfl)
                case' rest26yx10u22 => (try simp only [Act.put, List.setIfInBounds_toArray, List.set_cons_zero, List.set_cons_succ])
                refine wpAnyH_ready (rs := [11]) (by kernel_rfl) (by simp) ?_
                refine AllReadyH.cons (o := { dst := none, op := Op.store 26 (Operand.tmp 5) (Operand.tmp 41), type := 0, pos := "l8_area.go:107", after := #[{ on := 10, ground := Ground.data }, { on := 9, ground := Ground.chain }, { on := 0, ground := Ground.phase }, { on := 1, ground := Ground.phase }, { on := 2, ground := Ground.phase }, { on := 3, ground := Ground.phase }, { on := 4, ground := Ground.phase }, { on := 5, ground := Ground.phase }, { on := 6, ground := Ground.phase }, { on := 7, ground := Ground.phase }, { on := 8, ground := Ground.phase }, { on := 9, ground := Ground.phase }, { on := 10, ground := Ground.phase }], guard := none }) rfl (fun K hK => ?_) AllReadyH.nil
                go_simp
                refine hK.out _ _ ?_ (fun hHeld => ?_)
                · exact ⟨(K8.other (B' := B5) (i := 0) (by omega) _).other (B' := B5) (i := 1) (by omega) _, (hbw.setCell (p := ⟨B5, 0, none⟩) (show _ ≤ B5 by omega) _).setCell (p := ⟨B5, 1, none⟩) (show _ ≤ B5 by omega) _⟩
                clear hHeld
                clear f50 f51 c50 c51
                replace hbw := (hbw.setCell (p := ⟨B5, 0, none⟩) (show _ ≤ B5 by omega) (.int .i64 (min lx x))).setCell (p := ⟨B5, 1, none⟩) (show _ ≤ B5 by omega) (.int .i64 (min ly y))
                replace K5 := K5.set (min lx x) (min ly y)
                replace K2 := (K2.other (B' := B5) (i := 0) (by omega) (.int .i64 (min lx x))).other (B' := B5) (i := 1) (by omega) (.int .i64 (min ly y))
                replace K3 := (K3.other (B' := B5) (i := 0) (by omega) (.int .i64 (min lx x))).other (B' := B5) (i := 1) (by omega) (.int .i64 (min ly y))
                replace K6 := (K6.other (B' := B5) (i := 0) (by omega) (.int .i64 (min lx x))).other (B' := B5) (i := 1) (by omega) (.int .i64 (min ly y))
                replace K8 := (K8.other (B' := B5) (i := 0) (by omega) (.int .i64 (min lx x))).other (B' := B5) (i := 1) (by omega) (.int .i64 (min ly y))
                generalize (wd7.setCell ⟨B5, 0, none⟩ (.int .i64 (min lx x))).setCell ⟨B5, 1, none⟩ (.int .i64 (min ly y)) = we7 at *
                have hHeld : BoxP we7 B8 (x, y) ∧ Below w.heap.size w we7 := ⟨K8, hbw⟩
                clear hK K
                try simp only [Act.put, List.setIfInBounds_toArray, List.set_cons_zero, List.set_cons_succ]
                refine wpAnyH_done (by kernel_rfl) ?_ _
                exact TAIL7 we7 ⟨K2, K3, K5, K6, K8, hbw⟩
              · go_simp
                refine hK.out _ _ ?_ (fun hHeld => ?_)
                · exact ⟨K8, hbw⟩
                clear hK K
                try simp only [Act.put, List.setIfInBounds_toArray, List.set_cons_zero, List.set_cons_succ]
                refine wpAnyH_ready (rs := [4]) (by kernel_rfl) (by simp) ?_
                refine AllReadyH.cons (o := { dst := some 35, op := Op.call { callee := Callee.value (Operand.func 48), args := #[Operand.tmp 32, Operand.tmp 34], argTypes := #[3, 3] }, type := 3, pos := "l8_area.go:107", after := #[{ on := 1, ground := Ground.data }, { on := 3, ground := Ground.data }], guard := none }) rfl (fun K hK => ?_) AllReadyH.nil
                go_simp
                refine (least_c _ _ _).mono ?_
                rintro e w' ⟨rfl, rfl⟩
                go_wp2_with fail
                refine hK.out _ _ ?_ (fun hHeld => ?_)
                · exact ⟨K8, hbw⟩
                clear hK K
                try simp only [Act.put, List.setIfInBounds_toArray, List.set_cons_zero, List.set_cons_succ]
                refine wpAnyH_ready (rs := [9]) (by kernel_rfl) (by simp) ?_
                refine AllReadyH.cons (o := { dst := some 40, op := Op.call { callee := Callee.value (Operand.func 48), args := #[Operand.tmp 37, Operand.tmp 39], argTypes := #[3, 3] }, type := 3, pos := "l8_area.go:107", after := #[{ on := 6, ground := Ground.data }, { on := 8, ground := Ground.data }, { on := 4, ground := Ground.chain }], guard := none }) rfl (fun K hK => ?_) AllReadyH.nil
                go_simp
                refine (least_c _ _ _).mono ?_
                rintro e w' ⟨rfl, rfl⟩
                go_wp2_with fail
                refine hK.out _ _ ?_ (fun hHeld => ?_)
                · exact ⟨K8, hbw⟩
                clear hK K
                try simp only [Act.put, List.setIfInBounds_toArray, List.set_cons_zero, List.set_cons_succ]
                refine wpAnyH_take (i := 10) (oi := { dst := some 41, op := Op.build 26 #[(0, Operand.tmp 35), (1, Operand.tmp 40)], type := 26, pos := "l8_area.go:107", after := #[{ on := 4, ground := Ground.data }, { on := 9, ground := Ground.data }], guard := none }) (v := ?v27yx10u23) rfl (by kernel_rfl) (by kernel_rfl) (by kernel_rfl) (fun _ _ _ h => h) (Or.inl ⟨by rfl, ?hy27yx10u23⟩) (by with_reducible assumption) ?rest27yx10u23
                case hy27yx10u23 => (intro wS hSw; (try dsimp only at hSw); have z0 := hSw.1.c0; have z1 := hSw.1.c1; clear hSw; go_simp; try with_reducible rfl)
                case' rest27yx10u23 => (try simp only [Act.put, List.setIfInBounds_toArray, List.set_cons_zero, List.set_cons_succ])
                refine wpAnyH_ready (rs := [11]) (by kernel_rfl) (by simp) ?_
                refine AllReadyH.cons (o := { dst := none, op := Op.store 26 (Operand.tmp 5) (Operand.tmp 41), type := 0, pos := "l8_area.go:107", after := #[{ on := 10, ground := Ground.data }, { on := 9, ground := Ground.chain }, { on := 0, ground := Ground.phase }, { on := 1, ground := Ground.phase }, { on := 2, ground := Ground.phase }, { on := 3, ground := Ground.phase }, { on := 4, ground := Ground.phase }, { on := 5, ground := Ground.phase }, { on := 6, ground := Ground.phase }, { on := 7, ground := Ground.phase }, { on := 8, ground := Ground.phase }, { on := 9, ground := Ground.phase }, { on := 10, ground := Ground.phase }], guard := none }) rfl (fun K hK => ?_) AllReadyH.nil
                go_simp
                refine hK.out _ _ ?_ (fun hHeld => ?_)
                · exact ⟨(K8.other (B' := B5) (i := 0) (by omega) _).other (B' := B5) (i := 1) (by omega) _, (hbw.setCell (p := ⟨B5, 0, none⟩) (show _ ≤ B5 by omega) _).setCell (p := ⟨B5, 1, none⟩) (show _ ≤ B5 by omega) _⟩
                clear hHeld
                clear f50 f51 c50 c51
                replace hbw := (hbw.setCell (p := ⟨B5, 0, none⟩) (show _ ≤ B5 by omega) (.int .i64 (min lx x))).setCell (p := ⟨B5, 1, none⟩) (show _ ≤ B5 by omega) (.int .i64 (min ly y))
                replace K5 := K5.set (min lx x) (min ly y)
                replace K2 := (K2.other (B' := B5) (i := 0) (by omega) (.int .i64 (min lx x))).other (B' := B5) (i := 1) (by omega) (.int .i64 (min ly y))
                replace K3 := (K3.other (B' := B5) (i := 0) (by omega) (.int .i64 (min lx x))).other (B' := B5) (i := 1) (by omega) (.int .i64 (min ly y))
                replace K6 := (K6.other (B' := B5) (i := 0) (by omega) (.int .i64 (min lx x))).other (B' := B5) (i := 1) (by omega) (.int .i64 (min ly y))
                replace K8 := (K8.other (B' := B5) (i := 0) (by omega) (.int .i64 (min lx x))).other (B' := B5) (i := 1) (by omega) (.int .i64 (min ly y))
                generalize (wd7.setCell ⟨B5, 0, none⟩ (.int .i64 (min lx x))).setCell ⟨B5, 1, none⟩ (.int .i64 (min ly y)) = we7 at *
                have hHeld : BoxP we7 B8 (x, y) ∧ Below w.heap.size w we7 := ⟨K8, hbw⟩
                clear hK K
                try simp only [Act.put, List.setIfInBounds_toArray, List.set_cons_zero, List.set_cons_succ]
                refine wpAnyH_done (by kernel_rfl) ?_ _
                exact TAIL7 we7 ⟨K2, K3, K5, K6, K8, hbw⟩
            · go_simp
              refine hK.out _ _ ?_ (fun hHeld => ?_)
              · exact ⟨K8, hbw⟩
              clear hK K
              try simp only [Act.put, List.setIfInBounds_toArray, List.set_cons_zero, List.set_cons_succ]
              refine wpAnyH_ready (rs := [1]) (by kernel_rfl) (by simp) ?_
              refine AllReadyH.cons (o := { dst := some 32, op := Op.load 3 (Operand.tmp 31), type := 3, pos := "l8_area.go:107", after := #[{ on := 0, ground := Ground.data }], guard := none }) rfl (fun K hK => ?_) AllReadyH.nil
              go_simp
              refine hK.out _ _ ?_ (fun hHeld => ?_)
              · exact ⟨K8, hbw⟩
              clear hK K
              try simp only [Act.put, List.setIfInBounds_toArray, List.set_cons_zero, List.set_cons_succ]
              refine wpAnyH_ready (rs := [4]) (by kernel_rfl) (by simp) ?_
              refine AllReadyH.cons (o := { dst := some 35, op := Op.call { callee := Callee.value (Operand.func 48), args := #[Operand.tmp 32, Operand.tmp 34], argTypes := #[3, 3] }, type := 3, pos := "l8_area.go:107", after := #[{ on := 1, ground := Ground.data }, { on := 3, ground := Ground.data }], guard := none }) rfl (fun K hK => ?_) AllReadyH.nil
              go_simp
              refine (least_c _ _ _).mono ?_
              rintro e w' ⟨rfl, rfl⟩
              go_wp2_with fail
              refine hK.out _ _ ?_ (fun hHeld => ?_)
              · exact ⟨K8, hbw⟩
              clear hK K
              try simp only [Act.put, List.setIfInBounds_toArray, List.set_cons_zero, List.set_cons_succ]
              refine wpAnyH_ready (rs := [9]) (by kernel_rfl) (by simp) ?_
              refine AllReadyH.cons (o := { dst := some 40, op := Op.call { callee := Callee.value (Operand.func 48), args := #[Operand.tmp 37, Operand.tmp 39], argTypes := #[3, 3] }, type := 3, pos := "l8_area.go:107", after := #[{ on := 6, ground := Ground.data }, { on := 8, ground := Ground.data }, { on := 4, ground := Ground.chain }], guard := none }) rfl (fun K hK => ?_) AllReadyH.nil
              go_simp
              refine (least_c _ _ _).mono ?_
              rintro e w' ⟨rfl, rfl⟩
              go_wp2_with fail
              refine hK.out _ _ ?_ (fun hHeld => ?_)
              · exact ⟨K8, hbw⟩
              clear hK K
              try simp only [Act.put, List.setIfInBounds_toArray, List.set_cons_zero, List.set_cons_succ]
              refine wpAnyH_take (i := 10) (oi := { dst := some 41, op := Op.build 26 #[(0, Operand.tmp 35), (1, Operand.tmp 40)], type := 26, pos := "l8_area.go:107", after := #[{ on := 4, ground := Ground.data }, { on := 9, ground := Ground.data }], guard := none }) (v := ?v28yx10u24) rfl (by kernel_rfl) (by kernel_rfl) (by kernel_rfl) (fun _ _ _ h => h) (Or.inl ⟨by rfl, ?hy28yx10u24⟩) (by with_reducible assumption) ?rest28yx10u24
              case hy28yx10u24 => (intro wS hSw; (try dsimp only at hSw); have z0 := hSw.1.c0; have z1 := hSw.1.c1; clear hSw; go_simp; try with_reducible rfl)
              case' rest28yx10u24 => (try simp only [Act.put, List.setIfInBounds_toArray, List.set_cons_zero, List.set_cons_succ])
              refine wpAnyH_ready (rs := [11]) (by kernel_rfl) (by simp) ?_
              refine AllReadyH.cons (o := { dst := none, op := Op.store 26 (Operand.tmp 5) (Operand.tmp 41), type := 0, pos := "l8_area.go:107", after := #[{ on := 10, ground := Ground.data }, { on := 9, ground := Ground.chain }, { on := 0, ground := Ground.phase }, { on := 1, ground := Ground.phase }, { on := 2, ground := Ground.phase }, { on := 3, ground := Ground.phase }, { on := 4, ground := Ground.phase }, { on := 5, ground := Ground.phase }, { on := 6, ground := Ground.phase }, { on := 7, ground := Ground.phase }, { on := 8, ground := Ground.phase }, { on := 9, ground := Ground.phase }, { on := 10, ground := Ground.phase }], guard := none }) rfl (fun K hK => ?_) AllReadyH.nil
              go_simp
              refine hK.out _ _ ?_ (fun hHeld => ?_)
              · exact ⟨(K8.other (B' := B5) (i := 0) (by omega) _).other (B' := B5) (i := 1) (by omega) _, (hbw.setCell (p := ⟨B5, 0, none⟩) (show _ ≤ B5 by omega) _).setCell (p := ⟨B5, 1, none⟩) (show _ ≤ B5 by omega) _⟩
              clear hHeld
              clear f50 f51 c50 c51
              replace hbw := (hbw.setCell (p := ⟨B5, 0, none⟩) (show _ ≤ B5 by omega) (.int .i64 (min lx x))).setCell (p := ⟨B5, 1, none⟩) (show _ ≤ B5 by omega) (.int .i64 (min ly y))
              replace K5 := K5.set (min lx x) (min ly y)
              replace K2 := (K2.other (B' := B5) (i := 0) (by omega) (.int .i64 (min lx x))).other (B' := B5) (i := 1) (by omega) (.int .i64 (min ly y))
              replace K3 := (K3.other (B' := B5) (i := 0) (by omega) (.int .i64 (min lx x))).other (B' := B5) (i := 1) (by omega) (.int .i64 (min ly y))
              replace K6 := (K6.other (B' := B5) (i := 0) (by omega) (.int .i64 (min lx x))).other (B' := B5) (i := 1) (by omega) (.int .i64 (min ly y))
              replace K8 := (K8.other (B' := B5) (i := 0) (by omega) (.int .i64 (min lx x))).other (B' := B5) (i := 1) (by omega) (.int .i64 (min ly y))
              generalize (wd7.setCell ⟨B5, 0, none⟩ (.int .i64 (min lx x))).setCell ⟨B5, 1, none⟩ (.int .i64 (min ly y)) = we7 at *
              have hHeld : BoxP we7 B8 (x, y) ∧ Below w.heap.size w we7 := ⟨K8, hbw⟩
              clear hK K
              try simp only [Act.put, List.setIfInBounds_toArray, List.set_cons_zero, List.set_cons_succ]
              refine wpAnyH_done (by kernel_rfl) ?_ _
              exact TAIL7 we7 ⟨K2, K3, K5, K6, K8, hbw⟩
          case tail7 =>
            clear K2 K3 K5 K6 K8 hbw
            rintro wq ⟨K2, K3, K5, K6, K8, hbw⟩
            go_upto_region 8 with fail
            refine wp_region_held_drew (S := (fun u => BoxP u B8 (x, y) ∧ Below w.heap.size w u)) (by kernel_rfl) ?_ (fun hHeld => ?_)
            · exact ⟨K8.later (drewN_below 1 _), grew hbw (drewN_below 1 _)⟩
            have hd : Below wq.heap.size wq wq.drew := (Below.refl _ _).drew
            replace K2 := K2.later hd
            replace K3 := K3.later hd
            replace K5 := K5.later hd
            replace K6 := K6.later hd
            replace K8 := K8.later hd
            replace hbw := grew hbw hd
            clear hd hHeld
            generalize wq.drew = wd8 at *
            have hHeld : BoxP wd8 B8 (x, y) ∧ Below w.heap.size w wd8 := ⟨K8, hbw⟩
            have f60 := K6.f 0
            have f61 := K6.f 1
            have c60 := K6.c0
            have c61 := K6.c1
            refine wpAnyH_take (i := 0) (oi := { dst := some 42, op := Op.fieldAddr 26 (Operand.tmp 6) 0, type := 0, pos := "l8_area.go:108", after := #[], guard := none }) (v := ?v30yx0u25) rfl (by kernel_rfl) (by kernel_rfl) (by kernel_rfl) (fun _ _ _ h => h) (Or.inl ⟨by rfl, ?hy30yx0u25⟩) (by with_reducible assumption) ?rest30yx0u25
            case hy30yx0u25 => (intro wS hSw; (try dsimp only at hSw); have z0 := hSw.1.c0; have z1 := hSw.1.c1; clear hSw; go_simp; try with_reducible rfl)
            case' rest30yx0u25 => (try simp only [Act.put, List.setIfInBounds_toArray, List.set_cons_zero, List.set_cons_succ])
            refine wpAnyH_take (i := 2) (oi := { dst := some 44, op := Op.fieldAddr 26 (Operand.tmp 8) 0, type := 0, pos := "l8_area.go:108", after := #[], guard := none }) (v := ?v31yx2u26) rfl (by kernel_rfl) (by kernel_rfl) (by kernel_rfl) (fun _ _ _ h => h) (Or.inl ⟨by rfl, ?hy31yx2u26⟩) (by with_reducible assumption) ?rest31yx2u26
            case hy31yx2u26 => (intro wS hSw; (try dsimp only at hSw); have z0 := hSw.1.c0; have z1 := hSw.1.c1; clear hSw; go_simp; try with_reducible rfl)
            case' rest31yx2u26 => (try simp only [Act.put, List.setIfInBounds_toArray, List.set_cons_zero, List.set_cons_succ])
            refine wpAnyH_take (i := 3) (oi := { dst := some 45, op := Op.load 3 (Operand.tmp 44), type := 3, pos := "l8_area.go:108", after := #[{ on := 2, ground := Ground.data }], guard := none }) (v := ?v32yx3u27) rfl (by kernel_rfl) (by kernel_rfl) (by kernel_rfl) (fun _ _ _ h => h) (Or.inl ⟨by rfl, ?hy32yx3u27⟩) (by with_reducible assumption) ?rest32yx3u27
            case hy32yx3u27 => (intro wS hSw; (try dsimp only at hSw); have z0 := hSw.1.c0; have z1 := hSw.1.c1; clear hSw; go_simp; try with_reducible rfl)
            case' rest32yx3u27 => (try simp only [Act.put, List.setIfInBounds_toArray, List.set_cons_zero, List.set_cons_succ])
            refine wpAnyH_take (i := 5) (oi := { dst := some 47, op := Op.fieldAddr 26 (Operand.tmp 6) 1, type := 0, pos := "l8_area.go:108", after := #[], guard := none }) (v := ?v33yx5u28) rfl (by kernel_rfl) (by kernel_rfl) (by kernel_rfl) (fun _ _ _ h => h) (Or.inl ⟨by rfl, ?hy33yx5u28⟩) (by with_reducible assumption) ?rest33yx5u28
            case hy33yx5u28 => (intro wS hSw; (try dsimp only at hSw); have z0 := hSw.1.c0; have z1 := hSw.1.c1; clear hSw; go_simp; try with_reducible rfl)
            case' rest33yx5u28 => (try simp only [Act.put, List.setIfInBounds_toArray, List.set_cons_zero, List.set_cons_succ])
            refine wpAnyH_take (i := 7) (oi := { dst := some 49, op := Op.fieldAddr 26 (Operand.tmp 8) 1, type := 0, pos := "l8_area.go:108", after := #[], guard := none }) (v := ?v34yx7u29) rfl (by kernel_rfl) (by kernel_rfl) (by kernel_rfl) (fun _ _ _ h => h) (Or.inl ⟨by rfl, ?hy34yx7u29⟩) (by with_reducible assumption) ?rest34yx7u29
            case hy34yx7u29 => (intro wS hSw; (try dsimp only at hSw); have z0 := hSw.1.c0; have z1 := hSw.1.c1; clear hSw; go_simp; try with_reducible rfl)
            case' rest34yx7u29 => (try simp only [Act.put, List.setIfInBounds_toArray, List.set_cons_zero, List.set_cons_succ])
            refine wpAnyH_take (i := 8) (oi := { dst := some 50, op := Op.load 3 (Operand.tmp 49), type := 3, pos := "l8_area.go:108", after := #[{ on := 7, ground := Ground.data }], guard := none }) (v := ?v35yx8u30) rfl (by kernel_rfl) (by kernel_rfl) (by kernel_rfl) (fun _ _ _ h => h) (Or.inl ⟨by rfl, ?hy35yx8u30⟩) (by with_reducible assumption) ?rest35yx8u30
            case hy35yx8u30 => (intro wS hSw; (try dsimp only at hSw); have z0 := hSw.1.c0; have z1 := hSw.1.c1; clear hSw; go_simp; try with_reducible rfl)
            case' rest35yx8u30 => (try simp only [Act.put, List.setIfInBounds_toArray, List.set_cons_zero, List.set_cons_succ])
            refine wpAnyH_ready (rs := [1, 6]) (by kernel_rfl) (by simp) ?_
            refine AllReadyH.cons (o := { dst := some 43, op := Op.load 3 (Operand.tmp 42), type := 3, pos := "l8_area.go:108", after := #[{ on := 0, ground := Ground.data }], guard := none }) rfl (fun K hK => ?_) (AllReadyH.cons (o := { dst := some 48, op := Op.load 3 (Operand.tmp 47), type := 3, pos := "l8_area.go:108", after := #[{ on := 5, ground := Ground.data }], guard := none }) rfl (fun K hK => ?_) AllReadyH.nil)
            · go_simp
              refine hK.out _ _ ?_ (fun hHeld => ?_)
              · exact ⟨K8, hbw⟩
              clear hK K
              try simp only [Act.put, List.setIfInBounds_toArray, List.set_cons_zero, List.set_cons_succ]
              refine wpAnyH_ready (rs := [4, 6]) (by kernel_rfl) (by simp) ?_
              refine AllReadyH.cons (o := { dst := some 46, op := Op.call { callee := Callee.value (Operand.func 49), args := #[Operand.tmp 43, Operand.tmp 45], argTypes := #[3, 3] }, type := 3, pos := "l8_area.go:108", after := #[{ on := 1, ground := Ground.data }, { on := 3, ground := Ground.data }], guard := none }) rfl (fun K hK => ?_) (AllReadyH.cons (o := { dst := some 48, op := Op.load 3 (Operand.tmp 47), type := 3, pos := "l8_area.go:108", after := #[{ on := 5, ground := Ground.data }], guard := none }) rfl (fun K hK => ?_) AllReadyH.nil)
              · go_simp
                refine (most_c _ _ _).mono ?_
                rintro e w' ⟨rfl, rfl⟩
                go_wp2_with fail
                refine hK.out _ _ ?_ (fun hHeld => ?_)
                · exact ⟨K8, hbw⟩
                clear hK K
                try simp only [Act.put, List.setIfInBounds_toArray, List.set_cons_zero, List.set_cons_succ]
                refine wpAnyH_ready (rs := [6]) (by kernel_rfl) (by simp) ?_
                refine AllReadyH.cons (o := { dst := some 48, op := Op.load 3 (Operand.tmp 47), type := 3, pos := "l8_area.go:108", after := #[{ on := 5, ground := Ground.data }], guard := none }) rfl (fun K hK => ?_) AllReadyH.nil
                go_simp
                refine hK.out _ _ ?_ (fun hHeld => ?_)
                · exact ⟨K8, hbw⟩
                clear hK K
                try simp only [Act.put, List.setIfInBounds_toArray, List.set_cons_zero, List.set_cons_succ]
                refine wpAnyH_ready (rs := [9]) (by kernel_rfl) (by simp) ?_
                refine AllReadyH.cons (o := { dst := some 51, op := Op.call { callee := Callee.value (Operand.func 49), args := #[Operand.tmp 48, Operand.tmp 50], argTypes := #[3, 3] }, type := 3, pos := "l8_area.go:108", after := #[{ on := 6, ground := Ground.data }, { on := 8, ground := Ground.data }, { on := 4, ground := Ground.chain }], guard := none }) rfl (fun K hK => ?_) AllReadyH.nil
                go_simp
                refine (most_c _ _ _).mono ?_
                rintro e w' ⟨rfl, rfl⟩
                go_wp2_with fail
                refine hK.out _ _ ?_ (fun hHeld => ?_)
                · exact ⟨K8, hbw⟩
                clear hK K
                try simp only [Act.put, List.setIfInBounds_toArray, List.set_cons_zero, List.set_cons_succ]
                refine wpAnyH_take (i := 10) (oi := { dst := some 52, op := Op.build 26 #[(0, Operand.tmp 46), (1, Operand.tmp 51)], type := 26, pos := "l8_area.go:108", after := #[{ on := 4, ground := Ground.data }, { on := 9, ground := Ground.data }], guard := none }) (v := ?v36yx10u31) rfl (by kernel_rfl) (by kernel_rfl) (by kernel_rfl) (fun _ _ _ h => h) (Or.inl ⟨by rfl, ?hy36yx10u31⟩) (by with_reducible assumption) ?rest36yx10u31
                case hy36yx10u31 => (intro wS hSw; (try dsimp only at hSw); have z0 := hSw.1.c0; have z1 := hSw.1.c1; clear hSw; go_simp; try with_reducible rfl)
                case' rest36yx10u31 => (try simp only [Act.put, List.setIfInBounds_toArray, List.set_cons_zero, List.set_cons_succ])
                refine wpAnyH_ready (rs := [11]) (by kernel_rfl) (by simp) ?_
                refine AllReadyH.cons (o := { dst := none, op := Op.store 26 (Operand.tmp 6) (Operand.tmp 52), type := 0, pos := "l8_area.go:108", after := #[{ on := 10, ground := Ground.data }, { on := 9, ground := Ground.chain }, { on := 0, ground := Ground.phase }, { on := 1, ground := Ground.phase }, { on := 2, ground := Ground.phase }, { on := 3, ground := Ground.phase }, { on := 4, ground := Ground.phase }, { on := 5, ground := Ground.phase }, { on := 6, ground := Ground.phase }, { on := 7, ground := Ground.phase }, { on := 8, ground := Ground.phase }, { on := 9, ground := Ground.phase }, { on := 10, ground := Ground.phase }], guard := none }) rfl (fun K hK => ?_) AllReadyH.nil
                go_simp
                refine hK.out _ _ ?_ (fun hHeld => ?_)
                · exact ⟨(K8.other (B' := B6) (i := 0) (by omega) _).other (B' := B6) (i := 1) (by omega) _, (hbw.setCell (p := ⟨B6, 0, none⟩) (show _ ≤ B6 by omega) _).setCell (p := ⟨B6, 1, none⟩) (show _ ≤ B6 by omega) _⟩
                clear hHeld
                clear f60 f61 c60 c61
                replace hbw := (hbw.setCell (p := ⟨B6, 0, none⟩) (show _ ≤ B6 by omega) (.int .i64 (max gx x))).setCell (p := ⟨B6, 1, none⟩) (show _ ≤ B6 by omega) (.int .i64 (max gy y))
                replace K6 := K6.set (max gx x) (max gy y)
                replace K2 := (K2.other (B' := B6) (i := 0) (by omega) (.int .i64 (max gx x))).other (B' := B6) (i := 1) (by omega) (.int .i64 (max gy y))
                replace K3 := (K3.other (B' := B6) (i := 0) (by omega) (.int .i64 (max gx x))).other (B' := B6) (i := 1) (by omega) (.int .i64 (max gy y))
                replace K5 := (K5.other (B' := B6) (i := 0) (by omega) (.int .i64 (max gx x))).other (B' := B6) (i := 1) (by omega) (.int .i64 (max gy y))
                replace K8 := (K8.other (B' := B6) (i := 0) (by omega) (.int .i64 (max gx x))).other (B' := B6) (i := 1) (by omega) (.int .i64 (max gy y))
                generalize (wd8.setCell ⟨B6, 0, none⟩ (.int .i64 (max gx x))).setCell ⟨B6, 1, none⟩ (.int .i64 (max gy y)) = we8 at *
                have hHeld : BoxP we8 B8 (x, y) ∧ Below w.heap.size w we8 := ⟨K8, hbw⟩
                clear hK K
                try simp only [Act.put, List.setIfInBounds_toArray, List.set_cons_zero, List.set_cons_succ]
                refine wpAnyH_done (by kernel_rfl) ?_ _
                go_wp2
                go_roundw
                case rel => exact ⟨k + 1, by omega, by go_num, K2, K3, by rw [SL1.out]; exact K5, by rw [SH1.out]; exact K6, hbw⟩
                case measure => simp [intOf]; omega
              · go_simp
                refine hK.out _ _ ?_ (fun hHeld => ?_)
                · exact ⟨K8, hbw⟩
                clear hK K
                try simp only [Act.put, List.setIfInBounds_toArray, List.set_cons_zero, List.set_cons_succ]
                refine wpAnyH_ready (rs := [4]) (by kernel_rfl) (by simp) ?_
                refine AllReadyH.cons (o := { dst := some 46, op := Op.call { callee := Callee.value (Operand.func 49), args := #[Operand.tmp 43, Operand.tmp 45], argTypes := #[3, 3] }, type := 3, pos := "l8_area.go:108", after := #[{ on := 1, ground := Ground.data }, { on := 3, ground := Ground.data }], guard := none }) rfl (fun K hK => ?_) AllReadyH.nil
                go_simp
                refine (most_c _ _ _).mono ?_
                rintro e w' ⟨rfl, rfl⟩
                go_wp2_with fail
                refine hK.out _ _ ?_ (fun hHeld => ?_)
                · exact ⟨K8, hbw⟩
                clear hK K
                try simp only [Act.put, List.setIfInBounds_toArray, List.set_cons_zero, List.set_cons_succ]
                refine wpAnyH_ready (rs := [9]) (by kernel_rfl) (by simp) ?_
                refine AllReadyH.cons (o := { dst := some 51, op := Op.call { callee := Callee.value (Operand.func 49), args := #[Operand.tmp 48, Operand.tmp 50], argTypes := #[3, 3] }, type := 3, pos := "l8_area.go:108", after := #[{ on := 6, ground := Ground.data }, { on := 8, ground := Ground.data }, { on := 4, ground := Ground.chain }], guard := none }) rfl (fun K hK => ?_) AllReadyH.nil
                go_simp
                refine (most_c _ _ _).mono ?_
                rintro e w' ⟨rfl, rfl⟩
                go_wp2_with fail
                refine hK.out _ _ ?_ (fun hHeld => ?_)
                · exact ⟨K8, hbw⟩
                clear hK K
                try simp only [Act.put, List.setIfInBounds_toArray, List.set_cons_zero, List.set_cons_succ]
                refine wpAnyH_take (i := 10) (oi := { dst := some 52, op := Op.build 26 #[(0, Operand.tmp 46), (1, Operand.tmp 51)], type := 26, pos := "l8_area.go:108", after := #[{ on := 4, ground := Ground.data }, { on := 9, ground := Ground.data }], guard := none }) (v := ?v37yx10u32) rfl (by kernel_rfl) (by kernel_rfl) (by kernel_rfl) (fun _ _ _ h => h) (Or.inl ⟨by rfl, ?hy37yx10u32⟩) (by with_reducible assumption) ?rest37yx10u32
                case hy37yx10u32 => (intro wS hSw; (try dsimp only at hSw); have z0 := hSw.1.c0; have z1 := hSw.1.c1; clear hSw; go_simp; try with_reducible rfl)
                case' rest37yx10u32 => (try simp only [Act.put, List.setIfInBounds_toArray, List.set_cons_zero, List.set_cons_succ])
                refine wpAnyH_ready (rs := [11]) (by kernel_rfl) (by simp) ?_
                refine AllReadyH.cons (o := { dst := none, op := Op.store 26 (Operand.tmp 6) (Operand.tmp 52), type := 0, pos := "l8_area.go:108", after := #[{ on := 10, ground := Ground.data }, { on := 9, ground := Ground.chain }, { on := 0, ground := Ground.phase }, { on := 1, ground := Ground.phase }, { on := 2, ground := Ground.phase }, { on := 3, ground := Ground.phase }, { on := 4, ground := Ground.phase }, { on := 5, ground := Ground.phase }, { on := 6, ground := Ground.phase }, { on := 7, ground := Ground.phase }, { on := 8, ground := Ground.phase }, { on := 9, ground := Ground.phase }, { on := 10, ground := Ground.phase }], guard := none }) rfl (fun K hK => ?_) AllReadyH.nil
                go_simp
                refine hK.out _ _ ?_ (fun hHeld => ?_)
                · exact ⟨(K8.other (B' := B6) (i := 0) (by omega) _).other (B' := B6) (i := 1) (by omega) _, (hbw.setCell (p := ⟨B6, 0, none⟩) (show _ ≤ B6 by omega) _).setCell (p := ⟨B6, 1, none⟩) (show _ ≤ B6 by omega) _⟩
                clear hHeld
                clear f60 f61 c60 c61
                replace hbw := (hbw.setCell (p := ⟨B6, 0, none⟩) (show _ ≤ B6 by omega) (.int .i64 (max gx x))).setCell (p := ⟨B6, 1, none⟩) (show _ ≤ B6 by omega) (.int .i64 (max gy y))
                replace K6 := K6.set (max gx x) (max gy y)
                replace K2 := (K2.other (B' := B6) (i := 0) (by omega) (.int .i64 (max gx x))).other (B' := B6) (i := 1) (by omega) (.int .i64 (max gy y))
                replace K3 := (K3.other (B' := B6) (i := 0) (by omega) (.int .i64 (max gx x))).other (B' := B6) (i := 1) (by omega) (.int .i64 (max gy y))
                replace K5 := (K5.other (B' := B6) (i := 0) (by omega) (.int .i64 (max gx x))).other (B' := B6) (i := 1) (by omega) (.int .i64 (max gy y))
                replace K8 := (K8.other (B' := B6) (i := 0) (by omega) (.int .i64 (max gx x))).other (B' := B6) (i := 1) (by omega) (.int .i64 (max gy y))
                generalize (wd8.setCell ⟨B6, 0, none⟩ (.int .i64 (max gx x))).setCell ⟨B6, 1, none⟩ (.int .i64 (max gy y)) = we8 at *
                have hHeld : BoxP we8 B8 (x, y) ∧ Below w.heap.size w we8 := ⟨K8, hbw⟩
                clear hK K
                try simp only [Act.put, List.setIfInBounds_toArray, List.set_cons_zero, List.set_cons_succ]
                refine wpAnyH_done (by kernel_rfl) ?_ _
                go_wp2
                go_roundw
                case rel => exact ⟨k + 1, by omega, by go_num, K2, K3, by rw [SL1.out]; exact K5, by rw [SH1.out]; exact K6, hbw⟩
                case measure => simp [intOf]; omega
            · go_simp
              refine hK.out _ _ ?_ (fun hHeld => ?_)
              · exact ⟨K8, hbw⟩
              clear hK K
              try simp only [Act.put, List.setIfInBounds_toArray, List.set_cons_zero, List.set_cons_succ]
              refine wpAnyH_ready (rs := [1]) (by kernel_rfl) (by simp) ?_
              refine AllReadyH.cons (o := { dst := some 43, op := Op.load 3 (Operand.tmp 42), type := 3, pos := "l8_area.go:108", after := #[{ on := 0, ground := Ground.data }], guard := none }) rfl (fun K hK => ?_) AllReadyH.nil
              go_simp
              refine hK.out _ _ ?_ (fun hHeld => ?_)
              · exact ⟨K8, hbw⟩
              clear hK K
              try simp only [Act.put, List.setIfInBounds_toArray, List.set_cons_zero, List.set_cons_succ]
              refine wpAnyH_ready (rs := [4]) (by kernel_rfl) (by simp) ?_
              refine AllReadyH.cons (o := { dst := some 46, op := Op.call { callee := Callee.value (Operand.func 49), args := #[Operand.tmp 43, Operand.tmp 45], argTypes := #[3, 3] }, type := 3, pos := "l8_area.go:108", after := #[{ on := 1, ground := Ground.data }, { on := 3, ground := Ground.data }], guard := none }) rfl (fun K hK => ?_) AllReadyH.nil
              go_simp
              refine (most_c _ _ _).mono ?_
              rintro e w' ⟨rfl, rfl⟩
              go_wp2_with fail
              refine hK.out _ _ ?_ (fun hHeld => ?_)
              · exact ⟨K8, hbw⟩
              clear hK K
              try simp only [Act.put, List.setIfInBounds_toArray, List.set_cons_zero, List.set_cons_succ]
              refine wpAnyH_ready (rs := [9]) (by kernel_rfl) (by simp) ?_
              refine AllReadyH.cons (o := { dst := some 51, op := Op.call { callee := Callee.value (Operand.func 49), args := #[Operand.tmp 48, Operand.tmp 50], argTypes := #[3, 3] }, type := 3, pos := "l8_area.go:108", after := #[{ on := 6, ground := Ground.data }, { on := 8, ground := Ground.data }, { on := 4, ground := Ground.chain }], guard := none }) rfl (fun K hK => ?_) AllReadyH.nil
              go_simp
              refine (most_c _ _ _).mono ?_
              rintro e w' ⟨rfl, rfl⟩
              go_wp2_with fail
              refine hK.out _ _ ?_ (fun hHeld => ?_)
              · exact ⟨K8, hbw⟩
              clear hK K
              try simp only [Act.put, List.setIfInBounds_toArray, List.set_cons_zero, List.set_cons_succ]
              refine wpAnyH_take (i := 10) (oi := { dst := some 52, op := Op.build 26 #[(0, Operand.tmp 46), (1, Operand.tmp 51)], type := 26, pos := "l8_area.go:108", after := #[{ on := 4, ground := Ground.data }, { on := 9, ground := Ground.data }], guard := none }) (v := ?v38yx10u33) rfl (by kernel_rfl) (by kernel_rfl) (by kernel_rfl) (fun _ _ _ h => h) (Or.inl ⟨by rfl, ?hy38yx10u33⟩) (by with_reducible assumption) ?rest38yx10u33
              case hy38yx10u33 => (intro wS hSw; (try dsimp only at hSw); have z0 := hSw.1.c0; have z1 := hSw.1.c1; clear hSw; go_simp; try with_reducible rfl)
              case' rest38yx10u33 => (try simp only [Act.put, List.setIfInBounds_toArray, List.set_cons_zero, List.set_cons_succ])
              refine wpAnyH_ready (rs := [11]) (by kernel_rfl) (by simp) ?_
              refine AllReadyH.cons (o := { dst := none, op := Op.store 26 (Operand.tmp 6) (Operand.tmp 52), type := 0, pos := "l8_area.go:108", after := #[{ on := 10, ground := Ground.data }, { on := 9, ground := Ground.chain }, { on := 0, ground := Ground.phase }, { on := 1, ground := Ground.phase }, { on := 2, ground := Ground.phase }, { on := 3, ground := Ground.phase }, { on := 4, ground := Ground.phase }, { on := 5, ground := Ground.phase }, { on := 6, ground := Ground.phase }, { on := 7, ground := Ground.phase }, { on := 8, ground := Ground.phase }, { on := 9, ground := Ground.phase }, { on := 10, ground := Ground.phase }], guard := none }) rfl (fun K hK => ?_) AllReadyH.nil
              go_simp
              refine hK.out _ _ ?_ (fun hHeld => ?_)
              · exact ⟨(K8.other (B' := B6) (i := 0) (by omega) _).other (B' := B6) (i := 1) (by omega) _, (hbw.setCell (p := ⟨B6, 0, none⟩) (show _ ≤ B6 by omega) _).setCell (p := ⟨B6, 1, none⟩) (show _ ≤ B6 by omega) _⟩
              clear hHeld
              clear f60 f61 c60 c61
              replace hbw := (hbw.setCell (p := ⟨B6, 0, none⟩) (show _ ≤ B6 by omega) (.int .i64 (max gx x))).setCell (p := ⟨B6, 1, none⟩) (show _ ≤ B6 by omega) (.int .i64 (max gy y))
              replace K6 := K6.set (max gx x) (max gy y)
              replace K2 := (K2.other (B' := B6) (i := 0) (by omega) (.int .i64 (max gx x))).other (B' := B6) (i := 1) (by omega) (.int .i64 (max gy y))
              replace K3 := (K3.other (B' := B6) (i := 0) (by omega) (.int .i64 (max gx x))).other (B' := B6) (i := 1) (by omega) (.int .i64 (max gy y))
              replace K5 := (K5.other (B' := B6) (i := 0) (by omega) (.int .i64 (max gx x))).other (B' := B6) (i := 1) (by omega) (.int .i64 (max gy y))
              replace K8 := (K8.other (B' := B6) (i := 0) (by omega) (.int .i64 (max gx x))).other (B' := B6) (i := 1) (by omega) (.int .i64 (max gy y))
              generalize (wd8.setCell ⟨B6, 0, none⟩ (.int .i64 (max gx x))).setCell ⟨B6, 1, none⟩ (.int .i64 (max gy y)) = we8 at *
              have hHeld : BoxP we8 B8 (x, y) ∧ Below w.heap.size w we8 := ⟨K8, hbw⟩
              clear hK K
              try simp only [Act.put, List.setIfInBounds_toArray, List.set_cons_zero, List.set_cons_succ]
              refine wpAnyH_done (by kernel_rfl) ?_ _
              go_wp2
              go_roundw
              case rel => exact ⟨k + 1, by omega, by go_num, K2, K3, by rw [SL1.out]; exact K5, by rw [SH1.out]; exact K6, hbw⟩
              case measure => simp [intOf]; omega
        · obtain rfl : k = l.length := by omega
          have EL := hid (show bxL l = boxL l l.length by unfold bxL; rw [E, if_pos rfl])
          have EH := hid (show bxH l = boxH l l.length by unfold bxH; rw [E, if_pos rfl])
          generalize boxL l l.length = bl at K5 EL
          generalize boxH l l.length = bh at K6 EH
          go_upto_region 10 with fail
          refine wp_region_held_drew (S := (fun u => BoxP u B5 bl ∧ BoxP u B6 bh ∧ Below w.heap.size w u)) (by kernel_rfl) ?_ (fun hHeld => ?_)
          · exact ⟨K5.later (drewN_below 1 _), K6.later (drewN_below 1 _), grew hbw (drewN_below 1 _)⟩
          have hd : Below wr.heap.size wr wr.drew := (Below.refl _ _).drew
          replace K2 := K2.later hd
          replace K3 := K3.later hd
          replace K5 := K5.later hd
          replace K6 := K6.later hd
          replace hbw := grew hbw hd
          clear hd hHeld
          generalize wr.drew = wd at *
          have hHeld : BoxP wd B5 bl ∧ BoxP wd B6 bh ∧ Below w.heap.size w wd := ⟨K5, K6, hbw⟩
          refine wpAnyH_take (i := 0) (oi := { dst := some 54, op := Op.load 26 (Operand.tmp 5), type := 26, pos := "l8_area.go:110", after := #[], guard := none }) (v := ?v40yx0u34) rfl (by kernel_rfl) (by kernel_rfl) (by kernel_rfl) (fun _ _ _ h => h) (Or.inl ⟨by rfl, ?hy40yx0u34⟩) (by with_reducible assumption) ?rest40yx0u34
          case hy40yx0u34 => (intro wS hSw; (try dsimp only at hSw); have z0 := hSw.1.c0; have z1 := hSw.1.c1; have z2 := hSw.2.1.c0; have z3 := hSw.2.1.c1; clear hSw; go_simp; try with_reducible rfl)
          case' rest40yx0u34 => (try simp only [Act.put, List.setIfInBounds_toArray, List.set_cons_zero, List.set_cons_succ])
          refine wpAnyH_take (i := 1) (oi := { dst := some 55, op := Op.load 26 (Operand.tmp 6), type := 26, pos := "l8_area.go:110", after := #[{ on := 2, ground := Ground.gcOnly Departure.lateStores }], guard := none }) (v := ?v41yx1u35) rfl (by kernel_rfl) (by kernel_rfl) (by kernel_rfl) (fun _ _ _ h => h) (Or.inl ⟨by rfl, ?hy41yx1u35⟩) (by with_reducible assumption) ?rest41yx1u35
          case hy41yx1u35 => (intro wS hSw; (try dsimp only at hSw); have z0 := hSw.1.c0; have z1 := hSw.1.c1; have z2 := hSw.2.1.c0; have z3 := hSw.2.1.c1; clear hSw; go_simp; try with_reducible rfl)
          case' rest41yx1u35 => (try simp only [Act.put, List.setIfInBounds_toArray, List.set_cons_zero, List.set_cons_succ])
          refine wpAnyH_ready (rs := [2]) (by kernel_rfl) (by simp) ?_
          refine AllReadyH.cons (o := { dst := none, op := Op.store 26 (Operand.tmp 2) (Operand.tmp 54), type := 0, pos := "l8_area.go:110", after := #[{ on := 0, ground := Ground.data }, { on := 0, ground := Ground.phase }, { on := 1, ground := Ground.textOnly Departure.lateStores }], guard := none }) rfl (fun K hK => ?_) AllReadyH.nil
          have f20 := K2.f 0
          have f21 := K2.f 1
          have c20 := K2.c0
          have c21 := K2.c1
          go_simp
          refine hK.out _ _ ?_ (fun hHeld => ?_)
          · exact ⟨(K5.other (B' := B2) (i := 0) (by omega) _).other (B' := B2) (i := 1) (by omega) _, (K6.other (B' := B2) (i := 0) (by omega) _).other (B' := B2) (i := 1) (by omega) _, (hbw.setCell (p := ⟨B2, 0, none⟩) (show _ ≤ B2 by omega) _).setCell (p := ⟨B2, 1, none⟩) (show _ ≤ B2 by omega) _⟩
          clear hHeld
          clear f20 f21 c20 c21
          replace hbw := (hbw.setCell (p := ⟨B2, 0, none⟩) (show _ ≤ B2 by omega) (.int .i64 bl.1)).setCell (p := ⟨B2, 1, none⟩) (show _ ≤ B2 by omega) (.int .i64 bl.2)
          replace K2 := K2.set bl.1 bl.2
          replace K3 := (K3.other (B' := B2) (i := 0) (by omega) (.int .i64 bl.1)).other (B' := B2) (i := 1) (by omega) (.int .i64 bl.2)
          replace K5 := (K5.other (B' := B2) (i := 0) (by omega) (.int .i64 bl.1)).other (B' := B2) (i := 1) (by omega) (.int .i64 bl.2)
          replace K6 := (K6.other (B' := B2) (i := 0) (by omega) (.int .i64 bl.1)).other (B' := B2) (i := 1) (by omega) (.int .i64 bl.2)
          generalize (wd.setCell ⟨B2, 0, none⟩ (.int .i64 bl.1)).setCell ⟨B2, 1, none⟩ (.int .i64 bl.2) = we at *
          have hHeld : BoxP we B5 bl ∧ BoxP we B6 bh ∧ Below w.heap.size w we := ⟨K5, K6, hbw⟩
          clear hK K
          try simp only [Act.put, List.setIfInBounds_toArray, List.set_cons_zero, List.set_cons_succ]
          refine wpAnyH_ready (rs := [3]) (by kernel_rfl) (by simp) ?_
          refine AllReadyH.cons (o := { dst := none, op := Op.store 26 (Operand.tmp 3) (Operand.tmp 55), type := 0, pos := "l8_area.go:110", after := #[{ on := 1, ground := Ground.data }, { on := 2, ground := Ground.chain }, { on := 0, ground := Ground.phase }, { on := 1, ground := Ground.phase }, { on := 2, ground := Ground.phase }], guard := none }) rfl (fun K hK => ?_) AllReadyH.nil
          have f30 := K3.f 0
          have f31 := K3.f 1
          have c30 := K3.c0
          have c31 := K3.c1
          go_simp
          refine hK.out _ _ ?_ (fun hHeld => ?_)
          · exact ⟨(K5.other (B' := B3) (i := 0) (by omega) _).other (B' := B3) (i := 1) (by omega) _, (K6.other (B' := B3) (i := 0) (by omega) _).other (B' := B3) (i := 1) (by omega) _, (hbw.setCell (p := ⟨B3, 0, none⟩) (show _ ≤ B3 by omega) _).setCell (p := ⟨B3, 1, none⟩) (show _ ≤ B3 by omega) _⟩
          clear hHeld
          clear f30 f31 c30 c31
          replace hbw := (hbw.setCell (p := ⟨B3, 0, none⟩) (show _ ≤ B3 by omega) (.int .i64 bh.1)).setCell (p := ⟨B3, 1, none⟩) (show _ ≤ B3 by omega) (.int .i64 bh.2)
          replace K3 := K3.set bh.1 bh.2
          replace K2 := (K2.other (B' := B3) (i := 0) (by omega) (.int .i64 bh.1)).other (B' := B3) (i := 1) (by omega) (.int .i64 bh.2)
          replace K5 := (K5.other (B' := B3) (i := 0) (by omega) (.int .i64 bh.1)).other (B' := B3) (i := 1) (by omega) (.int .i64 bh.2)
          replace K6 := (K6.other (B' := B3) (i := 0) (by omega) (.int .i64 bh.1)).other (B' := B3) (i := 1) (by omega) (.int .i64 bh.2)
          generalize (we.setCell ⟨B3, 0, none⟩ (.int .i64 bh.1)).setCell ⟨B3, 1, none⟩ (.int .i64 bh.2) = wf at *
          have hHeld : BoxP wf B5 bl ∧ BoxP wf B6 bh ∧ Below w.heap.size w wf := ⟨K5, K6, hbw⟩
          clear hK K
          try simp only [Act.put, List.setIfInBounds_toArray, List.set_cons_zero, List.set_cons_succ]
          refine wpAnyH_take (i := 4) (oi := { dst := some 4, op := Op.assign (Operand.const (Value.bool true)), type := 4, pos := "l8_area.go:110", after := #[{ on := 3, ground := Ground.chain }, { on := 0, ground := Ground.phase }, { on := 1, ground := Ground.phase }, { on := 2, ground := Ground.phase }, { on := 3, ground := Ground.phase }], guard := none }) (v := ?v42yx4u36) rfl (by kernel_rfl) (by kernel_rfl) (by kernel_rfl) (fun _ _ _ h => h) (Or.inl ⟨by rfl, ?hy42yx4u36⟩) (by with_reducible assumption) ?rest42yx4u36
          case hy42yx4u36 => (intro wS hSw; (try dsimp only at hSw); have z0 := hSw.1.c0; have z1 := hSw.1.c1; have z2 := hSw.2.1.c0; have z3 := hSw.2.1.c1; clear hSw; go_simp; try with_reducible rfl)
          case' rest42yx4u36 => (try simp only [Act.put, List.setIfInBounds_toArray, List.set_cons_zero, List.set_cons_succ])
          refine wpAnyH_done (by kernel_rfl) ?_ _
          go_wp2
          have c20 := K2.c0
          have c21 := K2.c1
          have c30 := K3.c0
          have c31 := K3.c1
          refine bodyPost_ret (v := .tuple #[.agg #[.int .i64 bl.1, .int .i64 bl.2], .agg #[.int .i64 bh.1, .int .i64 bh.2], .bool true]) (by simp [results, Tryd.results19, go_sem, c20, c21, c30, c31]) rfl ?_
          exact ⟨ret_box (a := (bl.1, bl.2)) (c := (bh.1, bh.2)) EL.out.symm EH.out.symm (by first | rfl | exact E.symm), hbw⟩
end Go.Proofs.YtohcllojjmhbcaaDoor
