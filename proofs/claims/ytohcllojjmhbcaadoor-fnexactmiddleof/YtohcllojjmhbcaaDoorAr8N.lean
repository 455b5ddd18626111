/-
  The middle of a hull, as the specification reckons it (contracts for the walks).
  Conditions: as each theorem states them.
-/
import Derived.Test.YtohcllojjmhbcaaDoorAr8D
import Derived.Test.YtohcllojjmhbcaaDoorAr8S
import Derived.Test.YtohcllojjmhbcaaDoorHBeyond
import Derived.Test.YtohcllojjmhbcaaDoorHConv
namespace Go.Proofs.YtohcllojjmhbcaaDoor
open Go.RowKit Go.Shelf
set_option linter.unusedVariables false
set_option maxRecDepth 8000
def mdOk (l : List (Int × Int)) : Bool := shB l && decide (3 ≤ l.length)
def mdV (l : List (Int × Int)) : Int × Int := if mdOk l = true then midT l (l.length - 2) else (0, 0)
def mdN (l : List (Int × Int)) : Int := if mdOk l = true then 3 * area8 l else 0
theorem ret_mid {a b : Int × Int} {c d : Int} {x y : Bool} (h : a = b) (k : c = d) (e : x = y) : Ending.returned (.tuple #[.agg #[.int .i64 a.1, .int .i64 a.2], .int .i64 c, .bool x]) = .returned (.tuple #[.agg #[.int .i64 b.1, .int .i64 b.2], .int .i64 d, .bool y]) := by rw [h, k, e]
theorem shB_sp {l : List (Int × Int)} (h : shB l = true) : ∀ p, p ∈ l → sp8 p := by
  unfold shB at h
  rw [Bool.and_eq_true] at h
  intro p hp
  obtain ⟨i, hi, rfl⟩ := mem_pt hp
  exact (allSm_iff l).1 h.1 i hi
set_option maxHeartbeats 8000000 in
theorem middleSpec_c (l : List (Int × Int)) (a : Option Addr) (len cap : Nat) (w : World) (hl : l.length = len) (h1 : len ≤ 1048576) (hA : At w.heap.size a l w) :
    Calls Tryd.prog 22 #[.slice a len cap] w fun e w' => e = .returned (.tuple #[.agg #[.int .i64 (mdV l).1, .int .i64 (mdV l).2], .int .i64 (mdN l), .bool (mdOk l)]) ∧ Below w.heap.size w w' := by
  subst hl
  have HA := hid hA
  clear hA
  have hb0 : Below w.heap.size w (w.alloc (.cells #[.int .i64 0, .int .i64 0] 26)) := by go_grown
  have K2 : BoxP (w.alloc (.cells #[.int .i64 0, .int .i64 0] 26)) w.heap.size (0, 0) := BoxP.new w 0 0
  cases hS : shB l
  · have E : mdOk l = false := by unfold mdOk; rw [hS]; rfl
    go_enter Tryd.func22, Tryd.ntmps22
    go_upto_region 1 with fail
    generalize (w.alloc (.cells #[.int .i64 0, .int .i64 0] 26)) = w0 at *
    go_upto_region 2 with (go_at_call 55; refine (smallSpec_c l _ _ _ _ rfl h1 ((HA.out.later hb0).mono hb0.size)).mono ?_; rw [hS]; rintro e w1 ⟨rfl, hb1⟩; replace K2 := K2.later hb1; have hbw := grew hb0 hb1; clear hb1)
    obtain ⟨B2, hB2⟩ : ∃ b, w.heap.size = b := ⟨_, rfl⟩
    rw [hB2] at K2 hbw ⊢
    have f20 := K2.f 0
    have f21 := K2.f 1
    have c20 := K2.c0
    have c21 := K2.c1
    go_wp2
    clear f20 f21 c20 c21
    replace hbw := (hbw.setCell (p := ⟨B2, 0, none⟩) (Nat.le_refl _) (.int .i64 0)).setCell (p := ⟨B2, 1, none⟩) (Nat.le_refl _) (.int .i64 0)
    replace K2 := K2.set 0 0
    generalize (w1.setCell ⟨B2, 0, none⟩ (.int .i64 0)).setCell ⟨B2, 1, none⟩ (.int .i64 0) = w2 at *
    have c20 := K2.c0
    have c21 := K2.c1
    refine bodyPost_ret (v := .tuple #[.agg #[.int .i64 0, .int .i64 0], .int .i64 0, .bool false]) (by simp [results, Tryd.results22, go_sem, c20, c21]) rfl ?_
    exact ⟨ret_mid (a := (0, 0)) (by unfold mdV; rw [E]; rfl) (by unfold mdN; rw [E]; rfl) (by first | rfl | exact E.symm), by first | exact hbw | (rw [hB2]; exact hbw) | (rw [← hB2] at hbw; exact hbw) | (rw [hB2] at hbw; exact hbw)⟩

  by_cases h3 : (l.length : Int) < 3
  · have E : mdOk l = false := by unfold mdOk; rw [hS, decide_eq_false (by omega)]; rfl
    go_enter Tryd.func22, Tryd.ntmps22
    go_upto_region 1 with fail
    generalize (w.alloc (.cells #[.int .i64 0, .int .i64 0] 26)) = w0 at *
    go_upto_region 2 with (go_at_call 55; refine (smallSpec_c l _ _ _ _ rfl h1 ((HA.out.later hb0).mono hb0.size)).mono ?_; rw [hS]; rintro e w1 ⟨rfl, hb1⟩; replace K2 := K2.later hb1; have hbw := grew hb0 hb1; clear hb1)
    obtain ⟨B2, hB2⟩ : ∃ b, w.heap.size = b := ⟨_, rfl⟩
    rw [hB2] at K2 hbw ⊢
    have f20 := K2.f 0
    have f21 := K2.f 1
    have c20 := K2.c0
    have c21 := K2.c1
    go_wp2
    clear f20 f21 c20 c21
    replace hbw := (hbw.setCell (p := ⟨B2, 0, none⟩) (Nat.le_refl _) (.int .i64 0)).setCell (p := ⟨B2, 1, none⟩) (Nat.le_refl _) (.int .i64 0)
    replace K2 := K2.set 0 0
    generalize (w1.setCell ⟨B2, 0, none⟩ (.int .i64 0)).setCell ⟨B2, 1, none⟩ (.int .i64 0) = w2 at *
    have c20 := K2.c0
    have c21 := K2.c1
    refine bodyPost_ret (v := .tuple #[.agg #[.int .i64 0, .int .i64 0], .int .i64 0, .bool false]) (by simp [results, Tryd.results22, go_sem, c20, c21]) rfl ?_
    exact ⟨ret_mid (a := (0, 0)) (by unfold mdV; rw [E]; rfl) (by unfold mdN; rw [E]; rfl) (by first | rfl | exact E.symm), by first | exact hbw | (rw [hB2]; exact hbw) | (rw [← hB2] at hbw; exact hbw) | (rw [hB2] at hbw; exact hbw)⟩

  · have E : mdOk l = true := by unfold mdOk; rw [hS, decide_eq_true (by omega)]; rfl
    have HG := hid (ghB_all (shB_gh hS))
    have HP := hid (shB_sp hS)
    have H60 := hid (ghB_len (shB_gh hS))
    go_enter Tryd.func22, Tryd.ntmps22
    go_upto_region 1 with fail
    generalize (w.alloc (.cells #[.int .i64 0, .int .i64 0] 26)) = w0 at *
    go_upto_region 4 with (go_at_call 55; refine (smallSpec_c l _ _ _ _ rfl h1 ((HA.out.later hb0).mono hb0.size)).mono ?_; rw [hS]; rintro e w1 ⟨rfl, hb1⟩; replace K2 := K2.later hb1; have hbw := grew hb0 hb1; clear hb1)
    have h3' : 3 ≤ l.length := by omega
    have K5 := BoxP.new w1 0 0
    have hbA : Below w1.heap.size w1 (w1.alloc (.cells #[.int .i64 0, .int .i64 0] 26)) := by go_grown
    have hlt5 : w.heap.size < w1.heap.size := K2.lt
    replace K2 := K2.later hbA
    replace hbw := grew hbw hbA
    obtain ⟨B2, hB2⟩ : ∃ b, w.heap.size = b := ⟨_, rfl⟩
    rw [hB2] at K2 hlt5 ⊢
    generalize w1.alloc (.cells #[.int .i64 0, .int .i64 0] 26) = w1' at *
    generalize w1.heap.size = B5 at *
    clear hbA h3
    go_wp2
    go_loopw [6] (fun i wr => ∃ k : Nat, 1 ≤ k ∧ (k = 1 ∨ k + 1 ≤ l.length) ∧ i = .int .i64 (k : Int) ∧ BoxP wr B2 (0, 0) ∧ BoxP wr B5 (midT l (k - 1)) ∧ Below w.heap.size w wr) (fun i _ => l.length - (intOf i).toNat)
    case atStart => exact ⟨1, Nat.le_refl _, .inl rfl, rfl, K2, K5, hbw⟩
    case round =>
      clear K2 K5 hbw
      obtain ⟨k, hk1, hk, rfl, K2, K5, hbw⟩ := hrel
      by_cases hkl : k + 1 < l.length
      · obtain ⟨b, off, rfl, hbN, g0, g1⟩ := HA.out 0 (by omega)
        obtain ⟨b1, off1, e1, _, g2, g3⟩ := HA.out k (by omega)
        obtain ⟨b2, off2, e2, _, g4, g5⟩ := HA.out (k + 1) (by omega)
        obtain ⟨rfl, rfl⟩ : b = b1 ∧ off = off1 := by simpa using e1
        obtain ⟨rfl, rfl⟩ : b = b2 ∧ off = off2 := by simpa using e2
        clear e1 e2
        simp only [Nat.zero_mul, Nat.add_zero] at g0 g1
        have p0 := HP.out _ (pt_mem (l := l) (i := 0) (by omega))
        have p1 := HP.out _ (pt_mem (l := l) (i := k) (by omega))
        have p2 := HP.out _ (pt_mem (l := l) (i := k + 1) (by omega))
        have ht := sd_tiny p0 p1 p2
        have hm := midT_small HP.out (k - 1) (by omega)
        have hw := wgt_tiny p0 p1 p2
        have HE := hid (crossW_eq (HG.out _ (pt_mem (l := l) (i := 0) (by omega))) (HG.out _ (pt_mem (l := l) (i := k) (by omega))) (HG.out _ (pt_mem (l := l) (i := k + 1) (by omega))))
        have HT : midT l k = ((midT l (k - 1)).1 + (wgt (pt l 0) (pt l k) (pt l (k + 1))).1, (midT l (k - 1)).2 + (wgt (pt l 0) (pt l k) (pt l (k + 1))).2) := by
          obtain ⟨j, rfl⟩ : ∃ j, k = j + 1 := ⟨k - 1, by omega⟩
          rfl
        unfold wgt at HT hw
        have r0 := smB_r p0
        have r1 := smB_r p1
        have r2 := smB_r p2
        generalize sd (pt l 0) (pt l k) (pt l (k + 1)) = NN at ht hw HE HT
        simp only [pt] at r0 r1 r2 hw HE HT
        obtain ⟨x0, hx0⟩ : ∃ x, px l 0 = x := ⟨_, rfl⟩
        obtain ⟨y0, hy0⟩ : ∃ x, py l 0 = x := ⟨_, rfl⟩
        obtain ⟨x1, hx1⟩ : ∃ x, px l k = x := ⟨_, rfl⟩
        obtain ⟨y1, hy1⟩ : ∃ x, py l k = x := ⟨_, rfl⟩
        obtain ⟨x2, hx2⟩ : ∃ x, px l (k + 1) = x := ⟨_, rfl⟩
        obtain ⟨y2, hy2⟩ : ∃ x, py l (k + 1) = x := ⟨_, rfl⟩
        simp only [hx0, hy0, hx1, hy1, hx2, hy2] at r0 r1 r2 hw HT g0 g1 g2 g3 g4 g5
        rw [hx0, hy0, hx1, hy1, hx2, hy2] at HE
        clear hx0 hy0 hx1 hy1 hx2 hy2 p0 p1 p2
        generalize midT l (k - 1) = bm at K5 hm HT
        obtain ⟨mx, my⟩ := bm
        simp only at hm HT
        have a1 : IntKind.i64.wrap (x0 + x1) = x0 + x1 := by rw [IntKind.wrap_i64]; omega
        have a2 : IntKind.i64.wrap (x0 + x1 + x2) = x0 + x1 + x2 := by rw [IntKind.wrap_i64]; omega
        have b1 : IntKind.i64.wrap (y0 + y1) = y0 + y1 := by rw [IntKind.wrap_i64]; omega
        have b2 : IntKind.i64.wrap (y0 + y1 + y2) = y0 + y1 + y2 := by rw [IntKind.wrap_i64]; omega
        obtain ⟨NX, hNX⟩ : ∃ x, NN * (x0 + x1 + x2) = x := ⟨_, rfl⟩
        obtain ⟨NY, hNY⟩ : ∃ x, NN * (y0 + y1 + y2) = x := ⟨_, rfl⟩
        rw [hNX, hNY] at hw HT
        have a3 : IntKind.i64.wrap (NN * (x0 + x1 + x2)) = NX := by rw [hNX, IntKind.wrap_i64]; omega
        have b3 : IntKind.i64.wrap (NN * (y0 + y1 + y2)) = NY := by rw [hNY, IntKind.wrap_i64]; omega
        have a4 : IntKind.i64.wrap (mx + NX) = mx + NX := by rw [IntKind.wrap_i64]; omega
        have b4 : IntKind.i64.wrap (my + NY) = my + NY := by rw [IntKind.wrap_i64]; omega
        replace HT := hid HT
        clear hNX hNY hm hw ht r0 r1 r2
        obtain ⟨m, hm⟩ : ∃ m, k + 1 = m := ⟨_, rfl⟩
        have hc : (k : Int) + 1 = (m : Int) := by omega
        have hwm : IntKind.i64.wrap (m : Int) = (m : Int) := by rw [IntKind.wrap_i64]; have := H60.out; omega
        rw [hm] at g4 g5 hkl
        have m0 : (0 : Int) ≤ (m : Int) := by omega
        have m1 : (m : Int) < (l.length : Int) := by omega
        have k0 : (0 : Int) ≤ (k : Int) := by omega
        have k1 : (k : Int) < (l.length : Int) := by omega
        have n0 : 0 < l.length := by omega
        clear hm
        have q0 := cell_later hbw g0
        have q1 := cell_later hbw g1
        have q2 := cell_later hbw g2
        have q3 := cell_later hbw g3
        have q4 := cell_later hbw g4
        have q5 := cell_later hbw g5
        go_upto_region 7 with fail
        refine wp_region_held_drew (S := (fun u => Below wr.heap.size wr u)) (by kernel_rfl) ?_ (fun hHeld => ?_)
        · exact (Below.refl _ _).drew
        refine wpAnyH_take (i := 0) (oi := { dst := some 24, op := Op.move (Operand.tmp 0), type := 24, pos := "l8_area.go:119", after := #[], guard := none }) (v := ?v2yx0u1) rfl (by kernel_rfl) (by kernel_rfl) (by kernel_rfl) (fun _ _ _ h => h) (Or.inl ⟨by rfl, ?hy2yx0u1⟩) (by with_reducible assumption) ?rest2yx0u1
        case hy2yx0u1 => (intro wS hSw; (try dsimp only at hSw); have z0 := cell_later hSw q0; have z1 := cell_later hSw q1; have z2 := cell_later hSw q2; have z3 := cell_later hSw q3; have z4 := cell_later hSw q4; have z5 := cell_later hSw q5; clear hSw; go_simp; try with_reducible rfl)
        case' rest2yx0u1 => (try simp only [Act.put, List.setIfInBounds_toArray, List.set_cons_zero, List.set_cons_succ])
        refine wpAnyH_take (i := 1) (oi := { dst := some 25, op := Op.indexAddr 24 (Operand.tmp 24) (Operand.const (Value.int IntKind.i64 0)), type := 0, pos := "l8_area.go:119", after := #[{ on := 0, ground := Ground.data }], guard := none }) (v := ?v3yx1u2) rfl (by kernel_rfl) (by kernel_rfl) (by kernel_rfl) (fun _ _ _ h => h) (Or.inl ⟨by rfl, ?hy3yx1u2⟩) (by with_reducible assumption) ?rest3yx1u2
        case hy3yx1u2 => (intro wS hSw; (try dsimp only at hSw); have z0 := cell_later hSw q0; have z1 := cell_later hSw q1; have z2 := cell_later hSw q2; have z3 := cell_later hSw q3; have z4 := cell_later hSw q4; have z5 := cell_later hSw q5; clear hSw; go_simp; try with_reducible rfl)
        case' rest3yx1u2 => (try simp only [Act.put, List.setIfInBounds_toArray, List.set_cons_zero, List.set_cons_succ])
        refine wpAnyH_take (i := 2) (oi := { dst := some 26, op := Op.load 26 (Operand.tmp 25), type := 26, pos := "l8_area.go:119", after := #[{ on := 1, ground := Ground.data }], guard := none }) (v := ?v4yx2u3) rfl (by kernel_rfl) (by kernel_rfl) (by kernel_rfl) (fun _ _ _ h => h) (Or.inl ⟨by rfl, ?hy4yx2u3⟩) (by with_reducible assumption) ?rest4yx2u3
        case hy4yx2u3 => (intro wS hSw; (try dsimp only at hSw); have z0 := cell_later hSw q0; have z1 := cell_later hSw q1; have z2 := cell_later hSw q2; have z3 := cell_later hSw q3; have z4 := cell_later hSw q4; have z5 := cell_later hSw q5; clear hSw; go_simp; try with_reducible rfl)
        case' rest4yx2u3 => (try simp only [Act.put, List.setIfInBounds_toArray, List.set_cons_zero, List.set_cons_succ])
        refine wpAnyH_take (i := 3) (oi := { dst := some 27, op := Op.move (Operand.tmp 0), type := 24, pos := "l8_area.go:119", after := #[], guard := none }) (v := ?v5yx3u4) rfl (by kernel_rfl) (by kernel_rfl) (by kernel_rfl) (fun _ _ _ h => h) (Or.inl ⟨by rfl, ?hy5yx3u4⟩) (by with_reducible assumption) ?rest5yx3u4
        case hy5yx3u4 => (intro wS hSw; (try dsimp only at hSw); have z0 := cell_later hSw q0; have z1 := cell_later hSw q1; have z2 := cell_later hSw q2; have z3 := cell_later hSw q3; have z4 := cell_later hSw q4; have z5 := cell_later hSw q5; clear hSw; go_simp; try with_reducible rfl)
        case' rest5yx3u4 => (try simp only [Act.put, List.setIfInBounds_toArray, List.set_cons_zero, List.set_cons_succ])
        refine wpAnyH_take (i := 4) (oi := { dst := some 28, op := Op.move (Operand.tmp 6), type := 3, pos := "l8_area.go:119", after := #[], guard := none }) (v := ?v6yx4u5) rfl (by kernel_rfl) (by kernel_rfl) (by kernel_rfl) (fun _ _ _ h => h) (Or.inl ⟨by rfl, ?hy6yx4u5⟩) (by with_reducible assumption) ?rest6yx4u5
        case hy6yx4u5 => (intro wS hSw; (try dsimp only at hSw); have z0 := cell_later hSw q0; have z1 := cell_later hSw q1; have z2 := cell_later hSw q2; have z3 := cell_later hSw q3; have z4 := cell_later hSw q4; have z5 := cell_later hSw q5; clear hSw; go_simp; try with_reducible rfl)
        case' rest6yx4u5 => (try simp only [Act.put, List.setIfInBounds_toArray, List.set_cons_zero, List.set_cons_succ])
        refine wpAnyH_take (i := 5) (oi := { dst := some 29, op := Op.indexAddr 24 (Operand.tmp 27) (Operand.tmp 28), type := 0, pos := "l8_area.go:119", after := #[{ on := 3, ground := Ground.data }, { on := 4, ground := Ground.data }], guard := none }) (v := ?v7yx5u6) rfl (by kernel_rfl) (by kernel_rfl) (by kernel_rfl) (fun _ _ _ h => h) (Or.inl ⟨by rfl, ?hy7yx5u6⟩) (by with_reducible assumption) ?rest7yx5u6
        case hy7yx5u6 => (intro wS hSw; (try dsimp only at hSw); have z0 := cell_later hSw q0; have z1 := cell_later hSw q1; have z2 := cell_later hSw q2; have z3 := cell_later hSw q3; have z4 := cell_later hSw q4; have z5 := cell_later hSw q5; clear hSw; go_simp; try with_reducible rfl)
        case' rest7yx5u6 => (try simp only [Act.put, List.setIfInBounds_toArray, List.set_cons_zero, List.set_cons_succ])
        refine wpAnyH_take (i := 6) (oi := { dst := some 30, op := Op.load 26 (Operand.tmp 29), type := 26, pos := "l8_area.go:119", after := #[{ on := 5, ground := Ground.data }], guard := none }) (v := ?v8yx6u7) rfl (by kernel_rfl) (by kernel_rfl) (by kernel_rfl) (fun _ _ _ h => h) (Or.inl ⟨by rfl, ?hy8yx6u7⟩) (by with_reducible assumption) ?rest8yx6u7
        case hy8yx6u7 => (intro wS hSw; (try dsimp only at hSw); have z0 := cell_later hSw q0; have z1 := cell_later hSw q1; have z2 := cell_later hSw q2; have z3 := cell_later hSw q3; have z4 := cell_later hSw q4; have z5 := cell_later hSw q5; clear hSw; go_simp; try with_reducible rfl)
        case' rest8yx6u7 => (try simp only [Act.put, List.setIfInBounds_toArray, List.set_cons_zero, List.set_cons_succ])
        refine wpAnyH_take (i := 7) (oi := { dst := some 31, op := Op.move (Operand.tmp 0), type := 24, pos := "l8_area.go:119", after := #[], guard := none }) (v := ?v9yx7u8) rfl (by kernel_rfl) (by kernel_rfl) (by kernel_rfl) (fun _ _ _ h => h) (Or.inl ⟨by rfl, ?hy9yx7u8⟩) (by with_reducible assumption) ?rest9yx7u8
        case hy9yx7u8 => (intro wS hSw; (try dsimp only at hSw); have z0 := cell_later hSw q0; have z1 := cell_later hSw q1; have z2 := cell_later hSw q2; have z3 := cell_later hSw q3; have z4 := cell_later hSw q4; have z5 := cell_later hSw q5; clear hSw; go_simp; try with_reducible rfl)
        case' rest9yx7u8 => (try simp only [Act.put, List.setIfInBounds_toArray, List.set_cons_zero, List.set_cons_succ])
        refine wpAnyH_take (i := 8) (oi := { dst := some 32, op := Op.move (Operand.tmp 6), type := 3, pos := "l8_area.go:119", after := #[], guard := none }) (v := ?v10yx8u9) rfl (by kernel_rfl) (by kernel_rfl) (by kernel_rfl) (fun _ _ _ h => h) (Or.inl ⟨by rfl, ?hy10yx8u9⟩) (by with_reducible assumption) ?rest10yx8u9
        case hy10yx8u9 => (intro wS hSw; (try dsimp only at hSw); have z0 := cell_later hSw q0; have z1 := cell_later hSw q1; have z2 := cell_later hSw q2; have z3 := cell_later hSw q3; have z4 := cell_later hSw q4; have z5 := cell_later hSw q5; clear hSw; go_simp; try with_reducible rfl)
        case' rest10yx8u9 => (try simp only [Act.put, List.setIfInBounds_toArray, List.set_cons_zero, List.set_cons_succ])
        refine wpAnyH_take (i := 9) (oi := { dst := some 33, op := Op.binOp BinOp.add 3 (Operand.tmp 32) (Operand.const (Value.int IntKind.i64 1)) 3, type := 3, pos := "l8_area.go:119", after := #[{ on := 8, ground := Ground.data }], guard := none }) (v := ?v11yx9u10) rfl (by kernel_rfl) (by kernel_rfl) (by kernel_rfl) (fun _ _ _ h => h) (Or.inl ⟨by rfl, ?hy11yx9u10⟩) (by with_reducible assumption) ?rest11yx9u10
        case hy11yx9u10 => (intro wS hSw; (try dsimp only at hSw); have z0 := cell_later hSw q0; have z1 := cell_later hSw q1; have z2 := cell_later hSw q2; have z3 := cell_later hSw q3; have z4 := cell_later hSw q4; have z5 := cell_later hSw q5; clear hSw; go_simp; try with_reducible rfl)
        case' rest11yx9u10 => (try simp only [Act.put, List.setIfInBounds_toArray, List.set_cons_zero, List.set_cons_succ])
        refine wpAnyH_take (i := 10) (oi := { dst := some 34, op := Op.indexAddr 24 (Operand.tmp 31) (Operand.tmp 33), type := 0, pos := "l8_area.go:119", after := #[{ on := 7, ground := Ground.data }, { on := 9, ground := Ground.data }], guard := none }) (v := ?v12yx10u11) rfl (by kernel_rfl) (by kernel_rfl) (by kernel_rfl) (fun _ _ _ h => h) (Or.inl ⟨by rfl, ?hy12yx10u11⟩) (by with_reducible assumption) ?rest12yx10u11
        case hy12yx10u11 => (intro wS hSw; (try dsimp only at hSw); have z0 := cell_later hSw q0; have z1 := cell_later hSw q1; have z2 := cell_later hSw q2; have z3 := cell_later hSw q3; have z4 := cell_later hSw q4; have z5 := cell_later hSw q5; clear hSw; go_simp; try with_reducible rfl)
        case' rest12yx10u11 => (try simp only [Act.put, List.setIfInBounds_toArray, List.set_cons_zero, List.set_cons_succ])
        refine wpAnyH_take (i := 11) (oi := { dst := some 35, op := Op.load 26 (Operand.tmp 34), type := 26, pos := "l8_area.go:119", after := #[{ on := 10, ground := Ground.data }], guard := none }) (v := ?v13yx11u12) rfl (by kernel_rfl) (by kernel_rfl) (by kernel_rfl) (fun _ _ _ h => h) (Or.inl ⟨by rfl, ?hy13yx11u12⟩) (by with_reducible assumption) ?rest13yx11u12
        case hy13yx11u12 => (intro wS hSw; (try dsimp only at hSw); have z0 := cell_later hSw q0; have z1 := cell_later hSw q1; have z2 := cell_later hSw q2; have z3 := cell_later hSw q3; have z4 := cell_later hSw q4; have z5 := cell_later hSw q5; clear hSw; go_simp; try with_reducible rfl)
        case' rest13yx11u12 => (try simp only [Act.put, List.setIfInBounds_toArray, List.set_cons_zero, List.set_cons_succ])
        refine wpAnyH_ready (rs := [12]) (by kernel_rfl) (by simp) ?_
        refine AllReadyH.cons (o := { dst := some 36, op := Op.call { callee := Callee.value (Operand.func 56), args := #[Operand.tmp 26, Operand.tmp 30, Operand.tmp 35], argTypes := #[26, 26, 26] }, type := 3, pos := "l8_area.go:119", after := #[{ on := 2, ground := Ground.data }, { on := 6, ground := Ground.data }, { on := 11, ground := Ground.data }], guard := none }) rfl (fun K hK => ?_) AllReadyH.nil
        go_simp
        refine (cross_c _ _ _ _ _ _ _).mono ?_
        rw [HE.out]
        rintro e w2 ⟨rfl, hb2⟩
        go_wp2_with fail
        refine hK.out _ _ ?_ (fun hHeld => ?_)
        · exact grew (by with_reducible assumption) hb2
        clear hK K
        try simp only [Act.put, List.setIfInBounds_toArray, List.set_cons_zero, List.set_cons_succ]
        refine wpAnyH_take (i := 13) (oi := { dst := some 7, op := Op.assign (Operand.tmp 36), type := 3, pos := "l8_area.go:119", after := #[{ on := 12, ground := Ground.data }, { on := 12, ground := Ground.chain }, { on := 0, ground := Ground.phase }, { on := 1, ground := Ground.phase }, { on := 2, ground := Ground.phase }, { on := 3, ground := Ground.phase }, { on := 4, ground := Ground.phase }, { on := 5, ground := Ground.phase }, { on := 6, ground := Ground.phase }, { on := 7, ground := Ground.phase }, { on := 8, ground := Ground.phase }, { on := 9, ground := Ground.phase }, { on := 10, ground := Ground.phase }, { on := 11, ground := Ground.phase }, { on := 12, ground := Ground.phase }], guard := none }) (v := ?v14yx13u13) rfl (by kernel_rfl) (by kernel_rfl) (by kernel_rfl) (fun _ _ _ h => h) (Or.inl ⟨by rfl, ?hy14yx13u13⟩) (by with_reducible assumption) ?rest14yx13u13
        case hy14yx13u13 => (intro wS hSw; (try dsimp only at hSw); have z0 := cell_later hSw q0; have z1 := cell_later hSw q1; have z2 := cell_later hSw q2; have z3 := cell_later hSw q3; have z4 := cell_later hSw q4; have z5 := cell_later hSw q5; clear hSw; go_simp; try with_reducible rfl)
        case' rest14yx13u13 => (try simp only [Act.put, List.setIfInBounds_toArray, List.set_cons_zero, List.set_cons_succ])
        refine wpAnyH_done (by kernel_rfl) ?_ _
        have hbx : Below wr.heap.size wr w2 := by with_reducible assumption
        replace K2 := K2.later hbx
        replace K5 := K5.later hbx
        replace hbw := grew hbw hbx
        clear hbx q0 q1 q2 q3 q4 q5 HE
        go_upto_region 8 with fail
        refine wp_region_held_drew (S := (fun u => Below w.heap.size w u)) (by kernel_rfl) ?_ (fun hHeld => ?_)
        · exact grew hbw (drewN_below 1 _)
        have hd : Below w2.heap.size w2 w2.drew := (Below.refl _ _).drew
        replace K2 := K2.later hd
        replace K5 := K5.later hd
        replace hbw := grew hbw hd
        clear hd hHeld
        generalize w2.drew = wd at *
        have hHeld : Below w.heap.size w wd := hbw
        have f50 := K5.f 0
        have f51 := K5.f 1
        have c50 := K5.c0
        have c51 := K5.c1
        refine wpAnyH_take (i := 0) (oi := { dst := some 37, op := Op.fieldAddr 26 (Operand.tmp 5) 0, type := 0, pos := "l8_area.go:120", after := #[], guard := none }) (v := ?v63yx0u14) rfl (by kernel_rfl) (by kernel_rfl) (by kernel_rfl) (fun _ _ _ h => h) (Or.inl ⟨by rfl, ?hy63yx0u14⟩) (by with_reducible assumption) ?rest63yx0u14
        case hy63yx0u14 => (intro wS hSw; (try dsimp only at hSw); have z0 := cell_later hSw g0; have z1 := cell_later hSw g1; have z2 := cell_later hSw g2; have z3 := cell_later hSw g3; have z4 := cell_later hSw g4; have z5 := cell_later hSw g5; clear hSw; go_simp; try with_reducible rfl)
        case' rest63yx0u14 => (try simp only [Act.put, List.setIfInBounds_toArray, List.set_cons_zero, List.set_cons_succ])
        refine wpAnyH_take (i := 2) (oi := { dst := some 39, op := Op.move (Operand.tmp 7), type := 3, pos := "l8_area.go:120", after := #[], guard := none }) (v := ?v64yx2u15) rfl (by kernel_rfl) (by kernel_rfl) (by kernel_rfl) (fun _ _ _ h => h) (Or.inl ⟨by rfl, ?hy64yx2u15⟩) (by with_reducible assumption) ?rest64yx2u15
        case hy64yx2u15 => (intro wS hSw; (try dsimp only at hSw); have z0 := cell_later hSw g0; have z1 := cell_later hSw g1; have z2 := cell_later hSw g2; have z3 := cell_later hSw g3; have z4 := cell_later hSw g4; have z5 := cell_later hSw g5; clear hSw; go_simp; try with_reducible rfl)
        case' rest64yx2u15 => (try simp only [Act.put, List.setIfInBounds_toArray, List.set_cons_zero, List.set_cons_succ])
        refine wpAnyH_take (i := 3) (oi := { dst := some 40, op := Op.move (Operand.tmp 0), type := 24, pos := "l8_area.go:120", after := #[], guard := none }) (v := ?v65yx3u16) rfl (by kernel_rfl) (by kernel_rfl) (by kernel_rfl) (fun _ _ _ h => h) (Or.inl ⟨by rfl, ?hy65yx3u16⟩) (by with_reducible assumption) ?rest65yx3u16
        case hy65yx3u16 => (intro wS hSw; (try dsimp only at hSw); have z0 := cell_later hSw g0; have z1 := cell_later hSw g1; have z2 := cell_later hSw g2; have z3 := cell_later hSw g3; have z4 := cell_later hSw g4; have z5 := cell_later hSw g5; clear hSw; go_simp; try with_reducible rfl)
        case' rest65yx3u16 => (try simp only [Act.put, List.setIfInBounds_toArray, List.set_cons_zero, List.set_cons_succ])
        refine wpAnyH_take (i := 4) (oi := { dst := some 41, op := Op.indexAddr 24 (Operand.tmp 40) (Operand.const (Value.int IntKind.i64 0)), type := 0, pos := "l8_area.go:120", after := #[{ on := 3, ground := Ground.data }], guard := none }) (v := ?v66yx4u17) rfl (by kernel_rfl) (by kernel_rfl) (by kernel_rfl) (fun _ _ _ h => h) (Or.inl ⟨by rfl, ?hy66yx4u17⟩) (by with_reducible assumption) ?rest66yx4u17
        case hy66yx4u17 => (intro wS hSw; (try dsimp only at hSw); have z0 := cell_later hSw g0; have z1 := cell_later hSw g1; have z2 := cell_later hSw g2; have z3 := cell_later hSw g3; have z4 := cell_later hSw g4; have z5 := cell_later hSw g5; clear hSw; go_simp; try with_reducible rfl)
        case' rest66yx4u17 => (try simp only [Act.put, List.setIfInBounds_toArray, List.set_cons_zero, List.set_cons_succ])
        refine wpAnyH_take (i := 5) (oi := { dst := some 42, op := Op.fieldAddr 26 (Operand.tmp 41) 0, type := 0, pos := "l8_area.go:120", after := #[{ on := 4, ground := Ground.data }], guard := none }) (v := ?v67yx5u18) rfl (by kernel_rfl) (by kernel_rfl) (by kernel_rfl) (fun _ _ _ h => h) (Or.inl ⟨by rfl, ?hy67yx5u18⟩) (by with_reducible assumption) ?rest67yx5u18
        case hy67yx5u18 => (intro wS hSw; (try dsimp only at hSw); have z0 := cell_later hSw g0; have z1 := cell_later hSw g1; have z2 := cell_later hSw g2; have z3 := cell_later hSw g3; have z4 := cell_later hSw g4; have z5 := cell_later hSw g5; clear hSw; go_simp; try with_reducible rfl)
        case' rest67yx5u18 => (try simp only [Act.put, List.setIfInBounds_toArray, List.set_cons_zero, List.set_cons_succ])
        refine wpAnyH_take (i := 6) (oi := { dst := some 43, op := Op.load 3 (Operand.tmp 42), type := 3, pos := "l8_area.go:120", after := #[{ on := 5, ground := Ground.data }], guard := none }) (v := ?v68yx6u19) rfl (by kernel_rfl) (by kernel_rfl) (by kernel_rfl) (fun _ _ _ h => h) (Or.inl ⟨by rfl, ?hy68yx6u19⟩) (by with_reducible assumption) ?rest68yx6u19
        case hy68yx6u19 => (intro wS hSw; (try dsimp only at hSw); have z0 := cell_later hSw g0; have z1 := cell_later hSw g1; have z2 := cell_later hSw g2; have z3 := cell_later hSw g3; have z4 := cell_later hSw g4; have z5 := cell_later hSw g5; clear hSw; go_simp; try with_reducible rfl)
        case' rest68yx6u19 => (try simp only [Act.put, List.setIfInBounds_toArray, List.set_cons_zero, List.set_cons_succ])
        refine wpAnyH_take (i := 7) (oi := { dst := some 44, op := Op.move (Operand.tmp 0), type := 24, pos := "l8_area.go:120", after := #[], guard := none }) (v := ?v69yx7u20) rfl (by kernel_rfl) (by kernel_rfl) (by kernel_rfl) (fun _ _ _ h => h) (Or.inl ⟨by rfl, ?hy69yx7u20⟩) (by with_reducible assumption) ?rest69yx7u20
        case hy69yx7u20 => (intro wS hSw; (try dsimp only at hSw); have z0 := cell_later hSw g0; have z1 := cell_later hSw g1; have z2 := cell_later hSw g2; have z3 := cell_later hSw g3; have z4 := cell_later hSw g4; have z5 := cell_later hSw g5; clear hSw; go_simp; try with_reducible rfl)
        case' rest69yx7u20 => (try simp only [Act.put, List.setIfInBounds_toArray, List.set_cons_zero, List.set_cons_succ])
        refine wpAnyH_take (i := 8) (oi := { dst := some 45, op := Op.move (Operand.tmp 6), type := 3, pos := "l8_area.go:120", after := #[], guard := none }) (v := ?v70yx8u21) rfl (by kernel_rfl) (by kernel_rfl) (by kernel_rfl) (fun _ _ _ h => h) (Or.inl ⟨by rfl, ?hy70yx8u21⟩) (by with_reducible assumption) ?rest70yx8u21
        case hy70yx8u21 => (intro wS hSw; (try dsimp only at hSw); have z0 := cell_later hSw g0; have z1 := cell_later hSw g1; have z2 := cell_later hSw g2; have z3 := cell_later hSw g3; have z4 := cell_later hSw g4; have z5 := cell_later hSw g5; clear hSw; go_simp; try with_reducible rfl)
        case' rest70yx8u21 => (try simp only [Act.put, List.setIfInBounds_toArray, List.set_cons_zero, List.set_cons_succ])
        refine wpAnyH_take (i := 9) (oi := { dst := some 46, op := Op.indexAddr 24 (Operand.tmp 44) (Operand.tmp 45), type := 0, pos := "l8_area.go:120", after := #[{ on := 7, ground := Ground.data }, { on := 8, ground := Ground.data }], guard := none }) (v := ?v71yx9u22) rfl (by kernel_rfl) (by kernel_rfl) (by kernel_rfl) (fun _ _ _ h => h) (Or.inl ⟨by rfl, ?hy71yx9u22⟩) (by with_reducible assumption) ?rest71yx9u22
        case hy71yx9u22 => (intro wS hSw; (try dsimp only at hSw); have z0 := cell_later hSw g0; have z1 := cell_later hSw g1; have z2 := cell_later hSw g2; have z3 := cell_later hSw g3; have z4 := cell_later hSw g4; have z5 := cell_later hSw g5; clear hSw; go_simp; try with_reducible rfl)
        case' rest71yx9u22 => (try simp only [Act.put, List.setIfInBounds_toArray, List.set_cons_zero, List.set_cons_succ])
        refine wpAnyH_take (i := 10) (oi := { dst := some 47, op := Op.fieldAddr 26 (Operand.tmp 46) 0, type := 0, pos := "l8_area.go:120", after := #[{ on := 9, ground := Ground.data }], guard := none }) (v := ?v72yx10u23) rfl (by kernel_rfl) (by kernel_rfl) (by kernel_rfl) (fun _ _ _ h => h) (Or.inl ⟨by rfl, ?hy72yx10u23⟩) (by with_reducible assumption) ?rest72yx10u23
        case hy72yx10u23 => (intro wS hSw; (try dsimp only at hSw); have z0 := cell_later hSw g0; have z1 := cell_later hSw g1; have z2 := cell_later hSw g2; have z3 := cell_later hSw g3; have z4 := cell_later hSw g4; have z5 := cell_later hSw g5; clear hSw; go_simp; try with_reducible rfl)
        case' rest72yx10u23 => (try simp only [Act.put, List.setIfInBounds_toArray, List.set_cons_zero, List.set_cons_succ])
        refine wpAnyH_take (i := 11) (oi := { dst := some 48, op := Op.load 3 (Operand.tmp 47), type := 3, pos := "l8_area.go:120", after := #[{ on := 10, ground := Ground.data }], guard := none }) (v := ?v73yx11u24) rfl (by kernel_rfl) (by kernel_rfl) (by kernel_rfl) (fun _ _ _ h => h) (Or.inl ⟨by rfl, ?hy73yx11u24⟩) (by with_reducible assumption) ?rest73yx11u24
        case hy73yx11u24 => (intro wS hSw; (try dsimp only at hSw); have z0 := cell_later hSw g0; have z1 := cell_later hSw g1; have z2 := cell_later hSw g2; have z3 := cell_later hSw g3; have z4 := cell_later hSw g4; have z5 := cell_later hSw g5; clear hSw; go_simp; try with_reducible rfl)
        case' rest73yx11u24 => (try simp only [Act.put, List.setIfInBounds_toArray, List.set_cons_zero, List.set_cons_succ])
        refine wpAnyH_take (i := 12) (oi := { dst := some 49, op := Op.binOp BinOp.add 3 (Operand.tmp 43) (Operand.tmp 48) 3, type := 3, pos := "l8_area.go:120", after := #[{ on := 6, ground := Ground.data }, { on := 11, ground := Ground.data }], guard := none }) (v := ?v74yx12u25) rfl (by kernel_rfl) (by kernel_rfl) (by kernel_rfl) (fun _ _ _ h => h) (Or.inl ⟨by rfl, ?hy74yx12u25⟩) (by with_reducible assumption) ?rest74yx12u25
        case hy74yx12u25 => (intro wS hSw; (try dsimp only at hSw); have z0 := cell_later hSw g0; have z1 := cell_later hSw g1; have z2 := cell_later hSw g2; have z3 := cell_later hSw g3; have z4 := cell_later hSw g4; have z5 := cell_later hSw g5; clear hSw; go_simp; try with_reducible rfl)
        case' rest74yx12u25 => (try simp only [Act.put, List.setIfInBounds_toArray, List.set_cons_zero, List.set_cons_succ])
        refine wpAnyH_take (i := 13) (oi := { dst := some 50, op := Op.move (Operand.tmp 0), type := 24, pos := "l8_area.go:120", after := #[], guard := none }) (v := ?v75yx13u26) rfl (by kernel_rfl) (by kernel_rfl) (by kernel_rfl) (fun _ _ _ h => h) (Or.inl ⟨by rfl, ?hy75yx13u26⟩) (by with_reducible assumption) ?rest75yx13u26
        case hy75yx13u26 => (intro wS hSw; (try dsimp only at hSw); have z0 := cell_later hSw g0; have z1 := cell_later hSw g1; have z2 := cell_later hSw g2; have z3 := cell_later hSw g3; have z4 := cell_later hSw g4; have z5 := cell_later hSw g5; clear hSw; go_simp; try with_reducible rfl)
        case' rest75yx13u26 => (try simp only [Act.put, List.setIfInBounds_toArray, List.set_cons_zero, List.set_cons_succ])
        refine wpAnyH_take (i := 14) (oi := { dst := some 51, op := Op.move (Operand.tmp 6), type := 3, pos := "l8_area.go:120", after := #[], guard := none }) (v := ?v76yx14u27) rfl (by kernel_rfl) (by kernel_rfl) (by kernel_rfl) (fun _ _ _ h => h) (Or.inl ⟨by rfl, ?hy76yx14u27⟩) (by with_reducible assumption) ?rest76yx14u27
        case hy76yx14u27 => (intro wS hSw; (try dsimp only at hSw); have z0 := cell_later hSw g0; have z1 := cell_later hSw g1; have z2 := cell_later hSw g2; have z3 := cell_later hSw g3; have z4 := cell_later hSw g4; have z5 := cell_later hSw g5; clear hSw; go_simp; try with_reducible rfl)
        case' rest76yx14u27 => (try simp only [Act.put, List.setIfInBounds_toArray, List.set_cons_zero, List.set_cons_succ])
        refine wpAnyH_take (i := 15) (oi := { dst := some 52, op := Op.binOp BinOp.add 3 (Operand.tmp 51) (Operand.const (Value.int IntKind.i64 1)) 3, type := 3, pos := "l8_area.go:120", after := #[{ on := 14, ground := Ground.data }], guard := none }) (v := ?v77yx15u28) rfl (by kernel_rfl) (by kernel_rfl) (by kernel_rfl) (fun _ _ _ h => h) (Or.inl ⟨by rfl, ?hy77yx15u28⟩) (by with_reducible assumption) ?rest77yx15u28
        case hy77yx15u28 => (intro wS hSw; (try dsimp only at hSw); have z0 := cell_later hSw g0; have z1 := cell_later hSw g1; have z2 := cell_later hSw g2; have z3 := cell_later hSw g3; have z4 := cell_later hSw g4; have z5 := cell_later hSw g5; clear hSw; go_simp; try with_reducible rfl)
        case' rest77yx15u28 => (try simp only [Act.put, List.setIfInBounds_toArray, List.set_cons_zero, List.set_cons_succ])
        refine wpAnyH_take (i := 16) (oi := { dst := some 53, op := Op.indexAddr 24 (Operand.tmp 50) (Operand.tmp 52), type := 0, pos := "l8_area.go:120", after := #[{ on := 13, ground := Ground.data }, { on := 15, ground := Ground.data }], guard := none }) (v := ?v78yx16u29) rfl (by kernel_rfl) (by kernel_rfl) (by kernel_rfl) (fun _ _ _ h => h) (Or.inl ⟨by rfl, ?hy78yx16u29⟩) (by with_reducible assumption) ?rest78yx16u29
        case hy78yx16u29 => (intro wS hSw; (try dsimp only at hSw); have z0 := cell_later hSw g0; have z1 := cell_later hSw g1; have z2 := cell_later hSw g2; have z3 := cell_later hSw g3; have z4 := cell_later hSw g4; have z5 := cell_later hSw g5; clear hSw; go_simp; try with_reducible rfl)
        case' rest78yx16u29 => (try simp only [Act.put, List.setIfInBounds_toArray, List.set_cons_zero, List.set_cons_succ])
        refine wpAnyH_take (i := 17) (oi := { dst := some 54, op := Op.fieldAddr 26 (Operand.tmp 53) 0, type := 0, pos := "l8_area.go:120", after := #[{ on := 16, ground := Ground.data }], guard := none }) (v := ?v79yx17u30) rfl (by kernel_rfl) (by kernel_rfl) (by kernel_rfl) (fun _ _ _ h => h) (Or.inl ⟨by rfl, ?hy79yx17u30⟩) (by with_reducible assumption) ?rest79yx17u30
        case hy79yx17u30 => (intro wS hSw; (try dsimp only at hSw); have z0 := cell_later hSw g0; have z1 := cell_later hSw g1; have z2 := cell_later hSw g2; have z3 := cell_later hSw g3; have z4 := cell_later hSw g4; have z5 := cell_later hSw g5; clear hSw; go_simp; try with_reducible rfl)
        case' rest79yx17u30 => (try simp only [Act.put, List.setIfInBounds_toArray, List.set_cons_zero, List.set_cons_succ])
        refine wpAnyH_take (i := 18) (oi := { dst := some 55, op := Op.load 3 (Operand.tmp 54), type := 3, pos := "l8_area.go:120", after := #[{ on := 17, ground := Ground.data }], guard := none }) (v := ?v80yx18u31) rfl (by kernel_rfl) (by kernel_rfl) (by kernel_rfl) (fun _ _ _ h => h) (Or.inl ⟨by rfl, ?hy80yx18u31⟩) (by with_reducible assumption) ?rest80yx18u31
        case hy80yx18u31 => (intro wS hSw; (try dsimp only at hSw); have z0 := cell_later hSw g0; have z1 := cell_later hSw g1; have z2 := cell_later hSw g2; have z3 := cell_later hSw g3; have z4 := cell_later hSw g4; have z5 := cell_later hSw g5; clear hSw; go_simp; try with_reducible rfl)
        case' rest80yx18u31 => (try simp only [Act.put, List.setIfInBounds_toArray, List.set_cons_zero, List.set_cons_succ])
        refine wpAnyH_take (i := 19) (oi := { dst := some 56, op := Op.binOp BinOp.add 3 (Operand.tmp 49) (Operand.tmp 55) 3, type := 3, pos := "l8_area.go:120", after := #[{ on := 12, ground := Ground.data }, { on := 18, ground := Ground.data }], guard := none }) (v := ?v81yx19u32) rfl (by kernel_rfl) (by kernel_rfl) (by kernel_rfl) (fun _ _ _ h => h) (Or.inl ⟨by rfl, ?hy81yx19u32⟩) (by with_reducible assumption) ?rest81yx19u32
        case hy81yx19u32 => (intro wS hSw; (try dsimp only at hSw); have z0 := cell_later hSw g0; have z1 := cell_later hSw g1; have z2 := cell_later hSw g2; have z3 := cell_later hSw g3; have z4 := cell_later hSw g4; have z5 := cell_later hSw g5; clear hSw; go_simp; try with_reducible rfl)
        case' rest81yx19u32 => (try simp only [Act.put, List.setIfInBounds_toArray, List.set_cons_zero, List.set_cons_succ])
        refine wpAnyH_take (i := 20) (oi := { dst := some 57, op := Op.binOp BinOp.mul 3 (Operand.tmp 39) (Operand.tmp 56) 3, type := 3, pos := "l8_area.go:120", after := #[{ on := 2, ground := Ground.data }, { on := 19, ground := Ground.data }], guard := none }) (v := ?v82yx20u33) rfl (by kernel_rfl) (by kernel_rfl) (by kernel_rfl) (fun _ _ _ h => h) (Or.inl ⟨by rfl, ?hy82yx20u33⟩) (by with_reducible assumption) ?rest82yx20u33
        case hy82yx20u33 => (intro wS hSw; (try dsimp only at hSw); have z0 := cell_later hSw g0; have z1 := cell_later hSw g1; have z2 := cell_later hSw g2; have z3 := cell_later hSw g3; have z4 := cell_later hSw g4; have z5 := cell_later hSw g5; clear hSw; go_simp; try with_reducible rfl)
        case' rest82yx20u33 => (try simp only [Act.put, List.setIfInBounds_toArray, List.set_cons_zero, List.set_cons_succ])
        refine wpAnyH_take (i := 22) (oi := { dst := some 59, op := Op.fieldAddr 26 (Operand.tmp 5) 1, type := 0, pos := "l8_area.go:120", after := #[], guard := none }) (v := ?v83yx22u34) rfl (by kernel_rfl) (by kernel_rfl) (by kernel_rfl) (fun _ _ _ h => h) (Or.inl ⟨by rfl, ?hy83yx22u34⟩) (by with_reducible assumption) ?rest83yx22u34
        case hy83yx22u34 => (intro wS hSw; (try dsimp only at hSw); have z0 := cell_later hSw g0; have z1 := cell_later hSw g1; have z2 := cell_later hSw g2; have z3 := cell_later hSw g3; have z4 := cell_later hSw g4; have z5 := cell_later hSw g5; clear hSw; go_simp; try with_reducible rfl)
        case' rest83yx22u34 => (try simp only [Act.put, List.setIfInBounds_toArray, List.set_cons_zero, List.set_cons_succ])
        refine wpAnyH_take (i := 24) (oi := { dst := some 61, op := Op.move (Operand.tmp 7), type := 3, pos := "l8_area.go:120", after := #[], guard := none }) (v := ?v84yx24u35) rfl (by kernel_rfl) (by kernel_rfl) (by kernel_rfl) (fun _ _ _ h => h) (Or.inl ⟨by rfl, ?hy84yx24u35⟩) (by with_reducible assumption) ?rest84yx24u35
        case hy84yx24u35 => (intro wS hSw; (try dsimp only at hSw); have z0 := cell_later hSw g0; have z1 := cell_later hSw g1; have z2 := cell_later hSw g2; have z3 := cell_later hSw g3; have z4 := cell_later hSw g4; have z5 := cell_later hSw g5; clear hSw; go_simp; try with_reducible rfl)
        case' rest84yx24u35 => (try simp only [Act.put, List.setIfInBounds_toArray, List.set_cons_zero, List.set_cons_succ])
        refine wpAnyH_take (i := 25) (oi := { dst := some 62, op := Op.move (Operand.tmp 0), type := 24, pos := "l8_area.go:120", after := #[], guard := none }) (v := ?v85yx25u36) rfl (by kernel_rfl) (by kernel_rfl) (by kernel_rfl) (fun _ _ _ h => h) (Or.inl ⟨by rfl, ?hy85yx25u36⟩) (by with_reducible assumption) ?rest85yx25u36
        case hy85yx25u36 => (intro wS hSw; (try dsimp only at hSw); have z0 := cell_later hSw g0; have z1 := cell_later hSw g1; have z2 := cell_later hSw g2; have z3 := cell_later hSw g3; have z4 := cell_later hSw g4; have z5 := cell_later hSw g5; clear hSw; go_simp; try with_reducible rfl)
        case' rest85yx25u36 => (try simp only [Act.put, List.setIfInBounds_toArray, List.set_cons_zero, List.set_cons_succ])
        refine wpAnyH_take (i := 26) (oi := { dst := some 63, op := Op.indexAddr 24 (Operand.tmp 62) (Operand.const (Value.int IntKind.i64 0)), type := 0, pos := "l8_area.go:120", after := #[{ on := 25, ground := Ground.data }], guard := none }) (v := ?v86yx26u37) rfl (by kernel_rfl) (by kernel_rfl) (by kernel_rfl) (fun _ _ _ h => h) (Or.inl ⟨by rfl, ?hy86yx26u37⟩) (by with_reducible assumption) ?rest86yx26u37
        case hy86yx26u37 => (intro wS hSw; (try dsimp only at hSw); have z0 := cell_later hSw g0; have z1 := cell_later hSw g1; have z2 := cell_later hSw g2; have z3 := cell_later hSw g3; have z4 := cell_later hSw g4; have z5 := cell_later hSw g5; clear hSw; go_simp; try with_reducible rfl)
        case' rest86yx26u37 => (try simp only [Act.put, List.setIfInBounds_toArray, List.set_cons_zero, List.set_cons_succ])
        refine wpAnyH_take (i := 27) (oi := { dst := some 64, op := Op.fieldAddr 26 (Operand.tmp 63) 1, type := 0, pos := "l8_area.go:120", after := #[{ on := 26, ground := Ground.data }], guard := none }) (v := ?v87yx27u38) rfl (by kernel_rfl) (by kernel_rfl) (by kernel_rfl) (fun _ _ _ h => h) (Or.inl ⟨by rfl, ?hy87yx27u38⟩) (by with_reducible assumption) ?rest87yx27u38
        case hy87yx27u38 => (intro wS hSw; (try dsimp only at hSw); have z0 := cell_later hSw g0; have z1 := cell_later hSw g1; have z2 := cell_later hSw g2; have z3 := cell_later hSw g3; have z4 := cell_later hSw g4; have z5 := cell_later hSw g5; clear hSw; go_simp; try with_reducible rfl)
        case' rest87yx27u38 => (try simp only [Act.put, List.setIfInBounds_toArray, List.set_cons_zero, List.set_cons_succ])
        refine wpAnyH_take (i := 28) (oi := { dst := some 65, op := Op.load 3 (Operand.tmp 64), type := 3, pos := "l8_area.go:120", after := #[{ on := 27, ground := Ground.data }], guard := none }) (v := ?v88yx28u39) rfl (by kernel_rfl) (by kernel_rfl) (by kernel_rfl) (fun _ _ _ h => h) (Or.inl ⟨by rfl, ?hy88yx28u39⟩) (by with_reducible assumption) ?rest88yx28u39
        case hy88yx28u39 => (intro wS hSw; (try dsimp only at hSw); have z0 := cell_later hSw g0; have z1 := cell_later hSw g1; have z2 := cell_later hSw g2; have z3 := cell_later hSw g3; have z4 := cell_later hSw g4; have z5 := cell_later hSw g5; clear hSw; go_simp; try with_reducible rfl)
        case' rest88yx28u39 => (try simp only [Act.put, List.setIfInBounds_toArray, List.set_cons_zero, List.set_cons_succ])
        refine wpAnyH_take (i := 29) (oi := { dst := some 66, op := Op.move (Operand.tmp 0), type := 24, pos := "l8_area.go:120", after := #[], guard := none }) (v := ?v89yx29u40) rfl (by kernel_rfl) (by kernel_rfl) (by kernel_rfl) (fun _ _ _ h => h) (Or.inl ⟨by rfl, ?hy89yx29u40⟩) (by with_reducible assumption) ?rest89yx29u40
        case hy89yx29u40 => (intro wS hSw; (try dsimp only at hSw); have z0 := cell_later hSw g0; have z1 := cell_later hSw g1; have z2 := cell_later hSw g2; have z3 := cell_later hSw g3; have z4 := cell_later hSw g4; have z5 := cell_later hSw g5; clear hSw; go_simp; try with_reducible rfl)
        case' rest89yx29u40 => (try simp only [Act.put, List.setIfInBounds_toArray, List.set_cons_zero, List.set_cons_succ])
        refine wpAnyH_take (i := 30) (oi := { dst := some 67, op := Op.move (Operand.tmp 6), type := 3, pos := "l8_area.go:120", after := #[], guard := none }) (v := ?v90yx30u41) rfl (by kernel_rfl) (by kernel_rfl) (by kernel_rfl) (fun _ _ _ h => h) (Or.inl ⟨by rfl, ?hy90yx30u41⟩) (by with_reducible assumption) ?rest90yx30u41
        case hy90yx30u41 => (intro wS hSw; (try dsimp only at hSw); have z0 := cell_later hSw g0; have z1 := cell_later hSw g1; have z2 := cell_later hSw g2; have z3 := cell_later hSw g3; have z4 := cell_later hSw g4; have z5 := cell_later hSw g5; clear hSw; go_simp; try with_reducible rfl)
        case' rest90yx30u41 => (try simp only [Act.put, List.setIfInBounds_toArray, List.set_cons_zero, List.set_cons_succ])
        refine wpAnyH_take (i := 31) (oi := { dst := some 68, op := Op.indexAddr 24 (Operand.tmp 66) (Operand.tmp 67), type := 0, pos := "l8_area.go:120", after := #[{ on := 29, ground := Ground.data }, { on := 30, ground := Ground.data }], guard := none }) (v := ?v91yx31u42) rfl (by kernel_rfl) (by kernel_rfl) (by kernel_rfl) (fun _ _ _ h => h) (Or.inl ⟨by rfl, ?hy91yx31u42⟩) (by with_reducible assumption) ?rest91yx31u42
        case hy91yx31u42 => (intro wS hSw; (try dsimp only at hSw); have z0 := cell_later hSw g0; have z1 := cell_later hSw g1; have z2 := cell_later hSw g2; have z3 := cell_later hSw g3; have z4 := cell_later hSw g4; have z5 := cell_later hSw g5; clear hSw; go_simp; try with_reducible rfl)
        case' rest91yx31u42 => (try simp only [Act.put, List.setIfInBounds_toArray, List.set_cons_zero, List.set_cons_succ])
        refine wpAnyH_take (i := 32) (oi := { dst := some 69, op := Op.fieldAddr 26 (Operand.tmp 68) 1, type := 0, pos := "l8_area.go:120", after := #[{ on := 31, ground := Ground.data }], guard := none }) (v := ?v92yx32u43) rfl (by kernel_rfl) (by kernel_rfl) (by kernel_rfl) (fun _ _ _ h => h) (Or.inl ⟨by rfl, ?hy92yx32u43⟩) (by with_reducible assumption) ?rest92yx32u43
        case hy92yx32u43 => (intro wS hSw; (try dsimp only at hSw); have z0 := cell_later hSw g0; have z1 := cell_later hSw g1; have z2 := cell_later hSw g2; have z3 := cell_later hSw g3; have z4 := cell_later hSw g4; have z5 := cell_later hSw g5; clear hSw; go_simp; try with_reducible rfl)
        case' rest92yx32u43 => (try simp only [Act.put, List.setIfInBounds_toArray, List.set_cons_zero, List.set_cons_succ])
        refine wpAnyH_take (i := 33) (oi := { dst := some 70, op := Op.load 3 (Operand.tmp 69), type := 3, pos := "l8_area.go:120", after := #[{ on := 32, ground := Ground.data }], guard := none }) (v := ?v93yx33u44) rfl (by kernel_rfl) (by kernel_rfl) (by kernel_rfl) (fun _ _ _ h => h) (Or.inl ⟨by rfl, ?hy93yx33u44⟩) (by with_reducible assumption) ?rest93yx33u44
        case hy93yx33u44 => (intro wS hSw; (try dsimp only at hSw); have z0 := cell_later hSw g0; have z1 := cell_later hSw g1; have z2 := cell_later hSw g2; have z3 := cell_later hSw g3; have z4 := cell_later hSw g4; have z5 := cell_later hSw g5; clear hSw; go_simp; try with_reducible rfl)
        case' rest93yx33u44 => (try simp only [Act.put, List.setIfInBounds_toArray, List.set_cons_zero, List.set_cons_succ])
        refine wpAnyH_take (i := 34) (oi := { dst := some 71, op := Op.binOp BinOp.add 3 (Operand.tmp 65) (Operand.tmp 70) 3, type := 3, pos := "l8_area.go:120", after := #[{ on := 28, ground := Ground.data }, { on := 33, ground := Ground.data }], guard := none }) (v := ?v94yx34u45) rfl (by kernel_rfl) (by kernel_rfl) (by kernel_rfl) (fun _ _ _ h => h) (Or.inl ⟨by rfl, ?hy94yx34u45⟩) (by with_reducible assumption) ?rest94yx34u45
        case hy94yx34u45 => (intro wS hSw; (try dsimp only at hSw); have z0 := cell_later hSw g0; have z1 := cell_later hSw g1; have z2 := cell_later hSw g2; have z3 := cell_later hSw g3; have z4 := cell_later hSw g4; have z5 := cell_later hSw g5; clear hSw; go_simp; try with_reducible rfl)
        case' rest94yx34u45 => (try simp only [Act.put, List.setIfInBounds_toArray, List.set_cons_zero, List.set_cons_succ])
        refine wpAnyH_take (i := 35) (oi := { dst := some 72, op := Op.move (Operand.tmp 0), type := 24, pos := "l8_area.go:120", after := #[], guard := none }) (v := ?v95yx35u46) rfl (by kernel_rfl) (by kernel_rfl) (by kernel_rfl) (fun _ _ _ h => h) (Or.inl ⟨by rfl, ?hy95yx35u46⟩) (by with_reducible assumption) ?rest95yx35u46
        case hy95yx35u46 => (intro wS hSw; (try dsimp only at hSw); have z0 := cell_later hSw g0; have z1 := cell_later hSw g1; have z2 := cell_later hSw g2; have z3 := cell_later hSw g3; have z4 := cell_later hSw g4; have z5 := cell_later hSw g5; clear hSw; go_simp; try with_reducible rfl)
        case' rest95yx35u46 => (try simp only [Act.put, List.setIfInBounds_toArray, List.set_cons_zero, List.set_cons_succ])
        refine wpAnyH_take (i := 36) (oi := { dst := some 73, op := Op.move (Operand.tmp 6), type := 3, pos := "l8_area.go:120", after := #[], guard := none }) (v := ?v96yx36u47) rfl (by kernel_rfl) (by kernel_rfl) (by kernel_rfl) (fun _ _ _ h => h) (Or.inl ⟨by rfl, ?hy96yx36u47⟩) (by with_reducible assumption) ?rest96yx36u47
        case hy96yx36u47 => (intro wS hSw; (try dsimp only at hSw); have z0 := cell_later hSw g0; have z1 := cell_later hSw g1; have z2 := cell_later hSw g2; have z3 := cell_later hSw g3; have z4 := cell_later hSw g4; have z5 := cell_later hSw g5; clear hSw; go_simp; try with_reducible rfl)
        case' rest96yx36u47 => (try simp only [Act.put, List.setIfInBounds_toArray, List.set_cons_zero, List.set_cons_succ])
        refine wpAnyH_take (i := 37) (oi := { dst := some 74, op := Op.binOp BinOp.add 3 (Operand.tmp 73) (Operand.const (Value.int IntKind.i64 1)) 3, type := 3, pos := "l8_area.go:120", after := #[{ on := 36, ground := Ground.data }], guard := none }) (v := ?v97yx37u48) rfl (by kernel_rfl) (by kernel_rfl) (by kernel_rfl) (fun _ _ _ h => h) (Or.inl ⟨by rfl, ?hy97yx37u48⟩) (by with_reducible assumption) ?rest97yx37u48
        case hy97yx37u48 => (intro wS hSw; (try dsimp only at hSw); have z0 := cell_later hSw g0; have z1 := cell_later hSw g1; have z2 := cell_later hSw g2; have z3 := cell_later hSw g3; have z4 := cell_later hSw g4; have z5 := cell_later hSw g5; clear hSw; go_simp; try with_reducible rfl)
        case' rest97yx37u48 => (try simp only [Act.put, List.setIfInBounds_toArray, List.set_cons_zero, List.set_cons_succ])
        refine wpAnyH_take (i := 38) (oi := { dst := some 75, op := Op.indexAddr 24 (Operand.tmp 72) (Operand.tmp 74), type := 0, pos := "l8_area.go:120", after := #[{ on := 35, ground := Ground.data }, { on := 37, ground := Ground.data }], guard := none }) (v := ?v98yx38u49) rfl (by kernel_rfl) (by kernel_rfl) (by kernel_rfl) (fun _ _ _ h => h) (Or.inl ⟨by rfl, ?hy98yx38u49⟩) (by with_reducible assumption) ?rest98yx38u49
        case hy98yx38u49 => (intro wS hSw; (try dsimp only at hSw); have z0 := cell_later hSw g0; have z1 := cell_later hSw g1; have z2 := cell_later hSw g2; have z3 := cell_later hSw g3; have z4 := cell_later hSw g4; have z5 := cell_later hSw g5; clear hSw; go_simp; try with_reducible rfl)
        case' rest98yx38u49 => (try simp only [Act.put, List.setIfInBounds_toArray, List.set_cons_zero, List.set_cons_succ])
        refine wpAnyH_take (i := 39) (oi := { dst := some 76, op := Op.fieldAddr 26 (Operand.tmp 75) 1, type := 0, pos := "l8_area.go:120", after := #[{ on := 38, ground := Ground.data }], guard := none }) (v := ?v99yx39u50) rfl (by kernel_rfl) (by kernel_rfl) (by kernel_rfl) (fun _ _ _ h => h) (Or.inl ⟨by rfl, ?hy99yx39u50⟩) (by with_reducible assumption) ?rest99yx39u50
        case hy99yx39u50 => (intro wS hSw; (try dsimp only at hSw); have z0 := cell_later hSw g0; have z1 := cell_later hSw g1; have z2 := cell_later hSw g2; have z3 := cell_later hSw g3; have z4 := cell_later hSw g4; have z5 := cell_later hSw g5; clear hSw; go_simp; try with_reducible rfl)
        case' rest99yx39u50 => (try simp only [Act.put, List.setIfInBounds_toArray, List.set_cons_zero, List.set_cons_succ])
        refine wpAnyH_take (i := 40) (oi := { dst := some 77, op := Op.load 3 (Operand.tmp 76), type := 3, pos := "l8_area.go:120", after := #[{ on := 39, ground := Ground.data }], guard := none }) (v := ?v100yx40u51) rfl (by kernel_rfl) (by kernel_rfl) (by kernel_rfl) (fun _ _ _ h => h) (Or.inl ⟨by rfl, ?hy100yx40u51⟩) (by with_reducible assumption) ?rest100yx40u51
        case hy100yx40u51 => (intro wS hSw; (try dsimp only at hSw); have z0 := cell_later hSw g0; have z1 := cell_later hSw g1; have z2 := cell_later hSw g2; have z3 := cell_later hSw g3; have z4 := cell_later hSw g4; have z5 := cell_later hSw g5; clear hSw; go_simp; try with_reducible rfl)
        case' rest100yx40u51 => (try simp only [Act.put, List.setIfInBounds_toArray, List.set_cons_zero, List.set_cons_succ])
        refine wpAnyH_take (i := 41) (oi := { dst := some 78, op := Op.binOp BinOp.add 3 (Operand.tmp 71) (Operand.tmp 77) 3, type := 3, pos := "l8_area.go:120", after := #[{ on := 34, ground := Ground.data }, { on := 40, ground := Ground.data }], guard := none }) (v := ?v101yx41u52) rfl (by kernel_rfl) (by kernel_rfl) (by kernel_rfl) (fun _ _ _ h => h) (Or.inl ⟨by rfl, ?hy101yx41u52⟩) (by with_reducible assumption) ?rest101yx41u52
        case hy101yx41u52 => (intro wS hSw; (try dsimp only at hSw); have z0 := cell_later hSw g0; have z1 := cell_later hSw g1; have z2 := cell_later hSw g2; have z3 := cell_later hSw g3; have z4 := cell_later hSw g4; have z5 := cell_later hSw g5; clear hSw; go_simp; try with_reducible rfl)
        case' rest101yx41u52 => (try simp only [Act.put, List.setIfInBounds_toArray, List.set_cons_zero, List.set_cons_succ])
        refine wpAnyH_take (i := 42) (oi := { dst := some 79, op := Op.binOp BinOp.mul 3 (Operand.tmp 61) (Operand.tmp 78) 3, type := 3, pos := "l8_area.go:120", after := #[{ on := 24, ground := Ground.data }, { on := 41, ground := Ground.data }], guard := none }) (v := ?v102yx42u53) rfl (by kernel_rfl) (by kernel_rfl) (by kernel_rfl) (fun _ _ _ h => h) (Or.inl ⟨by rfl, ?hy102yx42u53⟩) (by with_reducible assumption) ?rest102yx42u53
        case hy102yx42u53 => (intro wS hSw; (try dsimp only at hSw); have z0 := cell_later hSw g0; have z1 := cell_later hSw g1; have z2 := cell_later hSw g2; have z3 := cell_later hSw g3; have z4 := cell_later hSw g4; have z5 := cell_later hSw g5; clear hSw; go_simp; try with_reducible rfl)
        case' rest102yx42u53 => (try simp only [Act.put, List.setIfInBounds_toArray, List.set_cons_zero, List.set_cons_succ])
        refine wpAnyH_ready (rs := [1, 23]) (by kernel_rfl) (by simp) ?_
        refine AllReadyH.cons (o := { dst := some 38, op := Op.load 3 (Operand.tmp 37), type := 3, pos := "l8_area.go:120", after := #[{ on := 0, ground := Ground.data }], guard := none }) rfl (fun K hK => ?_) (AllReadyH.cons (o := { dst := some 60, op := Op.load 3 (Operand.tmp 59), type := 3, pos := "l8_area.go:120", after := #[{ on := 22, ground := Ground.data }], guard := none }) rfl (fun K hK => ?_) AllReadyH.nil)
        · go_simp
          refine hK.out _ _ ?_ (fun hHeld => ?_)
          · exact hbw
          clear hK K
          try simp only [Act.put, List.setIfInBounds_toArray, List.set_cons_zero, List.set_cons_succ]
          refine wpAnyH_take (i := 21) (oi := { dst := some 58, op := Op.binOp BinOp.add 3 (Operand.tmp 38) (Operand.tmp 57) 3, type := 3, pos := "l8_area.go:120", after := #[{ on := 1, ground := Ground.data }, { on := 20, ground := Ground.data }], guard := none }) (v := ?v103yx21u54) rfl (by kernel_rfl) (by kernel_rfl) (by kernel_rfl) (fun _ _ _ h => h) (Or.inl ⟨by rfl, ?hy103yx21u54⟩) (by with_reducible assumption) ?rest103yx21u54
          case hy103yx21u54 => (intro wS hSw; (try dsimp only at hSw); have z0 := cell_later hSw g0; have z1 := cell_later hSw g1; have z2 := cell_later hSw g2; have z3 := cell_later hSw g3; have z4 := cell_later hSw g4; have z5 := cell_later hSw g5; clear hSw; go_simp; try with_reducible rfl)
          case' rest103yx21u54 => (try simp only [Act.put, List.setIfInBounds_toArray, List.set_cons_zero, List.set_cons_succ])
          refine wpAnyH_ready (rs := [23]) (by kernel_rfl) (by simp) ?_
          refine AllReadyH.cons (o := { dst := some 60, op := Op.load 3 (Operand.tmp 59), type := 3, pos := "l8_area.go:120", after := #[{ on := 22, ground := Ground.data }], guard := none }) rfl (fun K hK => ?_) AllReadyH.nil
          go_simp
          refine hK.out _ _ ?_ (fun hHeld => ?_)
          · exact hbw
          clear hK K
          try simp only [Act.put, List.setIfInBounds_toArray, List.set_cons_zero, List.set_cons_succ]
          refine wpAnyH_take (i := 43) (oi := { dst := some 80, op := Op.binOp BinOp.add 3 (Operand.tmp 60) (Operand.tmp 79) 3, type := 3, pos := "l8_area.go:120", after := #[{ on := 23, ground := Ground.data }, { on := 42, ground := Ground.data }], guard := none }) (v := ?v104yx43u55) rfl (by kernel_rfl) (by kernel_rfl) (by kernel_rfl) (fun _ _ _ h => h) (Or.inl ⟨by rfl, ?hy104yx43u55⟩) (by with_reducible assumption) ?rest104yx43u55
          case hy104yx43u55 => (intro wS hSw; (try dsimp only at hSw); have z0 := cell_later hSw g0; have z1 := cell_later hSw g1; have z2 := cell_later hSw g2; have z3 := cell_later hSw g3; have z4 := cell_later hSw g4; have z5 := cell_later hSw g5; clear hSw; go_simp; try with_reducible rfl)
          case' rest104yx43u55 => (try simp only [Act.put, List.setIfInBounds_toArray, List.set_cons_zero, List.set_cons_succ])
          refine wpAnyH_take (i := 44) (oi := { dst := some 81, op := Op.build 26 #[(0, Operand.tmp 58), (1, Operand.tmp 80)], type := 26, pos := "l8_area.go:120", after := #[{ on := 21, ground := Ground.data }, { on := 43, ground := Ground.data }], guard := none }) (v := ?v105yx44u56) rfl (by kernel_rfl) (by kernel_rfl) (by kernel_rfl) (fun _ _ _ h => h) (Or.inl ⟨by rfl, ?hy105yx44u56⟩) (by with_reducible assumption) ?rest105yx44u56
          case hy105yx44u56 => (intro wS hSw; (try dsimp only at hSw); have z0 := cell_later hSw g0; have z1 := cell_later hSw g1; have z2 := cell_later hSw g2; have z3 := cell_later hSw g3; have z4 := cell_later hSw g4; have z5 := cell_later hSw g5; clear hSw; go_simp; try with_reducible rfl)
          case' rest105yx44u56 => (try simp only [Act.put, List.setIfInBounds_toArray, List.set_cons_zero, List.set_cons_succ])
          refine wpAnyH_ready (rs := [45]) (by kernel_rfl) (by simp) ?_
          refine AllReadyH.cons (o := { dst := none, op := Op.store 26 (Operand.tmp 5) (Operand.tmp 81), type := 0, pos := "l8_area.go:120", after := #[{ on := 44, ground := Ground.data }, { on := 0, ground := Ground.phase }, { on := 1, ground := Ground.phase }, { on := 2, ground := Ground.phase }, { on := 3, ground := Ground.phase }, { on := 4, ground := Ground.phase }, { on := 5, ground := Ground.phase }, { on := 6, ground := Ground.phase }, { on := 7, ground := Ground.phase }, { on := 8, ground := Ground.phase }, { on := 9, ground := Ground.phase }, { on := 10, ground := Ground.phase }, { on := 11, ground := Ground.phase }, { on := 12, ground := Ground.phase }, { on := 13, ground := Ground.phase }, { on := 14, ground := Ground.phase }, { on := 15, ground := Ground.phase }, { on := 16, ground := Ground.phase }, { on := 17, ground := Ground.phase }, { on := 18, ground := Ground.phase }, { on := 19, ground := Ground.phase }, { on := 20, ground := Ground.phase }, { on := 21, ground := Ground.phase }, { on := 22, ground := Ground.phase }, { on := 23, ground := Ground.phase }, { on := 24, ground := Ground.phase }, { on := 25, ground := Ground.phase }, { on := 26, ground := Ground.phase }, { on := 27, ground := Ground.phase }, { on := 28, ground := Ground.phase }, { on := 29, ground := Ground.phase }, { on := 30, ground := Ground.phase }, { on := 31, ground := Ground.phase }, { on := 32, ground := Ground.phase }, { on := 33, ground := Ground.phase }, { on := 34, ground := Ground.phase }, { on := 35, ground := Ground.phase }, { on := 36, ground := Ground.phase }, { on := 37, ground := Ground.phase }, { on := 38, ground := Ground.phase }, { on := 39, ground := Ground.phase }, { on := 40, ground := Ground.phase }, { on := 41, ground := Ground.phase }, { on := 42, ground := Ground.phase }, { on := 43, ground := Ground.phase }, { on := 44, ground := Ground.phase }], guard := none }) rfl (fun K hK => ?_) AllReadyH.nil
          go_simp
          refine hK.out _ _ ?_ (fun hHeld => ?_)
          · exact (hbw.setCell (p := ⟨B5, 0, none⟩) (show _ ≤ B5 by omega) _).setCell (p := ⟨B5, 1, none⟩) (show _ ≤ B5 by omega) _
          clear hK K
          try simp only [Act.put, List.setIfInBounds_toArray, List.set_cons_zero, List.set_cons_succ]
          refine wpAnyH_done (by kernel_rfl) ?_ _
          clear hHeld f50 f51 c50 c51
          replace hbw := (hbw.setCell (p := ⟨B5, 0, none⟩) (show _ ≤ B5 by omega) (.int .i64 (mx + NX))).setCell (p := ⟨B5, 1, none⟩) (show _ ≤ B5 by omega) (.int .i64 (my + NY))
          replace K2 := (K2.other (B' := B5) (i := 0) (by omega) (.int .i64 (mx + NX))).other (B' := B5) (i := 1) (by omega) (.int .i64 (my + NY))
          replace K5 := K5.set (mx + NX) (my + NY)
          go_wp2
          go_roundw
          case rel => exact ⟨k + 1, by omega, .inr (by omega), by go_num, K2, by rw [Nat.add_sub_cancel, HT.out]; exact K5, hbw⟩
          case measure => simp [intOf]; omega
        · go_simp
          refine hK.out _ _ ?_ (fun hHeld => ?_)
          · exact hbw
          clear hK K
          try simp only [Act.put, List.setIfInBounds_toArray, List.set_cons_zero, List.set_cons_succ]
          refine wpAnyH_take (i := 43) (oi := { dst := some 80, op := Op.binOp BinOp.add 3 (Operand.tmp 60) (Operand.tmp 79) 3, type := 3, pos := "l8_area.go:120", after := #[{ on := 23, ground := Ground.data }, { on := 42, ground := Ground.data }], guard := none }) (v := ?v106yx43u57) rfl (by kernel_rfl) (by kernel_rfl) (by kernel_rfl) (fun _ _ _ h => h) (Or.inl ⟨by rfl, ?hy106yx43u57⟩) (by with_reducible assumption) ?rest106yx43u57
          case hy106yx43u57 => (intro wS hSw; (try dsimp only at hSw); have z0 := cell_later hSw g0; have z1 := cell_later hSw g1; have z2 := cell_later hSw g2; have z3 := cell_later hSw g3; have z4 := cell_later hSw g4; have z5 := cell_later hSw g5; clear hSw; go_simp; try with_reducible rfl)
          case' rest106yx43u57 => (try simp only [Act.put, List.setIfInBounds_toArray, List.set_cons_zero, List.set_cons_succ])
          refine wpAnyH_ready (rs := [1]) (by kernel_rfl) (by simp) ?_
          refine AllReadyH.cons (o := { dst := some 38, op := Op.load 3 (Operand.tmp 37), type := 3, pos := "l8_area.go:120", after := #[{ on := 0, ground := Ground.data }], guard := none }) rfl (fun K hK => ?_) AllReadyH.nil
          go_simp
          refine hK.out _ _ ?_ (fun hHeld => ?_)
          · exact hbw
          clear hK K
          try simp only [Act.put, List.setIfInBounds_toArray, List.set_cons_zero, List.set_cons_succ]
          refine wpAnyH_take (i := 21) (oi := { dst := some 58, op := Op.binOp BinOp.add 3 (Operand.tmp 38) (Operand.tmp 57) 3, type := 3, pos := "l8_area.go:120", after := #[{ on := 1, ground := Ground.data }, { on := 20, ground := Ground.data }], guard := none }) (v := ?v107yx21u58) rfl (by kernel_rfl) (by kernel_rfl) (by kernel_rfl) (fun _ _ _ h => h) (Or.inl ⟨by rfl, ?hy107yx21u58⟩) (by with_reducible assumption) ?rest107yx21u58
          case hy107yx21u58 => (intro wS hSw; (try dsimp only at hSw); have z0 := cell_later hSw g0; have z1 := cell_later hSw g1; have z2 := cell_later hSw g2; have z3 := cell_later hSw g3; have z4 := cell_later hSw g4; have z5 := cell_later hSw g5; clear hSw; go_simp; try with_reducible rfl)
          case' rest107yx21u58 => (try simp only [Act.put, List.setIfInBounds_toArray, List.set_cons_zero, List.set_cons_succ])
          refine wpAnyH_take (i := 44) (oi := { dst := some 81, op := Op.build 26 #[(0, Operand.tmp 58), (1, Operand.tmp 80)], type := 26, pos := "l8_area.go:120", after := #[{ on := 21, ground := Ground.data }, { on := 43, ground := Ground.data }], guard := none }) (v := ?v108yx44u59) rfl (by kernel_rfl) (by kernel_rfl) (by kernel_rfl) (fun _ _ _ h => h) (Or.inl ⟨by rfl, ?hy108yx44u59⟩) (by with_reducible assumption) ?rest108yx44u59
          case hy108yx44u59 => (intro wS hSw; (try dsimp only at hSw); have z0 := cell_later hSw g0; have z1 := cell_later hSw g1; have z2 := cell_later hSw g2; have z3 := cell_later hSw g3; have z4 := cell_later hSw g4; have z5 := cell_later hSw g5; clear hSw; go_simp; try with_reducible rfl)
          case' rest108yx44u59 => (try simp only [Act.put, List.setIfInBounds_toArray, List.set_cons_zero, List.set_cons_succ])
          refine wpAnyH_ready (rs := [45]) (by kernel_rfl) (by simp) ?_
          refine AllReadyH.cons (o := { dst := none, op := Op.store 26 (Operand.tmp 5) (Operand.tmp 81), type := 0, pos := "l8_area.go:120", after := #[{ on := 44, ground := Ground.data }, { on := 0, ground := Ground.phase }, { on := 1, ground := Ground.phase }, { on := 2, ground := Ground.phase }, { on := 3, ground := Ground.phase }, { on := 4, ground := Ground.phase }, { on := 5, ground := Ground.phase }, { on := 6, ground := Ground.phase }, { on := 7, ground := Ground.phase }, { on := 8, ground := Ground.phase }, { on := 9, ground := Ground.phase }, { on := 10, ground := Ground.phase }, { on := 11, ground := Ground.phase }, { on := 12, ground := Ground.phase }, { on := 13, ground := Ground.phase }, { on := 14, ground := Ground.phase }, { on := 15, ground := Ground.phase }, { on := 16, ground := Ground.phase }, { on := 17, ground := Ground.phase }, { on := 18, ground := Ground.phase }, { on := 19, ground := Ground.phase }, { on := 20, ground := Ground.phase }, { on := 21, ground := Ground.phase }, { on := 22, ground := Ground.phase }, { on := 23, ground := Ground.phase }, { on := 24, ground := Ground.phase }, { on := 25, ground := Ground.phase }, { on := 26, ground := Ground.phase }, { on := 27, ground := Ground.phase }, { on := 28, ground := Ground.phase }, { on := 29, ground := Ground.phase }, { on := 30, ground := Ground.phase }, { on := 31, ground := Ground.phase }, { on := 32, ground := Ground.phase }, { on := 33, ground := Ground.phase }, { on := 34, ground := Ground.phase }, { on := 35, ground := Ground.phase }, { on := 36, ground := Ground.phase }, { on := 37, ground := Ground.phase }, { on := 38, ground := Ground.phase }, { on := 39, ground := Ground.phase }, { on := 40, ground := Ground.phase }, { on := 41, ground := Ground.phase }, { on := 42, ground := Ground.phase }, { on := 43, ground := Ground.phase }, { on := 44, ground := Ground.phase }], guard := none }) rfl (fun K hK => ?_) AllReadyH.nil
          go_simp
          refine hK.out _ _ ?_ (fun hHeld => ?_)
          · exact (hbw.setCell (p := ⟨B5, 0, none⟩) (show _ ≤ B5 by omega) _).setCell (p := ⟨B5, 1, none⟩) (show _ ≤ B5 by omega) _
          clear hK K
          try simp only [Act.put, List.setIfInBounds_toArray, List.set_cons_zero, List.set_cons_succ]
          refine wpAnyH_done (by kernel_rfl) ?_ _
          clear hHeld f50 f51 c50 c51
          replace hbw := (hbw.setCell (p := ⟨B5, 0, none⟩) (show _ ≤ B5 by omega) (.int .i64 (mx + NX))).setCell (p := ⟨B5, 1, none⟩) (show _ ≤ B5 by omega) (.int .i64 (my + NY))
          replace K2 := (K2.other (B' := B5) (i := 0) (by omega) (.int .i64 (mx + NX))).other (B' := B5) (i := 1) (by omega) (.int .i64 (my + NY))
          replace K5 := K5.set (mx + NX) (my + NY)
          go_wp2
          go_roundw
          case rel => exact ⟨k + 1, by omega, .inr (by omega), by go_num, K2, by rw [Nat.add_sub_cancel, HT.out]; exact K5, hbw⟩
          case measure => simp [intOf]; omega
      · have e : mdV l = midT l (k - 1) := by
          unfold mdV
          rw [E, if_pos rfl]
          congr 1
          omega
        have eN : mdN l = 3 * area8 l := by unfold mdN; rw [E, if_pos rfl]
        have ha := area8_small HG.out H60.out
        have HR := hid (rfl : area8 l = area8 l)
        have hw3 : IntKind.i64.wrap (3 * area8 l) = 3 * area8 l := by rw [IntKind.wrap_i64]; omega
        obtain ⟨AR, hAR⟩ : ∃ x, area8 l = x := ⟨_, rfl⟩
        replace HR := hid hAR
        rw [hAR] at hw3 eN
        have EV := hid e
        have EN := hid eN
        generalize midT l (k - 1) = bm at K5 EV
        clear e eN ha hAR
        go_upto_region 9 with fail
        refine wp_region_held_drew (S := (fun u => BoxP u B5 bm ∧ Below w.heap.size w u)) (by kernel_rfl) ?_ (fun hHeld => ?_)
        · exact ⟨K5.later (drewN_below 1 _), grew hbw (drewN_below 1 _)⟩
        have hd : Below wr.heap.size wr wr.drew := (Below.refl _ _).drew
        replace K2 := K2.later hd
        replace K5 := K5.later hd
        replace hbw := grew hbw hd
        clear hd hHeld
        generalize wr.drew = wd at *
        have hHeld : BoxP wd B5 bm ∧ Below w.heap.size w wd := ⟨K5, hbw⟩
        refine wpAnyH_take (i := 0) (oi := { dst := some 82, op := Op.load 26 (Operand.tmp 5), type := 26, pos := "l8_area.go:122", after := #[], guard := none }) (v := ?v110yx0u60) rfl (by kernel_rfl) (by kernel_rfl) (by kernel_rfl) (fun _ _ _ h => h) (Or.inl ⟨by rfl, ?hy110yx0u60⟩) (by with_reducible assumption) ?rest110yx0u60
        case hy110yx0u60 => (intro wS hSw; (try dsimp only at hSw); have z0 := hSw.1.c0; have z1 := hSw.1.c1; clear hSw; go_simp; try with_reducible rfl)
        case' rest110yx0u60 => (try simp only [Act.put, List.setIfInBounds_toArray, List.set_cons_zero, List.set_cons_succ])
        refine wpAnyH_take (i := 1) (oi := { dst := some 83, op := Op.move (Operand.tmp 0), type := 24, pos := "l8_area.go:122", after := #[], guard := none }) (v := ?v111yx1u61) rfl (by kernel_rfl) (by kernel_rfl) (by kernel_rfl) (fun _ _ _ h => h) (Or.inl ⟨by rfl, ?hy111yx1u61⟩) (by with_reducible assumption) ?rest111yx1u61
        case hy111yx1u61 => (intro wS hSw; (try dsimp only at hSw); have z0 := hSw.1.c0; have z1 := hSw.1.c1; clear hSw; go_simp; try with_reducible rfl)
        case' rest111yx1u61 => (try simp only [Act.put, List.setIfInBounds_toArray, List.set_cons_zero, List.set_cons_succ])
        refine wpAnyH_ready (rs := [2]) (by kernel_rfl) (by simp) ?_
        refine AllReadyH.cons (o := { dst := some 84, op := Op.call { callee := Callee.value (Operand.func 57), args := #[Operand.tmp 83], argTypes := #[24] }, type := 3, pos := "l8_area.go:122", after := #[{ on := 1, ground := Ground.data }], guard := none }) rfl (fun K hK => ?_) AllReadyH.nil
        go_simp
        refine (l8Area_c l _ _ _ wd rfl H60.out ((HA.out.later hbw).mono hbw.size) HG.out).mono ?_
        rw [HR.out]
        rintro e w3 ⟨rfl, hb3⟩
        go_wp2_with fail
        refine hK.out _ _ ?_ (fun hHeld => ?_)
        · exact ⟨K5.later hb3, grew hbw hb3⟩
        replace K2 := K2.later hb3
        replace K5 := K5.later hb3
        replace hbw := grew hbw hb3
        clear hb3
        clear hK K
        try simp only [Act.put, List.setIfInBounds_toArray, List.set_cons_zero, List.set_cons_succ]
        refine wpAnyH_take (i := 3) (oi := { dst := some 85, op := Op.binOp BinOp.mul 3 (Operand.const (Value.int IntKind.i64 3)) (Operand.tmp 84) 3, type := 3, pos := "l8_area.go:122", after := #[{ on := 2, ground := Ground.data }, { on := 4, ground := Ground.gcOnly Departure.lateStores }], guard := none }) (v := ?v112yx3u62) rfl (by kernel_rfl) (by kernel_rfl) (by kernel_rfl) (fun _ _ _ h => h) (Or.inl ⟨by rfl, ?hy112yx3u62⟩) (by with_reducible assumption) ?rest112yx3u62
        case hy112yx3u62 => (intro wS hSw; (try dsimp only at hSw); have z0 := hSw.1.c0; have z1 := hSw.1.c1; clear hSw; go_simp; try with_reducible rfl)
        case' rest112yx3u62 => (try simp only [Act.put, List.setIfInBounds_toArray, List.set_cons_zero, List.set_cons_succ])
        refine wpAnyH_ready (rs := [4]) (by kernel_rfl) (by simp) ?_
        refine AllReadyH.cons (o := { dst := none, op := Op.store 26 (Operand.tmp 2) (Operand.tmp 82), type := 0, pos := "l8_area.go:122", after := #[{ on := 0, ground := Ground.data }, { on := 2, ground := Ground.chain }, { on := 0, ground := Ground.phase }, { on := 1, ground := Ground.textOnly Departure.lateStores }, { on := 2, ground := Ground.textOnly Departure.lateStoresUnsure }, { on := 3, ground := Ground.textOnly Departure.lateStores }], guard := none }) rfl (fun K hK => ?_) AllReadyH.nil
        have f20 := K2.f 0
        have f21 := K2.f 1
        have c20 := K2.c0
        have c21 := K2.c1
        go_simp
        refine hK.out _ _ ?_ (fun hHeld => ?_)
        · exact ⟨(K5.other (B' := B2) (i := 0) (by omega) _).other (B' := B2) (i := 1) (by omega) _, (hbw.setCell (p := ⟨B2, 0, none⟩) (show _ ≤ B2 by omega) _).setCell (p := ⟨B2, 1, none⟩) (show _ ≤ B2 by omega) _⟩
        clear f20 f21 c20 c21 hHeld
        replace hbw := (hbw.setCell (p := ⟨B2, 0, none⟩) (show _ ≤ B2 by omega) (.int .i64 bm.1)).setCell (p := ⟨B2, 1, none⟩) (show _ ≤ B2 by omega) (.int .i64 bm.2)
        replace K5 := (K5.other (B' := B2) (i := 0) (by omega) (.int .i64 bm.1)).other (B' := B2) (i := 1) (by omega) (.int .i64 bm.2)
        replace K2 := K2.set bm.1 bm.2
        generalize (w3.setCell ⟨B2, 0, none⟩ (.int .i64 bm.1)).setCell ⟨B2, 1, none⟩ (.int .i64 bm.2) = w4 at *
        have hHeld : BoxP w4 B5 bm ∧ Below w.heap.size w w4 := ⟨K5, hbw⟩
        clear hK K
        try simp only [Act.put, List.setIfInBounds_toArray, List.set_cons_zero, List.set_cons_succ]
        refine wpAnyH_take (i := 5) (oi := { dst := some 3, op := Op.assign (Operand.tmp 85), type := 3, pos := "l8_area.go:122", after := #[{ on := 3, ground := Ground.data }, { on := 4, ground := Ground.chain }, { on := 0, ground := Ground.phase }, { on := 1, ground := Ground.phase }, { on := 2, ground := Ground.phase }, { on := 3, ground := Ground.phase }, { on := 4, ground := Ground.phase }], guard := none }) (v := ?v113yx5u63) rfl (by kernel_rfl) (by kernel_rfl) (by kernel_rfl) (fun _ _ _ h => h) (Or.inl ⟨by rfl, ?hy113yx5u63⟩) (by with_reducible assumption) ?rest113yx5u63
        case hy113yx5u63 => (intro wS hSw; (try dsimp only at hSw); have z0 := hSw.1.c0; have z1 := hSw.1.c1; clear hSw; go_simp; try with_reducible rfl)
        case' rest113yx5u63 => (try simp only [Act.put, List.setIfInBounds_toArray, List.set_cons_zero, List.set_cons_succ])
        refine wpAnyH_take (i := 6) (oi := { dst := some 4, op := Op.assign (Operand.const (Value.bool true)), type := 4, pos := "l8_area.go:122", after := #[{ on := 5, ground := Ground.chain }, { on := 0, ground := Ground.phase }, { on := 1, ground := Ground.phase }, { on := 2, ground := Ground.phase }, { on := 3, ground := Ground.phase }, { on := 4, ground := Ground.phase }, { on := 5, ground := Ground.phase }], guard := none }) (v := ?v114yx6u64) rfl (by kernel_rfl) (by kernel_rfl) (by kernel_rfl) (fun _ _ _ h => h) (Or.inl ⟨by rfl, ?hy114yx6u64⟩) (by with_reducible assumption) ?rest114yx6u64
        case hy114yx6u64 => (intro wS hSw; (try dsimp only at hSw); have z0 := hSw.1.c0; have z1 := hSw.1.c1; clear hSw; go_simp; try with_reducible rfl)
        case' rest114yx6u64 => (try simp only [Act.put, List.setIfInBounds_toArray, List.set_cons_zero, List.set_cons_succ])
        refine wpAnyH_done (by kernel_rfl) ?_ _
        have c20 := K2.c0
        have c21 := K2.c1
        go_wp2
        refine bodyPost_ret (v := .tuple #[.agg #[.int .i64 bm.1, .int .i64 bm.2], .int .i64 (3 * AR), .bool true]) (by simp [results, Tryd.results22, go_sem, c20, c21]) rfl ?_
        exact ⟨ret_mid EV.out.symm EN.out.symm (by first | rfl | exact E.symm), by first | exact hbw | (rw [hB2]; exact hbw) | (rw [← hB2] at hbw; exact hbw) | (rw [hB2] at hbw; exact hbw)⟩
end Go.Proofs.YtohcllojjmhbcaaDoor
