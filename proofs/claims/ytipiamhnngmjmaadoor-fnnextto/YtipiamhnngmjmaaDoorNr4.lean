/-
  The point of a set that is nearest to a point, and those within a bound: the program's functions and the specification's (contracts for the walks).
  Conditions: as each theorem states them.
-/
import Derived.Test.YtipiamhnngmjmaaDoorNr2
namespace Go.Proofs.YtipiamhnngmjmaaDoor
open Go.RowKit Go.Shelf
set_option linter.unusedVariables false
set_option maxRecDepth 8000
def nxOk (l : List (Int × Int)) (x y : Int) : Bool := goodL l && !decide (l.length = 0) && goodB x y
def nxV (l : List (Int × Int)) (x y : Int) : Int × Int := if nxOk l x y = true then nxT l (x, y) else (0, 0)
def wiOk (l : List (Int × Int)) (x y m : Int) : Bool := goodL l && goodB x y && decide (0 ≤ m)
def wiV (l : List (Int × Int)) (x y m : Int) : List (Int × Int) := if wiOk l x y m = true then wth l (x, y) m else []
theorem wiV_len (l : List (Int × Int)) (x y m : Int) : (wiV l x y m).length ≤ l.length := by
  unfold wiV
  split
  · exact wth_len _ _ _
  · exact Nat.zero_le _
theorem ret_pb {a b a' b' : Int} {x y : Bool} (h1 : a = a') (h2 : b = b') (k : x = y) : Ending.returned (.tuple #[.agg #[.int .i64 a, .int .i64 b], .bool x]) = .returned (.tuple #[.agg #[.int .i64 a', .int .i64 b'], .bool y]) := by rw [h1, h2, k]
theorem ret_vb {v u : Value} {a b : Bool} (h : v = u) (k : a = b) : Ending.returned (.tuple #[v, .bool a]) = .returned (.tuple #[u, .bool b]) := by rw [h, k]
set_option maxHeartbeats 8000000 in
theorem nextImpl_c (l : List (Int × Int)) (x y : Int) (a : Option Addr) (len cap : Nat) (w : World) (hl : l.length = len) (h1 : len ≤ 1048576) (hA : At w.heap.size a l w) (c0 : w.cell? ⟨0, 0, none⟩ = some (.int .i64 1000000)) :
    Calls Tryd.prog 32 #[.slice a len cap, .agg #[.int .i64 x, .int .i64 y]] w fun e w' => e = .returned (.tuple #[.agg #[.int .i64 (nxV l x y).1, .int .i64 (nxV l x y).2], .bool (nxOk l x y)]) ∧ Below w.heap.size w w' := by
  subst hl
  have HA := hid hA
  have C0 := hid c0
  clear hA c0
  cases hG : goodL l
  · have HK : Hid (nxOk l x y = false) := by unfold nxOk; rw [hG]; rfl
    go_enter Tryd.func32, Tryd.ntmps32
    go_upto_region 1 with fail
    have K4 := BoxP.new (w.alloc (.cells #[.int .i64 x, .int .i64 y] 26)) 0 0
    have K3 := (BoxP.new w x y).later ((Below.refl _ (w.alloc (.cells #[.int .i64 x, .int .i64 y] 26))).alloc (Nat.le_refl _) (.cells #[.int .i64 0, .int .i64 0] 26))
    simp only [World.size_alloc] at K4
    have hb : Below w.heap.size w ((w.alloc (.cells #[.int .i64 x, .int .i64 y] 26)).alloc (.cells #[.int .i64 0, .int .i64 0] 26)) := by go_grown
    generalize (w.alloc (.cells #[.int .i64 x, .int .i64 y] 26)).alloc (.cells #[.int .i64 0, .int .i64 0] 26) = w0 at K3 K4 hb ⊢
    have c30 := K3.c0
    have c31 := K3.c1
    have n34 : w.heap.size ≠ w.heap.size + 1 := by omega
    go_wp2_with (go_at_call 52; refine (goodSetImpl_c l _ _ _ _ rfl h1 ((HA.out.later hb).mono hb.size) (cell_later hb C0.out)).mono ?_; rw [hG]; rintro e w1 ⟨rfl, hb1⟩; replace K3 := K3.later hb1; replace K4 := K4.later hb1; replace hb := grew hb hb1; clear hb1; have c30 := K3.c0; have c31 := K3.c1; have c40 := K4.c0; have c41 := K4.c1; have f40 := K4.f 0; have f41 := K4.f 1)
    have Z4 := K4.set 0 0
    have hz := (hb.setCell (p := ⟨w.heap.size + 1, 0, none⟩) (Nat.le_succ _) (.int .i64 0)).setCell (p := ⟨w.heap.size + 1, 1, none⟩) (Nat.le_succ _) (.int .i64 0)
    generalize (w1.setCell ⟨w.heap.size + 1, 0, none⟩ (.int .i64 0)).setCell ⟨w.heap.size + 1, 1, none⟩ (.int .i64 0) = wz at Z4 hz ⊢
    have r0 := Z4.c0
    have r1 := Z4.c1
    refine bodyPost_ret (v := .tuple #[.agg #[.int .i64 0, .int .i64 0], .bool false]) (by simp [results, Tryd.results32, go_sem, r0, r1]) rfl ?_
    exact ⟨ret_pb (by unfold nxV; rw [HK.out]; rfl) (by unfold nxV; rw [HK.out]; rfl) HK.out.symm, hz⟩
  · by_cases h0 : l.length = 0
    · have HK : Hid (nxOk l x y = false) := by unfold nxOk; rw [hG, decide_eq_true h0]; rfl
      have h02 : ((l.length : Int) == 0) = true := by rw [h0]; rfl
      clear h0
      go_enter Tryd.func32, Tryd.ntmps32
      go_upto_region 1 with fail
      have K4 := BoxP.new (w.alloc (.cells #[.int .i64 x, .int .i64 y] 26)) 0 0
      have K3 := (BoxP.new w x y).later ((Below.refl _ (w.alloc (.cells #[.int .i64 x, .int .i64 y] 26))).alloc (Nat.le_refl _) (.cells #[.int .i64 0, .int .i64 0] 26))
      simp only [World.size_alloc] at K4
      have hb : Below w.heap.size w ((w.alloc (.cells #[.int .i64 x, .int .i64 y] 26)).alloc (.cells #[.int .i64 0, .int .i64 0] 26)) := by go_grown
      generalize (w.alloc (.cells #[.int .i64 x, .int .i64 y] 26)).alloc (.cells #[.int .i64 0, .int .i64 0] 26) = w0 at K3 K4 hb ⊢
      have c30 := K3.c0
      have c31 := K3.c1
      have n34 : w.heap.size ≠ w.heap.size + 1 := by omega
      go_wp2_with (go_at_call 52; refine (goodSetImpl_c l _ _ _ _ rfl h1 ((HA.out.later hb).mono hb.size) (cell_later hb C0.out)).mono ?_; rw [hG]; rintro e w1 ⟨rfl, hb1⟩; replace K3 := K3.later hb1; replace K4 := K4.later hb1; replace hb := grew hb hb1; clear hb1; have c30 := K3.c0; have c31 := K3.c1; have c40 := K4.c0; have c41 := K4.c1; have f40 := K4.f 0; have f41 := K4.f 1)
      have Z4 := K4.set 0 0
      have hz := (hb.setCell (p := ⟨w.heap.size + 1, 0, none⟩) (Nat.le_succ _) (.int .i64 0)).setCell (p := ⟨w.heap.size + 1, 1, none⟩) (Nat.le_succ _) (.int .i64 0)
      generalize (w1.setCell ⟨w.heap.size + 1, 0, none⟩ (.int .i64 0)).setCell ⟨w.heap.size + 1, 1, none⟩ (.int .i64 0) = wz at Z4 hz ⊢
      have r0 := Z4.c0
      have r1 := Z4.c1
      refine bodyPost_ret (v := .tuple #[.agg #[.int .i64 0, .int .i64 0], .bool false]) (by simp [results, Tryd.results32, go_sem, r0, r1]) rfl ?_
      exact ⟨ret_pb (by unfold nxV; rw [HK.out]; rfl) (by unfold nxV; rw [HK.out]; rfl) HK.out.symm, hz⟩
    · have h02 : ((l.length : Int) == 0) = false := by rw [beq_eq_false_iff_ne]; omega
      have h03 : ¬ (l.length : Int) = 0 := by omega
      cases hP : goodB x y
      · have HK := hid (show nxOk l x y = false by unfold nxOk; rw [hP, Bool.and_false])
        go_enter Tryd.func32, Tryd.ntmps32
        go_upto_region 1 with fail
        have K4 := BoxP.new (w.alloc (.cells #[.int .i64 x, .int .i64 y] 26)) 0 0
        have K3 := (BoxP.new w x y).later ((Below.refl _ (w.alloc (.cells #[.int .i64 x, .int .i64 y] 26))).alloc (Nat.le_refl _) (.cells #[.int .i64 0, .int .i64 0] 26))
        simp only [World.size_alloc] at K4
        have hb : Below w.heap.size w ((w.alloc (.cells #[.int .i64 x, .int .i64 y] 26)).alloc (.cells #[.int .i64 0, .int .i64 0] 26)) := by go_grown
        generalize (w.alloc (.cells #[.int .i64 x, .int .i64 y] 26)).alloc (.cells #[.int .i64 0, .int .i64 0] 26) = w0 at K3 K4 hb ⊢
        have c30 := K3.c0
        have c31 := K3.c1
        have n34 : w.heap.size ≠ w.heap.size + 1 := by omega
        go_wp2_with (first
          | (go_at_call 52; refine (goodSetImpl_c l _ _ _ _ rfl h1 ((HA.out.later hb).mono hb.size) (cell_later hb C0.out)).mono ?_; rw [hG]; rintro e w1 ⟨rfl, hb1⟩; replace K3 := K3.later hb1; replace K4 := K4.later hb1; replace hb := grew hb hb1; clear hb1; have c30 := K3.c0; have c31 := K3.c1; have c40 := K4.c0; have c41 := K4.c1; have f40 := K4.f 0; have f41 := K4.f 1)
          | (go_at_call 48; refine (goodImpl_c _ _ _ (cell_later hb C0.out)).mono ?_; rw [hP]; rintro e w2 ⟨rfl, hw2⟩; have hb1 : Below w1.heap.size w1 w2 := (by rw [← hw2]; go_grown); clear hw2; replace K3 := K3.later hb1; replace K4 := K4.later hb1; replace hb := grew hb hb1; clear hb1; have c30 := K3.c0; have c31 := K3.c1; have c40 := K4.c0; have c41 := K4.c1; have f40 := K4.f 0; have f41 := K4.f 1))
        have Z4 := K4.set 0 0
        have hz := (hb.setCell (p := ⟨w.heap.size + 1, 0, none⟩) (Nat.le_succ _) (.int .i64 0)).setCell (p := ⟨w.heap.size + 1, 1, none⟩) (Nat.le_succ _) (.int .i64 0)
        generalize (w2.setCell ⟨w.heap.size + 1, 0, none⟩ (.int .i64 0)).setCell ⟨w.heap.size + 1, 1, none⟩ (.int .i64 0) = wz at Z4 hz ⊢
        have r0 := Z4.c0
        have r1 := Z4.c1
        refine bodyPost_ret (v := .tuple #[.agg #[.int .i64 0, .int .i64 0], .bool false]) (by simp [results, Tryd.results32, go_sem, r0, r1]) rfl ?_
        exact ⟨ret_pb (by unfold nxV; rw [HK.out]; rfl) (by unfold nxV; rw [HK.out]; rfl) HK.out.symm, hz⟩
      · have HK : Hid (nxOk l x y = true) := by unfold nxOk; rw [hG, hP, decide_eq_false h0]; rfl
        have HG := hid (goodL_all hG)
        have HGQ := hid hP
        obtain ⟨b, off, rfl, hbN, g0, g1⟩ := HA.out 0 (by omega)
        obtain ⟨sx, hsx⟩ : ∃ x, px l 0 = x := ⟨_, rfl⟩
        obtain ⟨sy, hsy⟩ : ∃ x, py l 0 = x := ⟨_, rfl⟩
        have HS0 : Hid (pt l 0 = (sx, sy)) := by rw [← hsx, ← hsy]; exact rfl
        have HGS : Hid (gp (sx, sy)) := by rw [← hsx, ← hsy]; exact HG.out _ (pt_mem (l := l) (i := 0) (by omega))
        rw [hsx] at g0
        rw [hsy] at g1
        clear hsx hsy
        simp only [Nat.zero_mul, Nat.add_zero] at g0 g1
        have hp0 : (0 : Int) < (l.length : Int) := by omega
        go_enter Tryd.func32, Tryd.ntmps32
        go_upto_region 1 with fail
        have K4 := BoxP.new (w.alloc (.cells #[.int .i64 x, .int .i64 y] 26)) 0 0
        have K3 := (BoxP.new w x y).later ((Below.refl _ (w.alloc (.cells #[.int .i64 x, .int .i64 y] 26))).alloc (Nat.le_refl _) (.cells #[.int .i64 0, .int .i64 0] 26))
        simp only [World.size_alloc] at K4
        have hb : Below w.heap.size w ((w.alloc (.cells #[.int .i64 x, .int .i64 y] 26)).alloc (.cells #[.int .i64 0, .int .i64 0] 26)) := by go_grown
        generalize (w.alloc (.cells #[.int .i64 x, .int .i64 y] 26)).alloc (.cells #[.int .i64 0, .int .i64 0] 26) = w0 at K3 K4 hb ⊢
        have c30 := K3.c0
        have c31 := K3.c1
        have n34 : w.heap.size ≠ w.heap.size + 1 := by omega
        go_upto_region 3 with (first
          | (go_at_call 52; refine (goodSetImpl_c l _ _ _ _ rfl h1 ((HA.out.later hb).mono hb.size) (cell_later hb C0.out)).mono ?_; rw [hG]; rintro e w1 ⟨rfl, hb1⟩; replace K3 := K3.later hb1; replace K4 := K4.later hb1; replace hb := grew hb hb1; clear hb1; have c30 := K3.c0; have c31 := K3.c1; have c40 := K4.c0; have c41 := K4.c1; have f40 := K4.f 0; have f41 := K4.f 1)
          | (go_at_call 48; refine (goodImpl_c _ _ _ (cell_later hb C0.out)).mono ?_; rw [hP]; rintro e w2 ⟨rfl, hw2⟩; have hb1 : Below w1.heap.size w1 w2 := (by rw [← hw2]; go_grown); clear hw2; replace K3 := K3.later hb1; replace K4 := K4.later hb1; replace hb := grew hb hb1; clear hb1; have c30 := K3.c0; have c31 := K3.c1; have c40 := K4.c0; have c41 := K4.c1; have f40 := K4.f 0; have f41 := K4.f 1))
        clear hG hP h02 h03 c40 c41 f40 f41 c30 c31
        have q0 := (hb.cell (p := ⟨b, off, none⟩) hbN).trans g0
        have q1 := (hb.cell (p := ⟨b, off + 1, none⟩) hbN).trans g1
        go_upto_region 4 with fail
        have K6 := BoxP.new w2 sx sy
        have hb6 : Below w2.heap.size w2 (w2.alloc (.cells #[.int .i64 sx, .int .i64 sy] 26)) := by go_grown
        have a4 := K4.lt
        replace K3 := K3.later hb6
        replace K4 := K4.later hb6
        have hsz := hb.size
        replace hb := grew hb hb6
        clear q0 q1 g0 g1 hb6
        have m6 : w.heap.size ≤ w2.heap.size := hsz
        have n36 : w.heap.size ≠ w2.heap.size := by omega
        have n46 : w.heap.size + 1 ≠ w2.heap.size := by omega
        clear hsz a4
        generalize w2.heap.size = B6 at K6 m6 n36 n46 ⊢
        generalize w2.alloc (.cells #[.int .i64 sx, .int .i64 sy] 26) = w3 at K3 K4 K6 hb ⊢
        go_wp2
        go_loopw [28] (fun i wr => ∃ (k : Nat) (s : Int × Int), k ≤ l.length ∧ i = .int .i64 k ∧ s = (l.take k).foldl (nstep (x, y)) (sx, sy) ∧ gp s ∧ BoxP wr w.heap.size (x, y) ∧ BoxP wr (w.heap.size + 1) (0, 0) ∧ BoxP wr B6 s ∧ Below w.heap.size w wr) (fun i _ => l.length - (intOf i).toNat)
        case atStart => exact ⟨0, (sx, sy), Nat.zero_le _, rfl, rfl, HGS.out, K3, K4, K6, hb⟩
        case round =>
          clear K3 K4 K6 hb HGS
          obtain ⟨k, ⟨bx, b_y⟩, hk, rfl, hst, hgs, K3, K4, K6, hbw⟩ := hrel
          have HGB : Hid (goodB bx b_y = true) := hid hgs
          have HST := hid hst
          clear hst hgs
          by_cases hkl : k < l.length
          · have HNX := hid (nx_step hkl (q := (x, y)) (sx, sy))
            obtain ⟨b2, off2, e1, hbN2, g0, g1⟩ := HA.out k hkl
            cases e1
            have q0 := (hbw.cell (p := ⟨b, off + k * 2, none⟩) hbN).trans g0
            have q1 := (hbw.cell (p := ⟨b, off + k * 2 + 1, none⟩) hbN).trans g1
            obtain ⟨ax, hax⟩ : ∃ x, px l k = x := ⟨_, rfl⟩
            obtain ⟨ay, hay⟩ : ∃ x, py l k = x := ⟨_, rfl⟩
            have HPA : Hid (pt l k = (ax, ay)) := by rw [← hax, ← hay]; exact rfl
            have HGA : Hid (goodB ax ay = true) := by rw [← hax, ← hay]; exact HG.out _ (pt_mem (l := l) (i := k) hkl)
            rw [hax] at q0
            rw [hay] at q1
            clear hax hay g0 g1 hbN2
            obtain ⟨u, hu⟩ : ∃ u, apF (ax, ay) (x, y) = u := ⟨_, rfl⟩
            obtain ⟨v, hv⟩ : ∃ v, apF (bx, b_y) (x, y) = v := ⟨_, rfl⟩
            have HAQ := hid hu
            have HBQ := hid hv
            clear hu hv
            have k0 : (0 : Int) ≤ (k : Int) := by omega
            have k1 : (k : Int) < (l.length : Int) := by omega
            go_upto_region 7 with fail
            have K8 := BoxP.new wr ax ay
            have hb8 : Below wr.heap.size wr (wr.alloc (.cells #[.int .i64 ax, .int .i64 ay] 26)) := by go_grown
            replace K3 := K3.later hb8
            replace K4 := K4.later hb8
            replace K6 := K6.later hb8
            replace hbw := grew hbw hb8
            clear q0 q1 hb8
            generalize wr.heap.size = B8 at K8 ⊢
            generalize wr.alloc (.cells #[.int .i64 ax, .int .i64 ay] 26) = wp at K3 K4 K6 K8 hbw ⊢
            have ca0 := K8.c0
            have ca1 := K8.c1
            have cq0 := K3.c0
            have cq1 := K3.c1
            have cb0 := K6.c0
            have cb1 := K6.c1
            by_cases hE : u < v
            · have HEE := hid hE
              refine wp_region_held_drew (S := (fun u => Below wp.heap.size wp u)) (by kernel_rfl) ?_ (fun hHeld => ?_)
              · exact (Below.refl _ _).drew
              refine wpAnyH_take (i := 0) (oi := { dst := some 32, op := Op.load 26 (Operand.tmp 8), type := 26, pos := "l10_pairs.go:75", after := #[], guard := none }) (v := ?v2yx0) rfl (by kernel_rfl) (by kernel_rfl) (by kernel_rfl) (fun _ _ _ h => h) (Or.inl ⟨by rfl, ?hy2yx0⟩) (by with_reducible assumption) ?rest2yx0
              case hy2yx0 => (intro wS hSw; (try dsimp only at hSw); have z0 := cell_later hSw ca0; have z1 := cell_later hSw ca1; have z2 := cell_later hSw cq0; have z3 := cell_later hSw cq1; have z4 := cell_later hSw cb0; have z5 := cell_later hSw cb1; clear hSw; go_simp; try with_reducible rfl)
              case' rest2yx0 => (try simp only [Act.put, List.setIfInBounds_toArray, List.set_cons_zero, List.set_cons_succ])
              refine wpAnyH_take (i := 1) (oi := { dst := some 33, op := Op.load 26 (Operand.tmp 3), type := 26, pos := "l10_pairs.go:75", after := #[], guard := none }) (v := ?v3yx1) rfl (by kernel_rfl) (by kernel_rfl) (by kernel_rfl) (fun _ _ _ h => h) (Or.inl ⟨by rfl, ?hy3yx1⟩) (by with_reducible assumption) ?rest3yx1
              case hy3yx1 => (intro wS hSw; (try dsimp only at hSw); have z0 := cell_later hSw ca0; have z1 := cell_later hSw ca1; have z2 := cell_later hSw cq0; have z3 := cell_later hSw cq1; have z4 := cell_later hSw cb0; have z5 := cell_later hSw cb1; clear hSw; go_simp; try with_reducible rfl)
              case' rest3yx1 => (try simp only [Act.put, List.setIfInBounds_toArray, List.set_cons_zero, List.set_cons_succ])
              refine wpAnyH_take (i := 3) (oi := { dst := some 35, op := Op.load 26 (Operand.tmp 6), type := 26, pos := "l10_pairs.go:75", after := #[], guard := none }) (v := ?v4yx3) rfl (by kernel_rfl) (by kernel_rfl) (by kernel_rfl) (fun _ _ _ h => h) (Or.inl ⟨by rfl, ?hy4yx3⟩) (by with_reducible assumption) ?rest4yx3
              case hy4yx3 => (intro wS hSw; (try dsimp only at hSw); have z0 := cell_later hSw ca0; have z1 := cell_later hSw ca1; have z2 := cell_later hSw cq0; have z3 := cell_later hSw cq1; have z4 := cell_later hSw cb0; have z5 := cell_later hSw cb1; clear hSw; go_simp; try with_reducible rfl)
              case' rest4yx3 => (try simp only [Act.put, List.setIfInBounds_toArray, List.set_cons_zero, List.set_cons_succ])
              refine wpAnyH_take (i := 4) (oi := { dst := some 36, op := Op.load 26 (Operand.tmp 3), type := 26, pos := "l10_pairs.go:75", after := #[], guard := none }) (v := ?v5yx4) rfl (by kernel_rfl) (by kernel_rfl) (by kernel_rfl) (fun _ _ _ h => h) (Or.inl ⟨by rfl, ?hy5yx4⟩) (by with_reducible assumption) ?rest5yx4
              case hy5yx4 => (intro wS hSw; (try dsimp only at hSw); have z0 := cell_later hSw ca0; have z1 := cell_later hSw ca1; have z2 := cell_later hSw cq0; have z3 := cell_later hSw cq1; have z4 := cell_later hSw cb0; have z5 := cell_later hSw cb1; clear hSw; go_simp; try with_reducible rfl)
              case' rest5yx4 => (try simp only [Act.put, List.setIfInBounds_toArray, List.set_cons_zero, List.set_cons_succ])
              refine wpAnyH_ready (rs := [2]) (by kernel_rfl) (by simp) ?_
              refine AllReadyH.cons (o := { dst := some 34, op := Op.call { callee := Callee.value (Operand.func 49), args := #[Operand.tmp 32, Operand.tmp 33], argTypes := #[26, 26] }, type := 3, pos := "l10_pairs.go:75", after := #[{ on := 0, ground := Ground.data }, { on := 1, ground := Ground.data }], guard := none }) rfl (fun K hK => ?_) AllReadyH.nil
              go_simp
              refine (apart_q _ _ _ _ _ _ HGA.out HGQ.out HAQ.out).mono ?_
              rintro e w2 ⟨rfl, hb2⟩
              go_wp2_with fail
              refine hK.out _ _ ?_ (fun hHeld => ?_)
              · exact grew (by with_reducible assumption) hb2
              clear hK K
              try simp only [Act.put, List.setIfInBounds_toArray, List.set_cons_zero, List.set_cons_succ]
              refine wpAnyH_ready (rs := [5]) (by kernel_rfl) (by simp) ?_
              refine AllReadyH.cons (o := { dst := some 37, op := Op.call { callee := Callee.value (Operand.func 49), args := #[Operand.tmp 35, Operand.tmp 36], argTypes := #[26, 26] }, type := 3, pos := "l10_pairs.go:75", after := #[{ on := 3, ground := Ground.data }, { on := 4, ground := Ground.data }, { on := 2, ground := Ground.chain }], guard := none }) rfl (fun K hK => ?_) AllReadyH.nil
              go_simp
              refine (apart_q _ _ _ _ _ _ HGB.out HGQ.out HBQ.out).mono ?_
              rintro e w5 ⟨rfl, hb5⟩
              go_wp2_with fail
              refine hK.out _ _ ?_ (fun hHeld => ?_)
              · exact grew (by with_reducible assumption) hb5
              clear hK K
              try simp only [Act.put, List.setIfInBounds_toArray, List.set_cons_zero, List.set_cons_succ]
              refine wpAnyH_take (i := 6) (oi := { dst := some 38, op := Op.binOp BinOp.lss 3 (Operand.tmp 34) (Operand.tmp 37) 3, type := 4, pos := "l10_pairs.go:75", after := #[{ on := 2, ground := Ground.data }, { on := 5, ground := Ground.data }], guard := none }) (v := ?v6yx6) rfl (by kernel_rfl) (by kernel_rfl) (by kernel_rfl) (fun _ _ _ h => h) (Or.inl ⟨by rfl, ?hy6yx6⟩) (by with_reducible assumption) ?rest6yx6
              case hy6yx6 => (intro wS hSw; (try dsimp only at hSw); have z0 := cell_later hSw ca0; have z1 := cell_later hSw ca1; have z2 := cell_later hSw cq0; have z3 := cell_later hSw cq1; have z4 := cell_later hSw cb0; have z5 := cell_later hSw cb1; clear hSw; go_simp; try with_reducible rfl)
              case' rest6yx6 => (try simp only [Act.put, List.setIfInBounds_toArray, List.set_cons_zero, List.set_cons_succ])
              refine wpAnyH_done (by kernel_rfl) ?_ _
              have hbx : Below wp.heap.size wp w5 := (by with_reducible assumption)
              clear ca0 ca1 cb0 cb1 cq0 cq1
              replace K3 := K3.later hbx
              replace K4 := K4.later hbx
              replace K6 := K6.later hbx
              replace K8 := K8.later hbx
              replace hbw := grew hbw hbx
              have d0 := K8.c0
              have d1 := K8.c1
              have d2 := K6.c0
              have d3 := K6.c1
              have f0 := K6.f 0
              have f1 := K6.f 1
              have Q6 := K6.set ax ay
              have Q3 := (K3.other (i := 0) (B' := B6) n36 (.int .i64 ax)).other (i := 1) (B' := B6) n36 (.int .i64 ay)
              have Q4 := (K4.other (i := 0) (B' := B6) n46 (.int .i64 ax)).other (i := 1) (B' := B6) n46 (.int .i64 ay)
              have hbq := (hbw.setCell (p := ⟨B6, 0, none⟩) m6 (.int .i64 ax)).setCell (p := ⟨B6, 1, none⟩) m6 (.int .i64 ay)
              go_wp2
              go_roundw
              case rel => exact ⟨k + 1, (ax, ay), by omega, by go_num, by rw [HNX.out, ← HST.out, HPA.out]; unfold nstep; rw [if_pos (by rw [HAQ.out, HBQ.out]; exact HEE.out)], HGA.out, Q3, Q4, Q6, hbq⟩
              case measure => simp [intOf]; omega
            · have HEE := hid (show v ≤ u by omega)
              refine wp_region_held_drew (S := (fun u => Below wp.heap.size wp u)) (by kernel_rfl) ?_ (fun hHeld => ?_)
              · exact (Below.refl _ _).drew
              refine wpAnyH_take (i := 0) (oi := { dst := some 32, op := Op.load 26 (Operand.tmp 8), type := 26, pos := "l10_pairs.go:75", after := #[], guard := none }) (v := ?v8yx0) rfl (by kernel_rfl) (by kernel_rfl) (by kernel_rfl) (fun _ _ _ h => h) (Or.inl ⟨by rfl, ?hy8yx0⟩) (by with_reducible assumption) ?rest8yx0
              case hy8yx0 => (intro wS hSw; (try dsimp only at hSw); have z0 := cell_later hSw ca0; have z1 := cell_later hSw ca1; have z2 := cell_later hSw cq0; have z3 := cell_later hSw cq1; have z4 := cell_later hSw cb0; have z5 := cell_later hSw cb1; clear hSw; go_simp; try with_reducible rfl)
              case' rest8yx0 => (try simp only [Act.put, List.setIfInBounds_toArray, List.set_cons_zero, List.set_cons_succ])
              refine wpAnyH_take (i := 1) (oi := { dst := some 33, op := Op.load 26 (Operand.tmp 3), type := 26, pos := "l10_pairs.go:75", after := #[], guard := none }) (v := ?v9yx1) rfl (by kernel_rfl) (by kernel_rfl) (by kernel_rfl) (fun _ _ _ h => h) (Or.inl ⟨by rfl, ?hy9yx1⟩) (by with_reducible assumption) ?rest9yx1
              case hy9yx1 => (intro wS hSw; (try dsimp only at hSw); have z0 := cell_later hSw ca0; have z1 := cell_later hSw ca1; have z2 := cell_later hSw cq0; have z3 := cell_later hSw cq1; have z4 := cell_later hSw cb0; have z5 := cell_later hSw cb1; clear hSw; go_simp; try with_reducible rfl)
              case' rest9yx1 => (try simp only [Act.put, List.setIfInBounds_toArray, List.set_cons_zero, List.set_cons_succ])
              refine wpAnyH_take (i := 3) (oi := { dst := some 35, op := Op.load 26 (Operand.tmp 6), type := 26, pos := "l10_pairs.go:75", after := #[], guard := none }) (v := ?v10yx3) rfl (by kernel_rfl) (by kernel_rfl) (by kernel_rfl) (fun _ _ _ h => h) (Or.inl ⟨by rfl, ?hy10yx3⟩) (by with_reducible assumption) ?rest10yx3
              case hy10yx3 => (intro wS hSw; (try dsimp only at hSw); have z0 := cell_later hSw ca0; have z1 := cell_later hSw ca1; have z2 := cell_later hSw cq0; have z3 := cell_later hSw cq1; have z4 := cell_later hSw cb0; have z5 := cell_later hSw cb1; clear hSw; go_simp; try with_reducible rfl)
              case' rest10yx3 => (try simp only [Act.put, List.setIfInBounds_toArray, List.set_cons_zero, List.set_cons_succ])
              refine wpAnyH_take (i := 4) (oi := { dst := some 36, op := Op.load 26 (Operand.tmp 3), type := 26, pos := "l10_pairs.go:75", after := #[], guard := none }) (v := ?v11yx4) rfl (by kernel_rfl) (by kernel_rfl) (by kernel_rfl) (fun _ _ _ h => h) (Or.inl ⟨by rfl, ?hy11yx4⟩) (by with_reducible assumption) ?rest11yx4
              case hy11yx4 => (intro wS hSw; (try dsimp only at hSw); have z0 := cell_later hSw ca0; have z1 := cell_later hSw ca1; have z2 := cell_later hSw cq0; have z3 := cell_later hSw cq1; have z4 := cell_later hSw cb0; have z5 := cell_later hSw cb1; clear hSw; go_simp; try with_reducible rfl)
              case' rest11yx4 => (try simp only [Act.put, List.setIfInBounds_toArray, List.set_cons_zero, List.set_cons_succ])
              refine wpAnyH_ready (rs := [2]) (by kernel_rfl) (by simp) ?_
              refine AllReadyH.cons (o := { dst := some 34, op := Op.call { callee := Callee.value (Operand.func 49), args := #[Operand.tmp 32, Operand.tmp 33], argTypes := #[26, 26] }, type := 3, pos := "l10_pairs.go:75", after := #[{ on := 0, ground := Ground.data }, { on := 1, ground := Ground.data }], guard := none }) rfl (fun K hK => ?_) AllReadyH.nil
              go_simp
              refine (apart_q _ _ _ _ _ _ HGA.out HGQ.out HAQ.out).mono ?_
              rintro e w2 ⟨rfl, hb2⟩
              go_wp2_with fail
              refine hK.out _ _ ?_ (fun hHeld => ?_)
              · exact grew (by with_reducible assumption) hb2
              clear hK K
              try simp only [Act.put, List.setIfInBounds_toArray, List.set_cons_zero, List.set_cons_succ]
              refine wpAnyH_ready (rs := [5]) (by kernel_rfl) (by simp) ?_
              refine AllReadyH.cons (o := { dst := some 37, op := Op.call { callee := Callee.value (Operand.func 49), args := #[Operand.tmp 35, Operand.tmp 36], argTypes := #[26, 26] }, type := 3, pos := "l10_pairs.go:75", after := #[{ on := 3, ground := Ground.data }, { on := 4, ground := Ground.data }, { on := 2, ground := Ground.chain }], guard := none }) rfl (fun K hK => ?_) AllReadyH.nil
              go_simp
              refine (apart_q _ _ _ _ _ _ HGB.out HGQ.out HBQ.out).mono ?_
              rintro e w5 ⟨rfl, hb5⟩
              go_wp2_with fail
              refine hK.out _ _ ?_ (fun hHeld => ?_)
              · exact grew (by with_reducible assumption) hb5
              clear hK K
              try simp only [Act.put, List.setIfInBounds_toArray, List.set_cons_zero, List.set_cons_succ]
              refine wpAnyH_take (i := 6) (oi := { dst := some 38, op := Op.binOp BinOp.lss 3 (Operand.tmp 34) (Operand.tmp 37) 3, type := 4, pos := "l10_pairs.go:75", after := #[{ on := 2, ground := Ground.data }, { on := 5, ground := Ground.data }], guard := none }) (v := ?v12yx6) rfl (by kernel_rfl) (by kernel_rfl) (by kernel_rfl) (fun _ _ _ h => h) (Or.inl ⟨by rfl, ?hy12yx6⟩) (by with_reducible assumption) ?rest12yx6
              case hy12yx6 => (intro wS hSw; (try dsimp only at hSw); have z0 := cell_later hSw ca0; have z1 := cell_later hSw ca1; have z2 := cell_later hSw cq0; have z3 := cell_later hSw cq1; have z4 := cell_later hSw cb0; have z5 := cell_later hSw cb1; clear hSw; go_simp; try with_reducible rfl)
              case' rest12yx6 => (try simp only [Act.put, List.setIfInBounds_toArray, List.set_cons_zero, List.set_cons_succ])
              refine wpAnyH_done (by kernel_rfl) ?_ _
              have hbx : Below wp.heap.size wp w5 := (by with_reducible assumption)
              clear ca0 ca1 cb0 cb1 cq0 cq1
              go_wp2
              go_roundw
              case rel => exact ⟨k + 1, (bx, b_y), by omega, by go_num, by rw [HNX.out, ← HST.out, HPA.out]; unfold nstep; rw [if_neg (by rw [HAQ.out, HBQ.out]; have := HEE.out; omega)], HGB.out, K3.later hbx, K4.later hbx, K6.later hbx, grew hbw hbx⟩
              case measure => simp [intOf]; omega
          · obtain rfl : k = l.length := by omega
            have HE : Hid ((bx, b_y) = nxV l x y) := by
              unfold nxV nxT
              rw [HK.out, HST.out, List.take_length, HS0.out]; rfl
            have c60 := K6.c0
            have c61 := K6.c1
            have c40 := K4.c0
            have c41 := K4.c1
            have f40 := K4.f 0
            have f41 := K4.f 1
            have Z4 := K4.set bx b_y
            have hz := (hbw.setCell (p := ⟨w.heap.size + 1, 0, none⟩) (Nat.le_succ _) (.int .i64 bx)).setCell (p := ⟨w.heap.size + 1, 1, none⟩) (Nat.le_succ _) (.int .i64 b_y)
            go_wp2
            generalize (wr.setCell ⟨w.heap.size + 1, 0, none⟩ (.int .i64 bx)).setCell ⟨w.heap.size + 1, 1, none⟩ (.int .i64 b_y) = wz at Z4 hz ⊢
            have r0 := Z4.c0
            have r1 := Z4.c1
            refine bodyPost_ret (v := .tuple #[.agg #[.int .i64 bx, .int .i64 b_y], .bool true]) (by simp [results, Tryd.results32, go_sem, r0, r1]) rfl ?_
            exact ⟨ret_pb (by rw [← HE.out]) (by rw [← HE.out]) HK.out.symm, hz⟩
set_option maxHeartbeats 8000000 in
theorem nextSpec_c (l : List (Int × Int)) (x y : Int) (a : Option Addr) (len cap : Nat) (w : World) (hl : l.length = len) (h1 : len ≤ 1048576) (hA : At w.heap.size a l w) :
    Calls Tryd.prog 31 #[.slice a len cap, .agg #[.int .i64 x, .int .i64 y]] w fun e w' => e = .returned (.tuple #[.agg #[.int .i64 (nxV l x y).1, .int .i64 (nxV l x y).2], .bool (nxOk l x y)]) ∧ Below w.heap.size w w' := by
  subst hl
  have HA := hid hA
  skip
  clear hA
  cases hG : goodL l
  · have HK : Hid (nxOk l x y = false) := by unfold nxOk; rw [hG]; rfl
    go_enter Tryd.func31, Tryd.ntmps31
    go_upto_region 1 with fail
    have K4 := BoxP.new (w.alloc (.cells #[.int .i64 x, .int .i64 y] 26)) 0 0
    have K3 := (BoxP.new w x y).later ((Below.refl _ (w.alloc (.cells #[.int .i64 x, .int .i64 y] 26))).alloc (Nat.le_refl _) (.cells #[.int .i64 0, .int .i64 0] 26))
    simp only [World.size_alloc] at K4
    have hb : Below w.heap.size w ((w.alloc (.cells #[.int .i64 x, .int .i64 y] 26)).alloc (.cells #[.int .i64 0, .int .i64 0] 26)) := by go_grown
    generalize (w.alloc (.cells #[.int .i64 x, .int .i64 y] 26)).alloc (.cells #[.int .i64 0, .int .i64 0] 26) = w0 at K3 K4 hb ⊢
    have c30 := K3.c0
    have c31 := K3.c1
    have n34 : w.heap.size ≠ w.heap.size + 1 := by omega
    go_wp2_with (go_at_call 64; refine (l2Good_c l _ _ _ _ rfl h1 ((HA.out.later hb).mono hb.size)).mono ?_; rw [hG]; rintro e w1 ⟨rfl, hb1⟩; replace K3 := K3.later hb1; replace K4 := K4.later hb1; replace hb := grew hb hb1; clear hb1; have c30 := K3.c0; have c31 := K3.c1; have c40 := K4.c0; have c41 := K4.c1; have f40 := K4.f 0; have f41 := K4.f 1)
    have Z4 := K4.set 0 0
    have hz := (hb.setCell (p := ⟨w.heap.size + 1, 0, none⟩) (Nat.le_succ _) (.int .i64 0)).setCell (p := ⟨w.heap.size + 1, 1, none⟩) (Nat.le_succ _) (.int .i64 0)
    generalize (w1.setCell ⟨w.heap.size + 1, 0, none⟩ (.int .i64 0)).setCell ⟨w.heap.size + 1, 1, none⟩ (.int .i64 0) = wz at Z4 hz ⊢
    have r0 := Z4.c0
    have r1 := Z4.c1
    refine bodyPost_ret (v := .tuple #[.agg #[.int .i64 0, .int .i64 0], .bool false]) (by simp [results, Tryd.results31, go_sem, r0, r1]) rfl ?_
    exact ⟨ret_pb (by unfold nxV; rw [HK.out]; rfl) (by unfold nxV; rw [HK.out]; rfl) HK.out.symm, hz⟩
  · by_cases h0 : l.length = 0
    · have HK : Hid (nxOk l x y = false) := by unfold nxOk; rw [hG, decide_eq_true h0]; rfl
      have h02 : ((l.length : Int) == 0) = true := by rw [h0]; rfl
      clear h0
      go_enter Tryd.func31, Tryd.ntmps31
      go_upto_region 1 with fail
      have K4 := BoxP.new (w.alloc (.cells #[.int .i64 x, .int .i64 y] 26)) 0 0
      have K3 := (BoxP.new w x y).later ((Below.refl _ (w.alloc (.cells #[.int .i64 x, .int .i64 y] 26))).alloc (Nat.le_refl _) (.cells #[.int .i64 0, .int .i64 0] 26))
      simp only [World.size_alloc] at K4
      have hb : Below w.heap.size w ((w.alloc (.cells #[.int .i64 x, .int .i64 y] 26)).alloc (.cells #[.int .i64 0, .int .i64 0] 26)) := by go_grown
      generalize (w.alloc (.cells #[.int .i64 x, .int .i64 y] 26)).alloc (.cells #[.int .i64 0, .int .i64 0] 26) = w0 at K3 K4 hb ⊢
      have c30 := K3.c0
      have c31 := K3.c1
      have n34 : w.heap.size ≠ w.heap.size + 1 := by omega
      go_wp2_with (go_at_call 64; refine (l2Good_c l _ _ _ _ rfl h1 ((HA.out.later hb).mono hb.size)).mono ?_; rw [hG]; rintro e w1 ⟨rfl, hb1⟩; replace K3 := K3.later hb1; replace K4 := K4.later hb1; replace hb := grew hb hb1; clear hb1; have c30 := K3.c0; have c31 := K3.c1; have c40 := K4.c0; have c41 := K4.c1; have f40 := K4.f 0; have f41 := K4.f 1)
      have Z4 := K4.set 0 0
      have hz := (hb.setCell (p := ⟨w.heap.size + 1, 0, none⟩) (Nat.le_succ _) (.int .i64 0)).setCell (p := ⟨w.heap.size + 1, 1, none⟩) (Nat.le_succ _) (.int .i64 0)
      generalize (w1.setCell ⟨w.heap.size + 1, 0, none⟩ (.int .i64 0)).setCell ⟨w.heap.size + 1, 1, none⟩ (.int .i64 0) = wz at Z4 hz ⊢
      have r0 := Z4.c0
      have r1 := Z4.c1
      refine bodyPost_ret (v := .tuple #[.agg #[.int .i64 0, .int .i64 0], .bool false]) (by simp [results, Tryd.results31, go_sem, r0, r1]) rfl ?_
      exact ⟨ret_pb (by unfold nxV; rw [HK.out]; rfl) (by unfold nxV; rw [HK.out]; rfl) HK.out.symm, hz⟩
    · have h02 : ((l.length : Int) == 0) = false := by rw [beq_eq_false_iff_ne]; omega
      have h03 : ¬ (l.length : Int) = 0 := by omega
      cases hP : goodB x y
      · have HK := hid (show nxOk l x y = false by unfold nxOk; rw [hP, Bool.and_false])
        go_enter Tryd.func31, Tryd.ntmps31
        go_upto_region 1 with fail
        have K4 := BoxP.new (w.alloc (.cells #[.int .i64 x, .int .i64 y] 26)) 0 0
        have K3 := (BoxP.new w x y).later ((Below.refl _ (w.alloc (.cells #[.int .i64 x, .int .i64 y] 26))).alloc (Nat.le_refl _) (.cells #[.int .i64 0, .int .i64 0] 26))
        simp only [World.size_alloc] at K4
        have hb : Below w.heap.size w ((w.alloc (.cells #[.int .i64 x, .int .i64 y] 26)).alloc (.cells #[.int .i64 0, .int .i64 0] 26)) := by go_grown
        generalize (w.alloc (.cells #[.int .i64 x, .int .i64 y] 26)).alloc (.cells #[.int .i64 0, .int .i64 0] 26) = w0 at K3 K4 hb ⊢
        have c30 := K3.c0
        have c31 := K3.c1
        have n34 : w.heap.size ≠ w.heap.size + 1 := by omega
        go_wp2_with (first
          | (go_at_call 64; refine (l2Good_c l _ _ _ _ rfl h1 ((HA.out.later hb).mono hb.size)).mono ?_; rw [hG]; rintro e w1 ⟨rfl, hb1⟩; replace K3 := K3.later hb1; replace K4 := K4.later hb1; replace hb := grew hb hb1; clear hb1; have c30 := K3.c0; have c31 := K3.c1; have c40 := K4.c0; have c41 := K4.c1; have f40 := K4.f 0; have f41 := K4.f 1)
          | (go_at_call 46; refine (goodSpec_c _ _ _).mono ?_; rw [hP]; rintro e w2 ⟨rfl, hw2⟩; have hb1 : Below w1.heap.size w1 w2 := (by rw [← hw2]; go_grown); clear hw2; replace K3 := K3.later hb1; replace K4 := K4.later hb1; replace hb := grew hb hb1; clear hb1; have c30 := K3.c0; have c31 := K3.c1; have c40 := K4.c0; have c41 := K4.c1; have f40 := K4.f 0; have f41 := K4.f 1))
        have Z4 := K4.set 0 0
        have hz := (hb.setCell (p := ⟨w.heap.size + 1, 0, none⟩) (Nat.le_succ _) (.int .i64 0)).setCell (p := ⟨w.heap.size + 1, 1, none⟩) (Nat.le_succ _) (.int .i64 0)
        generalize (w2.setCell ⟨w.heap.size + 1, 0, none⟩ (.int .i64 0)).setCell ⟨w.heap.size + 1, 1, none⟩ (.int .i64 0) = wz at Z4 hz ⊢
        have r0 := Z4.c0
        have r1 := Z4.c1
        refine bodyPost_ret (v := .tuple #[.agg #[.int .i64 0, .int .i64 0], .bool false]) (by simp [results, Tryd.results31, go_sem, r0, r1]) rfl ?_
        exact ⟨ret_pb (by unfold nxV; rw [HK.out]; rfl) (by unfold nxV; rw [HK.out]; rfl) HK.out.symm, hz⟩
      · have HK : Hid (nxOk l x y = true) := by unfold nxOk; rw [hG, hP, decide_eq_false h0]; rfl
        have HG := hid (goodL_all hG)
        have HGQ := hid hP
        obtain ⟨b, off, rfl, hbN, g0, g1⟩ := HA.out 0 (by omega)
        obtain ⟨sx, hsx⟩ : ∃ x, px l 0 = x := ⟨_, rfl⟩
        obtain ⟨sy, hsy⟩ : ∃ x, py l 0 = x := ⟨_, rfl⟩
        have HS0 : Hid (pt l 0 = (sx, sy)) := by rw [← hsx, ← hsy]; exact rfl
        have HGS : Hid (gp (sx, sy)) := by rw [← hsx, ← hsy]; exact HG.out _ (pt_mem (l := l) (i := 0) (by omega))
        rw [hsx] at g0
        rw [hsy] at g1
        clear hsx hsy
        simp only [Nat.zero_mul, Nat.add_zero] at g0 g1
        have hp0 : (0 : Int) < (l.length : Int) := by omega
        go_enter Tryd.func31, Tryd.ntmps31
        go_upto_region 1 with fail
        have K4 := BoxP.new (w.alloc (.cells #[.int .i64 x, .int .i64 y] 26)) 0 0
        have K3 := (BoxP.new w x y).later ((Below.refl _ (w.alloc (.cells #[.int .i64 x, .int .i64 y] 26))).alloc (Nat.le_refl _) (.cells #[.int .i64 0, .int .i64 0] 26))
        simp only [World.size_alloc] at K4
        have hb : Below w.heap.size w ((w.alloc (.cells #[.int .i64 x, .int .i64 y] 26)).alloc (.cells #[.int .i64 0, .int .i64 0] 26)) := by go_grown
        generalize (w.alloc (.cells #[.int .i64 x, .int .i64 y] 26)).alloc (.cells #[.int .i64 0, .int .i64 0] 26) = w0 at K3 K4 hb ⊢
        have c30 := K3.c0
        have c31 := K3.c1
        have n34 : w.heap.size ≠ w.heap.size + 1 := by omega
        go_upto_region 3 with (first
          | (go_at_call 64; refine (l2Good_c l _ _ _ _ rfl h1 ((HA.out.later hb).mono hb.size)).mono ?_; rw [hG]; rintro e w1 ⟨rfl, hb1⟩; replace K3 := K3.later hb1; replace K4 := K4.later hb1; replace hb := grew hb hb1; clear hb1; have c30 := K3.c0; have c31 := K3.c1; have c40 := K4.c0; have c41 := K4.c1; have f40 := K4.f 0; have f41 := K4.f 1)
          | (go_at_call 46; refine (goodSpec_c _ _ _).mono ?_; rw [hP]; rintro e w2 ⟨rfl, hw2⟩; have hb1 : Below w1.heap.size w1 w2 := (by rw [← hw2]; go_grown); clear hw2; replace K3 := K3.later hb1; replace K4 := K4.later hb1; replace hb := grew hb hb1; clear hb1; have c30 := K3.c0; have c31 := K3.c1; have c40 := K4.c0; have c41 := K4.c1; have f40 := K4.f 0; have f41 := K4.f 1))
        clear hG hP h02 h03 c40 c41 f40 f41 c30 c31
        have q0 := (hb.cell (p := ⟨b, off, none⟩) hbN).trans g0
        have q1 := (hb.cell (p := ⟨b, off + 1, none⟩) hbN).trans g1
        go_upto_region 4 with fail
        have K6 := BoxP.new w2 sx sy
        have hb6 : Below w2.heap.size w2 (w2.alloc (.cells #[.int .i64 sx, .int .i64 sy] 26)) := by go_grown
        have a4 := K4.lt
        replace K3 := K3.later hb6
        replace K4 := K4.later hb6
        have hsz := hb.size
        replace hb := grew hb hb6
        clear q0 q1 g0 g1 hb6
        have m6 : w.heap.size ≤ w2.heap.size := hsz
        have n36 : w.heap.size ≠ w2.heap.size := by omega
        have n46 : w.heap.size + 1 ≠ w2.heap.size := by omega
        clear hsz a4
        generalize w2.heap.size = B6 at K6 m6 n36 n46 ⊢
        generalize w2.alloc (.cells #[.int .i64 sx, .int .i64 sy] 26) = w3 at K3 K4 K6 hb ⊢
        go_wp2
        go_loopw [28] (fun i wr => ∃ (k : Nat) (s : Int × Int), k ≤ l.length ∧ i = .int .i64 k ∧ s = (l.take k).foldl (nstep (x, y)) (sx, sy) ∧ gp s ∧ BoxP wr w.heap.size (x, y) ∧ BoxP wr (w.heap.size + 1) (0, 0) ∧ BoxP wr B6 s ∧ Below w.heap.size w wr) (fun i _ => l.length - (intOf i).toNat)
        case atStart => exact ⟨0, (sx, sy), Nat.zero_le _, rfl, rfl, HGS.out, K3, K4, K6, hb⟩
        case round =>
          clear K3 K4 K6 hb HGS
          obtain ⟨k, ⟨bx, b_y⟩, hk, rfl, hst, hgs, K3, K4, K6, hbw⟩ := hrel
          have HGB : Hid (goodB bx b_y = true) := hid hgs
          have HST := hid hst
          clear hst hgs
          by_cases hkl : k < l.length
          · have HNX := hid (nx_step hkl (q := (x, y)) (sx, sy))
            obtain ⟨b2, off2, e1, hbN2, g0, g1⟩ := HA.out k hkl
            cases e1
            have q0 := (hbw.cell (p := ⟨b, off + k * 2, none⟩) hbN).trans g0
            have q1 := (hbw.cell (p := ⟨b, off + k * 2 + 1, none⟩) hbN).trans g1
            obtain ⟨ax, hax⟩ : ∃ x, px l k = x := ⟨_, rfl⟩
            obtain ⟨ay, hay⟩ : ∃ x, py l k = x := ⟨_, rfl⟩
            have HPA : Hid (pt l k = (ax, ay)) := by rw [← hax, ← hay]; exact rfl
            have HGA : Hid (goodB ax ay = true) := by rw [← hax, ← hay]; exact HG.out _ (pt_mem (l := l) (i := k) hkl)
            rw [hax] at q0
            rw [hay] at q1
            clear hax hay g0 g1 hbN2
            obtain ⟨u, hu⟩ : ∃ u, apF (ax, ay) (x, y) = u := ⟨_, rfl⟩
            obtain ⟨v, hv⟩ : ∃ v, apF (bx, b_y) (x, y) = v := ⟨_, rfl⟩
            have HAQ := hid hu
            have HBQ := hid hv
            clear hu hv
            have k0 : (0 : Int) ≤ (k : Int) := by omega
            have k1 : (k : Int) < (l.length : Int) := by omega
            go_upto_region 7 with fail
            have K8 := BoxP.new wr ax ay
            have hb8 : Below wr.heap.size wr (wr.alloc (.cells #[.int .i64 ax, .int .i64 ay] 26)) := by go_grown
            replace K3 := K3.later hb8
            replace K4 := K4.later hb8
            replace K6 := K6.later hb8
            replace hbw := grew hbw hb8
            clear q0 q1 hb8
            generalize wr.heap.size = B8 at K8 ⊢
            generalize wr.alloc (.cells #[.int .i64 ax, .int .i64 ay] 26) = wp at K3 K4 K6 K8 hbw ⊢
            have ca0 := K8.c0
            have ca1 := K8.c1
            have cq0 := K3.c0
            have cq1 := K3.c1
            have cb0 := K6.c0
            have cb1 := K6.c1
            by_cases hE : u < v
            · have HEE := hid hE
              refine wp_region_held_drew (S := (fun u => Below wp.heap.size wp u)) (by kernel_rfl) ?_ (fun hHeld => ?_)
              · exact (Below.refl _ _).drew
              refine wpAnyH_take (i := 0) (oi := { dst := some 32, op := Op.load 26 (Operand.tmp 8), type := 26, pos := "l10_pairs.go:52", after := #[], guard := none }) (v := ?v14yx0) rfl (by kernel_rfl) (by kernel_rfl) (by kernel_rfl) (fun _ _ _ h => h) (Or.inl ⟨by rfl, ?hy14yx0⟩) (by with_reducible assumption) ?rest14yx0
              case hy14yx0 => (intro wS hSw; (try dsimp only at hSw); have z0 := cell_later hSw ca0; have z1 := cell_later hSw ca1; have z2 := cell_later hSw cq0; have z3 := cell_later hSw cq1; have z4 := cell_later hSw cb0; have z5 := cell_later hSw cb1; clear hSw; go_simp; try with_reducible rfl)
              case' rest14yx0 => (try simp only [Act.put, List.setIfInBounds_toArray, List.set_cons_zero, List.set_cons_succ])
              refine wpAnyH_take (i := 1) (oi := { dst := some 33, op := Op.load 26 (Operand.tmp 3), type := 26, pos := "l10_pairs.go:52", after := #[], guard := none }) (v := ?v15yx1) rfl (by kernel_rfl) (by kernel_rfl) (by kernel_rfl) (fun _ _ _ h => h) (Or.inl ⟨by rfl, ?hy15yx1⟩) (by with_reducible assumption) ?rest15yx1
              case hy15yx1 => (intro wS hSw; (try dsimp only at hSw); have z0 := cell_later hSw ca0; have z1 := cell_later hSw ca1; have z2 := cell_later hSw cq0; have z3 := cell_later hSw cq1; have z4 := cell_later hSw cb0; have z5 := cell_later hSw cb1; clear hSw; go_simp; try with_reducible rfl)
              case' rest15yx1 => (try simp only [Act.put, List.setIfInBounds_toArray, List.set_cons_zero, List.set_cons_succ])
              refine wpAnyH_take (i := 3) (oi := { dst := some 35, op := Op.load 26 (Operand.tmp 6), type := 26, pos := "l10_pairs.go:52", after := #[], guard := none }) (v := ?v16yx3) rfl (by kernel_rfl) (by kernel_rfl) (by kernel_rfl) (fun _ _ _ h => h) (Or.inl ⟨by rfl, ?hy16yx3⟩) (by with_reducible assumption) ?rest16yx3
              case hy16yx3 => (intro wS hSw; (try dsimp only at hSw); have z0 := cell_later hSw ca0; have z1 := cell_later hSw ca1; have z2 := cell_later hSw cq0; have z3 := cell_later hSw cq1; have z4 := cell_later hSw cb0; have z5 := cell_later hSw cb1; clear hSw; go_simp; try with_reducible rfl)
              case' rest16yx3 => (try simp only [Act.put, List.setIfInBounds_toArray, List.set_cons_zero, List.set_cons_succ])
              refine wpAnyH_take (i := 4) (oi := { dst := some 36, op := Op.load 26 (Operand.tmp 3), type := 26, pos := "l10_pairs.go:52", after := #[], guard := none }) (v := ?v17yx4) rfl (by kernel_rfl) (by kernel_rfl) (by kernel_rfl) (fun _ _ _ h => h) (Or.inl ⟨by rfl, ?hy17yx4⟩) (by with_reducible assumption) ?rest17yx4
              case hy17yx4 => (intro wS hSw; (try dsimp only at hSw); have z0 := cell_later hSw ca0; have z1 := cell_later hSw ca1; have z2 := cell_later hSw cq0; have z3 := cell_later hSw cq1; have z4 := cell_later hSw cb0; have z5 := cell_later hSw cb1; clear hSw; go_simp; try with_reducible rfl)
              case' rest17yx4 => (try simp only [Act.put, List.setIfInBounds_toArray, List.set_cons_zero, List.set_cons_succ])
              refine wpAnyH_ready (rs := [2]) (by kernel_rfl) (by simp) ?_
              refine AllReadyH.cons (o := { dst := some 34, op := Op.call { callee := Callee.value (Operand.func 47), args := #[Operand.tmp 32, Operand.tmp 33], argTypes := #[26, 26] }, type := 3, pos := "l10_pairs.go:52", after := #[{ on := 0, ground := Ground.data }, { on := 1, ground := Ground.data }], guard := none }) rfl (fun K hK => ?_) AllReadyH.nil
              go_simp
              refine (apartS_q _ _ _ _ _ _ HGA.out HGQ.out HAQ.out).mono ?_
              rintro e w2 ⟨rfl, hb2⟩
              go_wp2_with fail
              refine hK.out _ _ ?_ (fun hHeld => ?_)
              · exact grew (by with_reducible assumption) hb2
              clear hK K
              try simp only [Act.put, List.setIfInBounds_toArray, List.set_cons_zero, List.set_cons_succ]
              refine wpAnyH_ready (rs := [5]) (by kernel_rfl) (by simp) ?_
              refine AllReadyH.cons (o := { dst := some 37, op := Op.call { callee := Callee.value (Operand.func 47), args := #[Operand.tmp 35, Operand.tmp 36], argTypes := #[26, 26] }, type := 3, pos := "l10_pairs.go:52", after := #[{ on := 3, ground := Ground.data }, { on := 4, ground := Ground.data }, { on := 2, ground := Ground.chain }], guard := none }) rfl (fun K hK => ?_) AllReadyH.nil
              go_simp
              refine (apartS_q _ _ _ _ _ _ HGB.out HGQ.out HBQ.out).mono ?_
              rintro e w5 ⟨rfl, hb5⟩
              go_wp2_with fail
              refine hK.out _ _ ?_ (fun hHeld => ?_)
              · exact grew (by with_reducible assumption) hb5
              clear hK K
              try simp only [Act.put, List.setIfInBounds_toArray, List.set_cons_zero, List.set_cons_succ]
              refine wpAnyH_take (i := 6) (oi := { dst := some 38, op := Op.binOp BinOp.lss 3 (Operand.tmp 34) (Operand.tmp 37) 3, type := 4, pos := "l10_pairs.go:52", after := #[{ on := 2, ground := Ground.data }, { on := 5, ground := Ground.data }], guard := none }) (v := ?v18yx6) rfl (by kernel_rfl) (by kernel_rfl) (by kernel_rfl) (fun _ _ _ h => h) (Or.inl ⟨by rfl, ?hy18yx6⟩) (by with_reducible assumption) ?rest18yx6
              case hy18yx6 => (intro wS hSw; (try dsimp only at hSw); have z0 := cell_later hSw ca0; have z1 := cell_later hSw ca1; have z2 := cell_later hSw cq0; have z3 := cell_later hSw cq1; have z4 := cell_later hSw cb0; have z5 := cell_later hSw cb1; clear hSw; go_simp; try with_reducible rfl)
              case' rest18yx6 => (try simp only [Act.put, List.setIfInBounds_toArray, List.set_cons_zero, List.set_cons_succ])
              refine wpAnyH_done (by kernel_rfl) ?_ _
              have hbx : Below wp.heap.size wp w5 := (by with_reducible assumption)
              clear ca0 ca1 cb0 cb1 cq0 cq1
              replace K3 := K3.later hbx
              replace K4 := K4.later hbx
              replace K6 := K6.later hbx
              replace K8 := K8.later hbx
              replace hbw := grew hbw hbx
              have d0 := K8.c0
              have d1 := K8.c1
              have d2 := K6.c0
              have d3 := K6.c1
              have f0 := K6.f 0
              have f1 := K6.f 1
              have Q6 := K6.set ax ay
              have Q3 := (K3.other (i := 0) (B' := B6) n36 (.int .i64 ax)).other (i := 1) (B' := B6) n36 (.int .i64 ay)
              have Q4 := (K4.other (i := 0) (B' := B6) n46 (.int .i64 ax)).other (i := 1) (B' := B6) n46 (.int .i64 ay)
              have hbq := (hbw.setCell (p := ⟨B6, 0, none⟩) m6 (.int .i64 ax)).setCell (p := ⟨B6, 1, none⟩) m6 (.int .i64 ay)
              go_wp2
              go_roundw
              case rel => exact ⟨k + 1, (ax, ay), by omega, by go_num, by rw [HNX.out, ← HST.out, HPA.out]; unfold nstep; rw [if_pos (by rw [HAQ.out, HBQ.out]; exact HEE.out)], HGA.out, Q3, Q4, Q6, hbq⟩
              case measure => simp [intOf]; omega
            · have HEE := hid (show v ≤ u by omega)
              refine wp_region_held_drew (S := (fun u => Below wp.heap.size wp u)) (by kernel_rfl) ?_ (fun hHeld => ?_)
              · exact (Below.refl _ _).drew
              refine wpAnyH_take (i := 0) (oi := { dst := some 32, op := Op.load 26 (Operand.tmp 8), type := 26, pos := "l10_pairs.go:52", after := #[], guard := none }) (v := ?v20yx0) rfl (by kernel_rfl) (by kernel_rfl) (by kernel_rfl) (fun _ _ _ h => h) (Or.inl ⟨by rfl, ?hy20yx0⟩) (by with_reducible assumption) ?rest20yx0
              case hy20yx0 => (intro wS hSw; (try dsimp only at hSw); have z0 := cell_later hSw ca0; have z1 := cell_later hSw ca1; have z2 := cell_later hSw cq0; have z3 := cell_later hSw cq1; have z4 := cell_later hSw cb0; have z5 := cell_later hSw cb1; clear hSw; go_simp; try with_reducible rfl)
              case' rest20yx0 => (try simp only [Act.put, List.setIfInBounds_toArray, List.set_cons_zero, List.set_cons_succ])
              refine wpAnyH_take (i := 1) (oi := { dst := some 33, op := Op.load 26 (Operand.tmp 3), type := 26, pos := "l10_pairs.go:52", after := #[], guard := none }) (v := ?v21yx1) rfl (by kernel_rfl) (by kernel_rfl) (by kernel_rfl) (fun _ _ _ h => h) (Or.inl ⟨by rfl, ?hy21yx1⟩) (by with_reducible assumption) ?rest21yx1
              case hy21yx1 => (intro wS hSw; (try dsimp only at hSw); have z0 := cell_later hSw ca0; have z1 := cell_later hSw ca1; have z2 := cell_later hSw cq0; have z3 := cell_later hSw cq1; have z4 := cell_later hSw cb0; have z5 := cell_later hSw cb1; clear hSw; go_simp; try with_reducible rfl)
              case' rest21yx1 => (try simp only [Act.put, List.setIfInBounds_toArray, List.set_cons_zero, List.set_cons_succ])
              refine wpAnyH_take (i := 3) (oi := { dst := some 35, op := Op.load 26 (Operand.tmp 6), type := 26, pos := "l10_pairs.go:52", after := #[], guard := none }) (v := ?v22yx3) rfl (by kernel_rfl) (by kernel_rfl) (by kernel_rfl) (fun _ _ _ h => h) (Or.inl ⟨by rfl, ?hy22yx3⟩) (by with_reducible assumption) ?rest22yx3
              case hy22yx3 => (intro wS hSw; (try dsimp only at hSw); have z0 := cell_later hSw ca0; have z1 := cell_later hSw ca1; have z2 := cell_later hSw cq0; have z3 := cell_later hSw cq1; have z4 := cell_later hSw cb0; have z5 := cell_later hSw cb1; clear hSw; go_simp; try with_reducible rfl)
              case' rest22yx3 => (try simp only [Act.put, List.setIfInBounds_toArray, List.set_cons_zero, List.set_cons_succ])
              refine wpAnyH_take (i := 4) (oi := { dst := some 36, op := Op.load 26 (Operand.tmp 3), type := 26, pos := "l10_pairs.go:52", after := #[], guard := none }) (v := ?v23yx4) rfl (by kernel_rfl) (by kernel_rfl) (by kernel_rfl) (fun _ _ _ h => h) (Or.inl ⟨by rfl, ?hy23yx4⟩) (by with_reducible assumption) ?rest23yx4
              case hy23yx4 => (intro wS hSw; (try dsimp only at hSw); have z0 := cell_later hSw ca0; have z1 := cell_later hSw ca1; have z2 := cell_later hSw cq0; have z3 := cell_later hSw cq1; have z4 := cell_later hSw cb0; have z5 := cell_later hSw cb1; clear hSw; go_simp; try with_reducible rfl)
              case' rest23yx4 => (try simp only [Act.put, List.setIfInBounds_toArray, List.set_cons_zero, List.set_cons_succ])
              refine wpAnyH_ready (rs := [2]) (by kernel_rfl) (by simp) ?_
              refine AllReadyH.cons (o := { dst := some 34, op := Op.call { callee := Callee.value (Operand.func 47), args := #[Operand.tmp 32, Operand.tmp 33], argTypes := #[26, 26] }, type := 3, pos := "l10_pairs.go:52", after := #[{ on := 0, ground := Ground.data }, { on := 1, ground := Ground.data }], guard := none }) rfl (fun K hK => ?_) AllReadyH.nil
              go_simp
              refine (apartS_q _ _ _ _ _ _ HGA.out HGQ.out HAQ.out).mono ?_
              rintro e w2 ⟨rfl, hb2⟩
              go_wp2_with fail
              refine hK.out _ _ ?_ (fun hHeld => ?_)
              · exact grew (by with_reducible assumption) hb2
              clear hK K
              try simp only [Act.put, List.setIfInBounds_toArray, List.set_cons_zero, List.set_cons_succ]
              refine wpAnyH_ready (rs := [5]) (by kernel_rfl) (by simp) ?_
              refine AllReadyH.cons (o := { dst := some 37, op := Op.call { callee := Callee.value (Operand.func 47), args := #[Operand.tmp 35, Operand.tmp 36], argTypes := #[26, 26] }, type := 3, pos := "l10_pairs.go:52", after := #[{ on := 3, ground := Ground.data }, { on := 4, ground := Ground.data }, { on := 2, ground := Ground.chain }], guard := none }) rfl (fun K hK => ?_) AllReadyH.nil
              go_simp
              refine (apartS_q _ _ _ _ _ _ HGB.out HGQ.out HBQ.out).mono ?_
              rintro e w5 ⟨rfl, hb5⟩
              go_wp2_with fail
              refine hK.out _ _ ?_ (fun hHeld => ?_)
              · exact grew (by with_reducible assumption) hb5
              clear hK K
              try simp only [Act.put, List.setIfInBounds_toArray, List.set_cons_zero, List.set_cons_succ]
              refine wpAnyH_take (i := 6) (oi := { dst := some 38, op := Op.binOp BinOp.lss 3 (Operand.tmp 34) (Operand.tmp 37) 3, type := 4, pos := "l10_pairs.go:52", after := #[{ on := 2, ground := Ground.data }, { on := 5, ground := Ground.data }], guard := none }) (v := ?v24yx6) rfl (by kernel_rfl) (by kernel_rfl) (by kernel_rfl) (fun _ _ _ h => h) (Or.inl ⟨by rfl, ?hy24yx6⟩) (by with_reducible assumption) ?rest24yx6
              case hy24yx6 => (intro wS hSw; (try dsimp only at hSw); have z0 := cell_later hSw ca0; have z1 := cell_later hSw ca1; have z2 := cell_later hSw cq0; have z3 := cell_later hSw cq1; have z4 := cell_later hSw cb0; have z5 := cell_later hSw cb1; clear hSw; go_simp; try with_reducible rfl)
              case' rest24yx6 => (try simp only [Act.put, List.setIfInBounds_toArray, List.set_cons_zero, List.set_cons_succ])
              refine wpAnyH_done (by kernel_rfl) ?_ _
              have hbx : Below wp.heap.size wp w5 := (by with_reducible assumption)
              clear ca0 ca1 cb0 cb1 cq0 cq1
              go_wp2
              go_roundw
              case rel => exact ⟨k + 1, (bx, b_y), by omega, by go_num, by rw [HNX.out, ← HST.out, HPA.out]; unfold nstep; rw [if_neg (by rw [HAQ.out, HBQ.out]; have := HEE.out; omega)], HGB.out, K3.later hbx, K4.later hbx, K6.later hbx, grew hbw hbx⟩
              case measure => simp [intOf]; omega
          · obtain rfl : k = l.length := by omega
            have HE : Hid ((bx, b_y) = nxV l x y) := by
              unfold nxV nxT
              rw [HK.out, HST.out, List.take_length, HS0.out]; rfl
            have c60 := K6.c0
            have c61 := K6.c1
            have c40 := K4.c0
            have c41 := K4.c1
            have f40 := K4.f 0
            have f41 := K4.f 1
            have Z4 := K4.set bx b_y
            have hz := (hbw.setCell (p := ⟨w.heap.size + 1, 0, none⟩) (Nat.le_succ _) (.int .i64 bx)).setCell (p := ⟨w.heap.size + 1, 1, none⟩) (Nat.le_succ _) (.int .i64 b_y)
            go_wp2
            generalize (wr.setCell ⟨w.heap.size + 1, 0, none⟩ (.int .i64 bx)).setCell ⟨w.heap.size + 1, 1, none⟩ (.int .i64 b_y) = wz at Z4 hz ⊢
            have r0 := Z4.c0
            have r1 := Z4.c1
            refine bodyPost_ret (v := .tuple #[.agg #[.int .i64 bx, .int .i64 b_y], .bool true]) (by simp [results, Tryd.results31, go_sem, r0, r1]) rfl ?_
            exact ⟨ret_pb (by rw [← HE.out]) (by rw [← HE.out]) HK.out.symm, hz⟩
end Go.Proofs.YtipiamhnngmjmaaDoor
