/-
  The walk of the law FnWhere.
  Conditions: as the theorems state them.
-/
import Derived.Test.YtcghpepkphphbaaDoorDrawTri
import Derived.Test.YtcghpepkphphbaaDoorDrawSeg
import Derived.Test.YtcghpepkphphbaaDoorWhMath
import Derived.Test.YtcghpepkphphbaaDoorRim4
namespace Go.Proofs.YtcghpepkphphbaaDoor
open Go.RowKit Go.Shelf
set_option linter.unusedVariables false
def triF (h : List (Int × Int)) (x y : Int) (j : Nat) : Bool := !decide (triV (px h 0) (py h 0) (px h (j + 1)) (py h (j + 1)) (px h (j + 2)) (py h (j + 2)) x y = 0)
def anyF (f : Nat → Bool) (i : Nat) : Bool := (List.range i).any f
theorem anyF_succ (f : Nat → Bool) (i : Nat) : anyF f (i + 1) = (anyF f i || f i) := by simp [anyF, List.range_succ]
theorem Fanned.any {h : List (Int × Int)} {x y : Int} (H : Fanned h x y) : anyF (triF h x y) (h.length - 2) = (whV h x y != 0) := by
  rw [Bool.eq_iff_iff]
  have := H.iff
  simp only [anyF, List.any_eq_true, List.mem_range, triF, bne_iff_ne]
  rw [← this]
  simp
theorem big_c (a0 : Option Addr) (len0 cap0 : Nat) (a1 : Option Addr) (len1 cap1 : Nat) (w : World) (h : len0 + len1 ≤ 1048576) :
    Calls Tryd.prog 34 #[.slice a0 len0 cap0, .slice a1 len1 cap1] w fun e w' => e = .returned (.bool false) ∧ w = w' := by
  have h0 : ¬ (1048576 : Int) < (len0 : Int) := by omega
  have h1 : ¬ (1048576 : Int) - (len0 : Int) < (len1 : Int) := by omega
  go_enter Tryd.func34, Tryd.ntmps34
  go_wp2
  go_ret
  exact ⟨rfl, rfl⟩
theorem big_t (a0 : Option Addr) (len0 cap0 : Nat) (a1 : Option Addr) (len1 cap1 : Nat) (w : World) (m0 : len0 ≤ maxLen) (m1 : len1 ≤ maxLen) (h : ¬ len0 + len1 ≤ 1048576) :
    Calls Tryd.prog 34 #[.slice a0 len0 cap0, .slice a1 len1 cap1] w fun e w' => e = .returned (.bool true) ∧ w = w' := by
  unfold maxLen at m0 m1
  by_cases h0 : (1048576 : Int) < (len0 : Int)
  · go_enter Tryd.func34, Tryd.ntmps34
    go_wp2
    go_ret
    exact ⟨rfl, rfl⟩
  · have h1 : (1048576 : Int) - (len0 : Int) < (len1 : Int) := by omega
    go_enter Tryd.func34, Tryd.ntmps34
    go_wp2
    go_ret
    exact ⟨rfl, rfl⟩
set_option maxRecDepth 8000 in
set_option maxHeartbeats 8000000 in
theorem where_walk (a0 : Option Addr) (len0 cap0 : Nat) (a1 : Option Addr) (len1 cap1 : Nat) (w : World) (B0 : Bytes w.heap.size a0 len0 w) (B1 : Bytes w.heap.size a1 len1 w) (m0 : len0 ≤ maxLen) (m1 : len1 ≤ maxLen) (c0 : w.cell? ⟨0, 0, none⟩ = some (.int .i64 1000000)) :
    Calls Tryd.prog 10 #[.slice a0 len0 cap0, .slice a1 len1 cap1] w fun e w' => e = .returned (.bool true) ∧ Below w.heap.size w w' := by
  have C0 := hid c0
  have HB0 := hid B0
  have HB1 := hid B1
  clear c0 B0 B1
  by_cases hl : len0 + len1 ≤ 1048576
  · have l0 : len0 ≤ 1048576 := by omega
    have l1 : len1 ≤ 1048576 := by omega
    clear m0 m1
    go_enter Tryd.func10, Tryd.ntmps10
    go_upto_region 4 with (first
      | (go_at_call 34; refine (big_c _ _ _ _ _ _ _ hl).mono ?_; rintro e w' ⟨rfl, rfl⟩)
      | (go_at_call 35; refine (drawWhere_c _ _ _ _ HB0.out l0).mono ?_; rintro e w1 ⟨v1, qx, qy, rfl, h, hoh, hh25, hb1⟩; obtain ⟨av, ps, hvs⟩ := hoh.shape; subst hvs))
    have kq0 := box0 w1 qx qy 26
    have kq1 := box1 w1 qx qy 26
    have hbx : Below w1.heap.size w1 (w1.alloc (.cells #[.int .i64 qx, .int .i64 qy] 26)) := by go_grown
    have hoq := hoh.later hbx
    have hbq := grew hb1 hbx
    have hhm : h.length ≤ 1048576 := by omega
    clear hoh hb1 hbx
    generalize w1.alloc (.cells #[.int .i64 qx, .int .i64 qy] 26) = wq at kq0 kq1 hoq hbq ⊢
    generalize w1.heap.size = B8 at kq0 kq1 ⊢
    cases hK : whOk h qx qy
    · go_upto_region 25 with (first
        | (go_at_call 19; refine (whereIsImpl_c h qx qy _ _ _ wq rfl hhm hoq.at (cell_later hbq C0.out)).mono ?_; rw [hK]; rintro e w2 ⟨rfl, hb2⟩; have ka0 := cell_later hb2 kq0; have ka1 := cell_later hb2 kq1)
        | (go_at_call 17; refine (whereIsSpec_c h qx qy _ _ _ w2 rfl hhm (hoq.later hb2).at).mono ?_; rw [hK]; rintro e w3 ⟨rfl, hb3⟩; have hB3 := grew hb2 hb3; have kb0 := cell_later hb3 ka0; have kb1 := cell_later hb3 ka1)
        | (go_at_call 22; refine (rimAtTopImpl_c h qx qy _ _ _ w3 rfl hhm (hoq.later hB3).at (cell_later (grew hbq hB3) C0.out)).mono ?_; skip; rintro e w4 ⟨rfl, hb4⟩; have hB4 := grew hB3 hb4; have kc0 := cell_later hb4 kb0; have kc1 := cell_later hb4 kb1)
        | (go_at_call 21; refine (rimAtTopSpec_c h qx qy _ _ _ w4 rfl hhm (hoq.later hB4).at).mono ?_; skip; rintro e w5 ⟨rfl, hb5⟩; have hB5 := grew hB4 hb5; have kd0 := cell_later hb5 kc0; have kd1 := cell_later hb5 kc1; have hc5 := grew hbq hB5))
      have tq : True := trivial
      go_wp2_with (first
        | (go_at_call 36; refine (drawTri_c _ _ _ w5 ((HB1.out.below hc5).mono hc5.size) l1).mono ?_; rintro e wj ⟨x0, y0, x1, y1, x2, y2, x3, y3, rfl, hbj⟩; have hcj := grew hc5 hbj)
        | (go_at_call 15; refine (triImpl_c x0 y0 x1 y1 x2 y2 x3 y3 _ (cell_later (grew hcj (by go_grown)) C0.out)).mono ?_; rintro e wk ⟨rfl, hbk⟩; have a0 := cell_later hbk (a := ⟨wj.heap.size, 0, none⟩) (v := .int .i64 x0) (by simp [go_sem]); have a1 := cell_later hbk (a := ⟨wj.heap.size, 1, none⟩) (v := .int .i64 y0) (by simp [go_sem]); have a2 := cell_later hbk (a := ⟨wj.heap.size + 1, 0, none⟩) (v := .int .i64 x1) (by simp [go_sem]); have a3 := cell_later hbk (a := ⟨wj.heap.size + 1, 1, none⟩) (v := .int .i64 y1) (by simp [go_sem]); have a4 := cell_later hbk (a := ⟨wj.heap.size + 1 + 1, 0, none⟩) (v := .int .i64 x2) (by simp [go_sem]); have a5 := cell_later hbk (a := ⟨wj.heap.size + 1 + 1, 1, none⟩) (v := .int .i64 y2) (by simp [go_sem]); have a6 := cell_later hbk (a := ⟨wj.heap.size + 1 + 1 + 1, 0, none⟩) (v := .int .i64 x3) (by simp [go_sem]); have a7 := cell_later hbk (a := ⟨wj.heap.size + 1 + 1 + 1, 1, none⟩) (v := .int .i64 y3) (by simp [go_sem]); have hck := grew hcj (grew (by go_grown) hbk))
        | (go_at_call 14; refine (triSpec_c x0 y0 x1 y1 x2 y2 x3 y3 wk).mono ?_; rintro e wl ⟨rfl, hbl⟩; have hcl := grew hck hbl)
        | (go_at_call 37; refine (drawSeg_c _ _ _ wl ((HB1.out.below hcl).mono hcl.size) l1).mono ?_; rintro e wm ⟨u0, z0, u1, z1, u2, z2, rfl, hbm⟩; have hcm := grew hcl hbm)
        | (go_at_call 13; clear tq; refine (onSegImpl_c u0 z0 u1 z1 u2 z2 _ (cell_later (grew hcm (by go_grown)) C0.out)).mono ?_; rintro e wn ⟨rfl, hbn⟩; have c0 := cell_later hbn (a := ⟨wm.heap.size, 0, none⟩) (v := .int .i64 u0) (by simp [go_sem]); have c1 := cell_later hbn (a := ⟨wm.heap.size, 1, none⟩) (v := .int .i64 z0) (by simp [go_sem]); have c2 := cell_later hbn (a := ⟨wm.heap.size + 1, 0, none⟩) (v := .int .i64 u1) (by simp [go_sem]); have c3 := cell_later hbn (a := ⟨wm.heap.size + 1, 1, none⟩) (v := .int .i64 z1) (by simp [go_sem]); have c4 := cell_later hbn (a := ⟨wm.heap.size + 1 + 1, 0, none⟩) (v := .int .i64 u2) (by simp [go_sem]); have c5 := cell_later hbn (a := ⟨wm.heap.size + 1 + 1, 1, none⟩) (v := .int .i64 z2) (by simp [go_sem]); have hcn := grew hcm (grew (by go_grown) hbn))
        | (go_at_call 11; refine (onSegSpec_c u0 z0 u1 z1 u2 z2 wn).mono ?_; rintro e wo ⟨rfl, hbo⟩; have d0 := cell_later hbo c0; have d1 := cell_later hbo c1; have d2 := cell_later hbo c2; have d3 := cell_later hbo c3; have d4 := cell_later hbo c4; have d5 := cell_later hbo c5; have hco := grew hcn hbo)
        | (go_at_call 13; refine (onSegImpl_c u1 z1 u0 z0 u2 z2 wo (cell_later hco C0.out)).mono ?_; rw [sgB_swap, sideOk_swap]; rintro e wp ⟨rfl, hbp⟩; have hcp := grew hco hbp))
      all_goals go_ret
      all_goals exact ⟨rfl, hcp⟩
    · by_cases h1 : 1 < h.length
      · have HRW := hid (rim_where hK h1)
        have HF0 := fun h2 => fanned hK h2
        obtain ⟨nw, hnw⟩ : ∃ nw, whV h qx qy = nw := ⟨_, rfl⟩
        have HNW := hid hnw
        rw [hnw] at HRW
        clear hnw
        have hd1 : decide (1 < (h.length : Int)) = true := decide_eq_true (by omega)
        by_cases h2 : 2 < h.length
        · have HF := hid (HF0 h2)
          have hd2 : decide (2 < (h.length : Int)) = true := decide_eq_true (by omega)
          have HIF0 := (HF0 h2).any
          rw [HNW.out] at HIF0
          clear HF0
          obtain ⟨n, hn⟩ : ∃ n, h.length - 2 = n := ⟨_, rfl⟩
          rw [hn] at HIF0
          have HIF := hid HIF0
          have hfan : fanV h = fanTo h n := by rw [← hn]; exact HF.out.fan
          clear HIF0
          go_upto_region 13 with (first
            | (go_at_call 19; refine (whereIsImpl_c h qx qy _ _ _ wq rfl hhm hoq.at (cell_later hbq C0.out)).mono ?_; rw [hK, HNW.out]; rintro e w2 ⟨rfl, hb2⟩; have ka0 := cell_later hb2 kq0; have ka1 := cell_later hb2 kq1)
            | (go_at_call 17; refine (whereIsSpec_c h qx qy _ _ _ w2 rfl hhm (hoq.later hb2).at).mono ?_; rw [hK, HNW.out]; rintro e w3 ⟨rfl, hb3⟩; have hB3 := grew hb2 hb3; have kb0 := cell_later hb3 ka0; have kb1 := cell_later hb3 ka1)
            | (go_at_call 22; refine (rimAtTopImpl_c h qx qy _ _ _ w3 rfl hhm (hoq.later hB3).at (cell_later (grew hbq hB3) C0.out)).mono ?_; rw [HRW.out]; rintro e w4 ⟨rfl, hb4⟩; have hB4 := grew hB3 hb4; have kc0 := cell_later hb4 kb0; have kc1 := cell_later hb4 kb1)
            | (go_at_call 21; refine (rimAtTopSpec_c h qx qy _ _ _ w4 rfl hhm (hoq.later hB4).at).mono ?_; rw [HRW.out]; rintro e w5 ⟨rfl, hb5⟩; have hB5 := grew hB4 hb5; have kd0 := cell_later hb5 kc0; have kd1 := cell_later hb5 kc1; have hc5 := grew hbq hB5)
            | (go_at_call 30; refine (fanImpl_c h _ _ _ w5 rfl hhm (hoq.later hB5).at (cell_later hc5 C0.out)).mono ?_; rw [HF.out.ok, hfan]; rintro e w6 ⟨v6, vs6, rfl, ho6, hb6⟩; obtain ⟨a6, p6, hv6⟩ := ho6.shape; rw [fanTo_len] at hv6; subst hv6; have ke0 := cell_later hb6 kd0; have ke1 := cell_later hb6 kd1; have hc6 := grew hc5 hb6))
          have HO6 := hid ho6
          clear ho6 hoq hfan hd1 hd2 hb2 hb3 hb4 hb5 hb6 hB3 hB4 hB5 hc5 kq0 kq1 ka0 ka1 kb0 kb1 kc0 kc1 kd0 kd1 hK
          have HFT := HF
          go_wp2
          go_loopw [17, 116] (fun bb ii wr => ∃ i : Nat, i ≤ n ∧ bb = .bool (anyF (triF h qx qy) i) ∧ ii = .int .i64 i ∧ Below w6.heap.size w6 wr) (fun _ ii _ => n - (intOf ii).toNat)
          case atStart => exact ⟨0, Nat.zero_le _, rfl, rfl, Below.refl _ _⟩
          case round =>
            obtain ⟨i, hi, rfl, rfl, hbr⟩ := hrel
            have HBR := hid hbr
            have HCR := hid (grew hc6 hbr)
            by_cases hil : i < n
            · obtain ⟨fb, fo, ai, ci, ea, hN, g9, iAt⟩ := (HO6.out.later hbr).at i (by rw [fanTo_len]; exact hil)
              rw [nth_fanTo hil] at g9 iAt
              subst ea
              obtain ⟨tb, tz, et, htb, g0, g1⟩ := iAt 0 (by simp [fanT])
              obtain ⟨tb1, tz1, et1, _, g2, g3⟩ := iAt 1 (by simp [fanT])
              obtain ⟨tb2, tz2, et2, _, g4, g5⟩ := iAt 2 (by simp [fanT])
              subst et
              obtain ⟨rfl, rfl⟩ : tb = tb1 ∧ tz = tz1 := by simpa using et1
              obtain ⟨rfl, rfl⟩ : tb = tb2 ∧ tz = tz2 := by simpa using et2
              clear et1 et2 iAt
              have e3 : (fanT h i).length = 3 := rfl
              rw [e3] at g9
              simp only [Nat.zero_mul, Nat.add_zero, Nat.one_mul] at g0 g1 g2 g3
              have htr := HF.out.tri i (by omega)
              have hfi : triF h qx qy i = !decide (triV (px h 0) (py h 0) (px h (i + 1)) (py h (i + 1)) (px h (i + 2)) (py h (i + 2)) qx qy = 0) := rfl
              obtain ⟨X0, hX0⟩ : ∃ x, px h 0 = x := ⟨_, rfl⟩
              obtain ⟨Y0, hY0⟩ : ∃ x, py h 0 = x := ⟨_, rfl⟩
              obtain ⟨X1, hX1⟩ : ∃ x, px h (i + 1) = x := ⟨_, rfl⟩
              obtain ⟨Y1, hY1⟩ : ∃ x, py h (i + 1) = x := ⟨_, rfl⟩
              obtain ⟨X2, hX2⟩ : ∃ x, px h (i + 2) = x := ⟨_, rfl⟩
              obtain ⟨Y2, hY2⟩ : ∃ x, py h (i + 2) = x := ⟨_, rfl⟩
              rw [hX0, hY0, hX1, hY1, hX2, hY2] at htr hfi
              replace g0 : wr.cell? ⟨tb, tz, none⟩ = some (.int .i64 X0) := by rw [← hX0]; exact g0
              replace g1 : wr.cell? ⟨tb, tz + 1, none⟩ = some (.int .i64 Y0) := by rw [← hY0]; exact g1
              replace g2 : wr.cell? ⟨tb, tz + 2, none⟩ = some (.int .i64 X1) := by rw [← hX1]; exact g2
              replace g3 : wr.cell? ⟨tb, tz + 2 + 1, none⟩ = some (.int .i64 Y1) := by rw [← hY1]; exact g3
              replace g4 : wr.cell? ⟨tb, tz + 4, none⟩ = some (.int .i64 X2) := by rw [← hX2]; exact g4
              replace g5 : wr.cell? ⟨tb, tz + 4 + 1, none⟩ = some (.int .i64 Y2) := by rw [← hY2]; exact g5
              obtain ⟨nn, hnn⟩ : ∃ nn, triV X0 Y0 X1 Y1 X2 Y2 qx qy = nn := ⟨_, rfl⟩
              rw [hnn] at hfi
              have HTV := hid hnn
              have HTO := hid htr
              have k0 := cell_later hbr ke0
              have k1 := cell_later hbr ke1
              have j0 : (0 : Int) ≤ (i : Int) := by omega
              have j1 : (i : Int) < (n : Int) := by omega
              clear hX0 hY0 hX1 hY1 hX2 hY2 hnn htr e3 hbr
              by_cases hn0 : nn = 0
              · have HFI := hid (show triF h qx qy i = false by rw [hfi, decide_eq_true hn0]; rfl)
                subst hn0
                clear hfi
                cases hAF : anyF (triF h qx qy) i
                · go_upto_region 18 with fail
                  refine wp_region_held_drew (S := (fun u => Below wr.heap.size wr u)) (by kernel_rfl) ?_ (fun hHeld => ?_)
                  · exact (Below.refl _ _).drew
                  refine wpAnyH_take (i := 0) (oi := { dst := some 124, op := Op.move (Operand.tmp 19), type := 35, pos := "laws.go:351", after := #[], guard := none }) (v := ?v21rx0) rfl (by kernel_rfl) (by kernel_rfl) (by kernel_rfl) (fun _ _ _ h => h) (Or.inl ⟨by rfl, ?hy21rx0⟩) (by with_reducible assumption) ?rest21rx0
                  case hy21rx0 => (intro w hSw; (try dsimp only at hSw); have z0 := cell_later hSw g0; have z1 := cell_later hSw g1; have z2 := cell_later hSw g2; have z3 := cell_later hSw g3; have z4 := cell_later hSw g4; have z5 := cell_later hSw g5; have z6 := cell_later hSw k0; have z7 := cell_later hSw k1; clear hSw; go_simp; try with_reducible rfl)
                  case' rest21rx0 => (try simp only [Act.put, List.setIfInBounds_toArray, List.set_cons_zero, List.set_cons_succ])
                  refine wpAnyH_take (i := 1) (oi := { dst := some 125, op := Op.indexAddr 35 (Operand.tmp 124) (Operand.const (Value.int IntKind.i64 0)), type := 0, pos := "laws.go:351", after := #[{ on := 0, ground := Ground.data }], guard := none }) (v := ?v21rx1) rfl (by kernel_rfl) (by kernel_rfl) (by kernel_rfl) (fun _ _ _ h => h) (Or.inl ⟨by rfl, ?hy21rx1⟩) (by with_reducible assumption) ?rest21rx1
                  case hy21rx1 => (intro w hSw; (try dsimp only at hSw); have z0 := cell_later hSw g0; have z1 := cell_later hSw g1; have z2 := cell_later hSw g2; have z3 := cell_later hSw g3; have z4 := cell_later hSw g4; have z5 := cell_later hSw g5; have z6 := cell_later hSw k0; have z7 := cell_later hSw k1; clear hSw; go_simp; try with_reducible rfl)
                  case' rest21rx1 => (try simp only [Act.put, List.setIfInBounds_toArray, List.set_cons_zero, List.set_cons_succ])
                  refine wpAnyH_take (i := 2) (oi := { dst := some 126, op := Op.load 26 (Operand.tmp 125), type := 26, pos := "laws.go:351", after := #[{ on := 1, ground := Ground.data }], guard := none }) (v := ?v21rx2) rfl (by kernel_rfl) (by kernel_rfl) (by kernel_rfl) (fun _ _ _ h => h) (Or.inl ⟨by rfl, ?hy21rx2⟩) (by with_reducible assumption) ?rest21rx2
                  case hy21rx2 => (intro w hSw; (try dsimp only at hSw); have z0 := cell_later hSw g0; have z1 := cell_later hSw g1; have z2 := cell_later hSw g2; have z3 := cell_later hSw g3; have z4 := cell_later hSw g4; have z5 := cell_later hSw g5; have z6 := cell_later hSw k0; have z7 := cell_later hSw k1; clear hSw; go_simp; try with_reducible rfl)
                  case' rest21rx2 => (try simp only [Act.put, List.setIfInBounds_toArray, List.set_cons_zero, List.set_cons_succ])
                  refine wpAnyH_take (i := 3) (oi := { dst := some 127, op := Op.move (Operand.tmp 19), type := 35, pos := "laws.go:351", after := #[], guard := none }) (v := ?v21rx3) rfl (by kernel_rfl) (by kernel_rfl) (by kernel_rfl) (fun _ _ _ h => h) (Or.inl ⟨by rfl, ?hy21rx3⟩) (by with_reducible assumption) ?rest21rx3
                  case hy21rx3 => (intro w hSw; (try dsimp only at hSw); have z0 := cell_later hSw g0; have z1 := cell_later hSw g1; have z2 := cell_later hSw g2; have z3 := cell_later hSw g3; have z4 := cell_later hSw g4; have z5 := cell_later hSw g5; have z6 := cell_later hSw k0; have z7 := cell_later hSw k1; clear hSw; go_simp; try with_reducible rfl)
                  case' rest21rx3 => (try simp only [Act.put, List.setIfInBounds_toArray, List.set_cons_zero, List.set_cons_succ])
                  refine wpAnyH_take (i := 4) (oi := { dst := some 128, op := Op.indexAddr 35 (Operand.tmp 127) (Operand.const (Value.int IntKind.i64 1)), type := 0, pos := "laws.go:351", after := #[{ on := 3, ground := Ground.data }], guard := none }) (v := ?v21rx4) rfl (by kernel_rfl) (by kernel_rfl) (by kernel_rfl) (fun _ _ _ h => h) (Or.inl ⟨by rfl, ?hy21rx4⟩) (by with_reducible assumption) ?rest21rx4
                  case hy21rx4 => (intro w hSw; (try dsimp only at hSw); have z0 := cell_later hSw g0; have z1 := cell_later hSw g1; have z2 := cell_later hSw g2; have z3 := cell_later hSw g3; have z4 := cell_later hSw g4; have z5 := cell_later hSw g5; have z6 := cell_later hSw k0; have z7 := cell_later hSw k1; clear hSw; go_simp; try with_reducible rfl)
                  case' rest21rx4 => (try simp only [Act.put, List.setIfInBounds_toArray, List.set_cons_zero, List.set_cons_succ])
                  refine wpAnyH_take (i := 5) (oi := { dst := some 129, op := Op.load 26 (Operand.tmp 128), type := 26, pos := "laws.go:351", after := #[{ on := 4, ground := Ground.data }], guard := none }) (v := ?v21rx5) rfl (by kernel_rfl) (by kernel_rfl) (by kernel_rfl) (fun _ _ _ h => h) (Or.inl ⟨by rfl, ?hy21rx5⟩) (by with_reducible assumption) ?rest21rx5
                  case hy21rx5 => (intro w hSw; (try dsimp only at hSw); have z0 := cell_later hSw g0; have z1 := cell_later hSw g1; have z2 := cell_later hSw g2; have z3 := cell_later hSw g3; have z4 := cell_later hSw g4; have z5 := cell_later hSw g5; have z6 := cell_later hSw k0; have z7 := cell_later hSw k1; clear hSw; go_simp; try with_reducible rfl)
                  case' rest21rx5 => (try simp only [Act.put, List.setIfInBounds_toArray, List.set_cons_zero, List.set_cons_succ])
                  refine wpAnyH_take (i := 6) (oi := { dst := some 130, op := Op.move (Operand.tmp 19), type := 35, pos := "laws.go:351", after := #[], guard := none }) (v := ?v21rx6) rfl (by kernel_rfl) (by kernel_rfl) (by kernel_rfl) (fun _ _ _ h => h) (Or.inl ⟨by rfl, ?hy21rx6⟩) (by with_reducible assumption) ?rest21rx6
                  case hy21rx6 => (intro w hSw; (try dsimp only at hSw); have z0 := cell_later hSw g0; have z1 := cell_later hSw g1; have z2 := cell_later hSw g2; have z3 := cell_later hSw g3; have z4 := cell_later hSw g4; have z5 := cell_later hSw g5; have z6 := cell_later hSw k0; have z7 := cell_later hSw k1; clear hSw; go_simp; try with_reducible rfl)
                  case' rest21rx6 => (try simp only [Act.put, List.setIfInBounds_toArray, List.set_cons_zero, List.set_cons_succ])
                  refine wpAnyH_take (i := 7) (oi := { dst := some 131, op := Op.indexAddr 35 (Operand.tmp 130) (Operand.const (Value.int IntKind.i64 2)), type := 0, pos := "laws.go:351", after := #[{ on := 6, ground := Ground.data }], guard := none }) (v := ?v21rx7) rfl (by kernel_rfl) (by kernel_rfl) (by kernel_rfl) (fun _ _ _ h => h) (Or.inl ⟨by rfl, ?hy21rx7⟩) (by with_reducible assumption) ?rest21rx7
                  case hy21rx7 => (intro w hSw; (try dsimp only at hSw); have z0 := cell_later hSw g0; have z1 := cell_later hSw g1; have z2 := cell_later hSw g2; have z3 := cell_later hSw g3; have z4 := cell_later hSw g4; have z5 := cell_later hSw g5; have z6 := cell_later hSw k0; have z7 := cell_later hSw k1; clear hSw; go_simp; try with_reducible rfl)
                  case' rest21rx7 => (try simp only [Act.put, List.setIfInBounds_toArray, List.set_cons_zero, List.set_cons_succ])
                  refine wpAnyH_take (i := 8) (oi := { dst := some 132, op := Op.load 26 (Operand.tmp 131), type := 26, pos := "laws.go:351", after := #[{ on := 7, ground := Ground.data }], guard := none }) (v := ?v21rx8) rfl (by kernel_rfl) (by kernel_rfl) (by kernel_rfl) (fun _ _ _ h => h) (Or.inl ⟨by rfl, ?hy21rx8⟩) (by with_reducible assumption) ?rest21rx8
                  case hy21rx8 => (intro w hSw; (try dsimp only at hSw); have z0 := cell_later hSw g0; have z1 := cell_later hSw g1; have z2 := cell_later hSw g2; have z3 := cell_later hSw g3; have z4 := cell_later hSw g4; have z5 := cell_later hSw g5; have z6 := cell_later hSw k0; have z7 := cell_later hSw k1; clear hSw; go_simp; try with_reducible rfl)
                  case' rest21rx8 => (try simp only [Act.put, List.setIfInBounds_toArray, List.set_cons_zero, List.set_cons_succ])
                  refine wpAnyH_take (i := 9) (oi := { dst := some 133, op := Op.load 26 (Operand.tmp 6), type := 26, pos := "laws.go:351", after := #[], guard := none }) (v := ?v21rx9) rfl (by kernel_rfl) (by kernel_rfl) (by kernel_rfl) (fun _ _ _ h => h) (Or.inl ⟨by rfl, ?hy21rx9⟩) (by with_reducible assumption) ?rest21rx9
                  case hy21rx9 => (intro w hSw; (try dsimp only at hSw); have z0 := cell_later hSw g0; have z1 := cell_later hSw g1; have z2 := cell_later hSw g2; have z3 := cell_later hSw g3; have z4 := cell_later hSw g4; have z5 := cell_later hSw g5; have z6 := cell_later hSw k0; have z7 := cell_later hSw k1; clear hSw; go_simp; try with_reducible rfl)
                  case' rest21rx9 => (try simp only [Act.put, List.setIfInBounds_toArray, List.set_cons_zero, List.set_cons_succ])
                  refine wpAnyH_ready (rs := [10]) (by kernel_rfl) (by simp) ?_
                  refine AllReadyH.cons (o := { dst := some 134, op := Op.call { callee := Callee.value (Operand.func 15), args := #[Operand.tmp 126, Operand.tmp 129, Operand.tmp 132, Operand.tmp 133], argTypes := #[26, 26, 26, 26] }, type := 29, pos := "laws.go:351", after := #[{ on := 2, ground := Ground.data }, { on := 5, ground := Ground.data }, { on := 8, ground := Ground.data }, { on := 9, ground := Ground.data }], guard := none }) rfl (fun K hK => ?_) AllReadyH.nil
                  go_simp
                  refine (triImpl_c X0 Y0 X1 Y1 X2 Y2 qx qy _ (cell_later (grew HCR.out (by with_reducible assumption)) C0.out)).mono ?_
                  rintro e w9 ⟨rfl, hb9⟩
                  go_wp2_with fail
                  refine hK.out _ _ ?_ (fun hHeld => ?_)
                  · exact grew (by with_reducible assumption) hb9
                  clear hK K
                  try simp only [Act.put, List.setIfInBounds_toArray, List.set_cons_zero, List.set_cons_succ]
                  refine wpAnyH_take (i := 11) (oi := { dst := some 123, op := Op.move (Operand.tmp 134), type := 29, pos := "laws.go:351", after := #[{ on := 10, ground := Ground.data }], guard := none }) (v := ?v21rx11) rfl (by kernel_rfl) (by kernel_rfl) (by kernel_rfl) (fun _ _ _ h => h) (Or.inl ⟨by rfl, ?hy21rx11⟩) (by with_reducible assumption) ?rest21rx11
                  case hy21rx11 => (intro w hSw; (try dsimp only at hSw); have z0 := cell_later hSw g0; have z1 := cell_later hSw g1; have z2 := cell_later hSw g2; have z3 := cell_later hSw g3; have z4 := cell_later hSw g4; have z5 := cell_later hSw g5; have z6 := cell_later hSw k0; have z7 := cell_later hSw k1; clear hSw; go_simp; try with_reducible rfl)
                  case' rest21rx11 => (try simp only [Act.put, List.setIfInBounds_toArray, List.set_cons_zero, List.set_cons_succ])
                  refine wpAnyH_take (i := 12) (oi := { dst := some 135, op := Op.extract (Operand.tmp 123) 0, type := 3, pos := "laws.go:351", after := #[{ on := 11, ground := Ground.data }], guard := none }) (v := ?v21rx12) rfl (by kernel_rfl) (by kernel_rfl) (by kernel_rfl) (fun _ _ _ h => h) (Or.inl ⟨by rfl, ?hy21rx12⟩) (by with_reducible assumption) ?rest21rx12
                  case hy21rx12 => (intro w hSw; (try dsimp only at hSw); have z0 := cell_later hSw g0; have z1 := cell_later hSw g1; have z2 := cell_later hSw g2; have z3 := cell_later hSw g3; have z4 := cell_later hSw g4; have z5 := cell_later hSw g5; have z6 := cell_later hSw k0; have z7 := cell_later hSw k1; clear hSw; go_simp; try with_reducible rfl)
                  case' rest21rx12 => (try simp only [Act.put, List.setIfInBounds_toArray, List.set_cons_zero, List.set_cons_succ])
                  refine wpAnyH_take (i := 13) (oi := { dst := some 136, op := Op.extract (Operand.tmp 123) 1, type := 4, pos := "laws.go:351", after := #[{ on := 11, ground := Ground.data }, { on := 14, ground := Ground.gcOnly Departure.lateStores }], guard := none }) (v := ?v21rx13) rfl (by kernel_rfl) (by kernel_rfl) (by kernel_rfl) (fun _ _ _ h => h) (Or.inl ⟨by rfl, ?hy21rx13⟩) (by with_reducible assumption) ?rest21rx13
                  case hy21rx13 => (intro w hSw; (try dsimp only at hSw); have z0 := cell_later hSw g0; have z1 := cell_later hSw g1; have z2 := cell_later hSw g2; have z3 := cell_later hSw g3; have z4 := cell_later hSw g4; have z5 := cell_later hSw g5; have z6 := cell_later hSw k0; have z7 := cell_later hSw k1; clear hSw; go_simp; try with_reducible rfl)
                  case' rest21rx13 => (try simp only [Act.put, List.setIfInBounds_toArray, List.set_cons_zero, List.set_cons_succ])
                  refine wpAnyH_take (i := 14) (oi := { dst := some 20, op := Op.assign (Operand.tmp 135), type := 3, pos := "laws.go:351", after := #[{ on := 12, ground := Ground.data }, { on := 10, ground := Ground.chain }, { on := 0, ground := Ground.phase }, { on := 1, ground := Ground.phase }, { on := 2, ground := Ground.phase }, { on := 3, ground := Ground.phase }, { on := 4, ground := Ground.phase }, { on := 5, ground := Ground.phase }, { on := 6, ground := Ground.phase }, { on := 7, ground := Ground.phase }, { on := 8, ground := Ground.phase }, { on := 9, ground := Ground.phase }, { on := 10, ground := Ground.phase }, { on := 11, ground := Ground.phase }, { on := 12, ground := Ground.phase }, { on := 13, ground := Ground.textOnly Departure.lateStores }], guard := none }) (v := ?v21rx14) rfl (by kernel_rfl) (by kernel_rfl) (by kernel_rfl) (fun _ _ _ h => h) (Or.inl ⟨by rfl, ?hy21rx14⟩) (by with_reducible assumption) ?rest21rx14
                  case hy21rx14 => (intro w hSw; (try dsimp only at hSw); have z0 := cell_later hSw g0; have z1 := cell_later hSw g1; have z2 := cell_later hSw g2; have z3 := cell_later hSw g3; have z4 := cell_later hSw g4; have z5 := cell_later hSw g5; have z6 := cell_later hSw k0; have z7 := cell_later hSw k1; clear hSw; go_simp; try with_reducible rfl)
                  case' rest21rx14 => (try simp only [Act.put, List.setIfInBounds_toArray, List.set_cons_zero, List.set_cons_succ])
                  refine wpAnyH_take (i := 15) (oi := { dst := some 21, op := Op.assign (Operand.tmp 136), type := 4, pos := "laws.go:351", after := #[{ on := 13, ground := Ground.data }, { on := 14, ground := Ground.chain }, { on := 0, ground := Ground.phase }, { on := 1, ground := Ground.phase }, { on := 2, ground := Ground.phase }, { on := 3, ground := Ground.phase }, { on := 4, ground := Ground.phase }, { on := 5, ground := Ground.phase }, { on := 6, ground := Ground.phase }, { on := 7, ground := Ground.phase }, { on := 8, ground := Ground.phase }, { on := 9, ground := Ground.phase }, { on := 10, ground := Ground.phase }, { on := 11, ground := Ground.phase }, { on := 12, ground := Ground.phase }, { on := 13, ground := Ground.phase }, { on := 14, ground := Ground.phase }], guard := none }) (v := ?v21rx15) rfl (by kernel_rfl) (by kernel_rfl) (by kernel_rfl) (fun _ _ _ h => h) (Or.inl ⟨by rfl, ?hy21rx15⟩) (by with_reducible assumption) ?rest21rx15
                  case hy21rx15 => (intro w hSw; (try dsimp only at hSw); have z0 := cell_later hSw g0; have z1 := cell_later hSw g1; have z2 := cell_later hSw g2; have z3 := cell_later hSw g3; have z4 := cell_later hSw g4; have z5 := cell_later hSw g5; have z6 := cell_later hSw k0; have z7 := cell_later hSw k1; clear hSw; go_simp; try with_reducible rfl)
                  case' rest21rx15 => (try simp only [Act.put, List.setIfInBounds_toArray, List.set_cons_zero, List.set_cons_succ])
                  refine wpAnyH_done (by kernel_rfl) ?_ _
                  rw [HTV.out, HTO.out]
                  have HS9 := hid hHeld
                  clear hHeld g0 g1 g2 g3 g4 g5 k0 k1
                  go_wp2
                  go_roundw
                  case rel => exact ⟨i + 1, by omega, by rw [anyF_succ, hAF, HFI.out]; first | rfl | (rw [bne_iff_ne.2 hn0]; rfl), by go_num, grew HBR.out HS9.out⟩
                  case measure => simp [intOf]; omega
                · go_upto_region 18 with fail
                  refine wp_region_held_drew (S := (fun u => Below wr.heap.size wr u)) (by kernel_rfl) ?_ (fun hHeld => ?_)
                  · exact (Below.refl _ _).drew
                  refine wpAnyH_take (i := 0) (oi := { dst := some 124, op := Op.move (Operand.tmp 19), type := 35, pos := "laws.go:351", after := #[], guard := none }) (v := ?v22rx0) rfl (by kernel_rfl) (by kernel_rfl) (by kernel_rfl) (fun _ _ _ h => h) (Or.inl ⟨by rfl, ?hy22rx0⟩) (by with_reducible assumption) ?rest22rx0
                  case hy22rx0 => (intro w hSw; (try dsimp only at hSw); have z0 := cell_later hSw g0; have z1 := cell_later hSw g1; have z2 := cell_later hSw g2; have z3 := cell_later hSw g3; have z4 := cell_later hSw g4; have z5 := cell_later hSw g5; have z6 := cell_later hSw k0; have z7 := cell_later hSw k1; clear hSw; go_simp; try with_reducible rfl)
                  case' rest22rx0 => (try simp only [Act.put, List.setIfInBounds_toArray, List.set_cons_zero, List.set_cons_succ])
                  refine wpAnyH_take (i := 1) (oi := { dst := some 125, op := Op.indexAddr 35 (Operand.tmp 124) (Operand.const (Value.int IntKind.i64 0)), type := 0, pos := "laws.go:351", after := #[{ on := 0, ground := Ground.data }], guard := none }) (v := ?v22rx1) rfl (by kernel_rfl) (by kernel_rfl) (by kernel_rfl) (fun _ _ _ h => h) (Or.inl ⟨by rfl, ?hy22rx1⟩) (by with_reducible assumption) ?rest22rx1
                  case hy22rx1 => (intro w hSw; (try dsimp only at hSw); have z0 := cell_later hSw g0; have z1 := cell_later hSw g1; have z2 := cell_later hSw g2; have z3 := cell_later hSw g3; have z4 := cell_later hSw g4; have z5 := cell_later hSw g5; have z6 := cell_later hSw k0; have z7 := cell_later hSw k1; clear hSw; go_simp; try with_reducible rfl)
                  case' rest22rx1 => (try simp only [Act.put, List.setIfInBounds_toArray, List.set_cons_zero, List.set_cons_succ])
                  refine wpAnyH_take (i := 2) (oi := { dst := some 126, op := Op.load 26 (Operand.tmp 125), type := 26, pos := "laws.go:351", after := #[{ on := 1, ground := Ground.data }], guard := none }) (v := ?v22rx2) rfl (by kernel_rfl) (by kernel_rfl) (by kernel_rfl) (fun _ _ _ h => h) (Or.inl ⟨by rfl, ?hy22rx2⟩) (by with_reducible assumption) ?rest22rx2
                  case hy22rx2 => (intro w hSw; (try dsimp only at hSw); have z0 := cell_later hSw g0; have z1 := cell_later hSw g1; have z2 := cell_later hSw g2; have z3 := cell_later hSw g3; have z4 := cell_later hSw g4; have z5 := cell_later hSw g5; have z6 := cell_later hSw k0; have z7 := cell_later hSw k1; clear hSw; go_simp; try with_reducible rfl)
                  case' rest22rx2 => (try simp only [Act.put, List.setIfInBounds_toArray, List.set_cons_zero, List.set_cons_succ])
                  refine wpAnyH_take (i := 3) (oi := { dst := some 127, op := Op.move (Operand.tmp 19), type := 35, pos := "laws.go:351", after := #[], guard := none }) (v := ?v22rx3) rfl (by kernel_rfl) (by kernel_rfl) (by kernel_rfl) (fun _ _ _ h => h) (Or.inl ⟨by rfl, ?hy22rx3⟩) (by with_reducible assumption) ?rest22rx3
                  case hy22rx3 => (intro w hSw; (try dsimp only at hSw); have z0 := cell_later hSw g0; have z1 := cell_later hSw g1; have z2 := cell_later hSw g2; have z3 := cell_later hSw g3; have z4 := cell_later hSw g4; have z5 := cell_later hSw g5; have z6 := cell_later hSw k0; have z7 := cell_later hSw k1; clear hSw; go_simp; try with_reducible rfl)
                  case' rest22rx3 => (try simp only [Act.put, List.setIfInBounds_toArray, List.set_cons_zero, List.set_cons_succ])
                  refine wpAnyH_take (i := 4) (oi := { dst := some 128, op := Op.indexAddr 35 (Operand.tmp 127) (Operand.const (Value.int IntKind.i64 1)), type := 0, pos := "laws.go:351", after := #[{ on := 3, ground := Ground.data }], guard := none }) (v := ?v22rx4) rfl (by kernel_rfl) (by kernel_rfl) (by kernel_rfl) (fun _ _ _ h => h) (Or.inl ⟨by rfl, ?hy22rx4⟩) (by with_reducible assumption) ?rest22rx4
                  case hy22rx4 => (intro w hSw; (try dsimp only at hSw); have z0 := cell_later hSw g0; have z1 := cell_later hSw g1; have z2 := cell_later hSw g2; have z3 := cell_later hSw g3; have z4 := cell_later hSw g4; have z5 := cell_later hSw g5; have z6 := cell_later hSw k0; have z7 := cell_later hSw k1; clear hSw; go_simp; try with_reducible rfl)
                  case' rest22rx4 => (try simp only [Act.put, List.setIfInBounds_toArray, List.set_cons_zero, List.set_cons_succ])
                  refine wpAnyH_take (i := 5) (oi := { dst := some 129, op := Op.load 26 (Operand.tmp 128), type := 26, pos := "laws.go:351", after := #[{ on := 4, ground := Ground.data }], guard := none }) (v := ?v22rx5) rfl (by kernel_rfl) (by kernel_rfl) (by kernel_rfl) (fun _ _ _ h => h) (Or.inl ⟨by rfl, ?hy22rx5⟩) (by with_reducible assumption) ?rest22rx5
                  case hy22rx5 => (intro w hSw; (try dsimp only at hSw); have z0 := cell_later hSw g0; have z1 := cell_later hSw g1; have z2 := cell_later hSw g2; have z3 := cell_later hSw g3; have z4 := cell_later hSw g4; have z5 := cell_later hSw g5; have z6 := cell_later hSw k0; have z7 := cell_later hSw k1; clear hSw; go_simp; try with_reducible rfl)
                  case' rest22rx5 => (try simp only [Act.put, List.setIfInBounds_toArray, List.set_cons_zero, List.set_cons_succ])
                  refine wpAnyH_take (i := 6) (oi := { dst := some 130, op := Op.move (Operand.tmp 19), type := 35, pos := "laws.go:351", after := #[], guard := none }) (v := ?v22rx6) rfl (by kernel_rfl) (by kernel_rfl) (by kernel_rfl) (fun _ _ _ h => h) (Or.inl ⟨by rfl, ?hy22rx6⟩) (by with_reducible assumption) ?rest22rx6
                  case hy22rx6 => (intro w hSw; (try dsimp only at hSw); have z0 := cell_later hSw g0; have z1 := cell_later hSw g1; have z2 := cell_later hSw g2; have z3 := cell_later hSw g3; have z4 := cell_later hSw g4; have z5 := cell_later hSw g5; have z6 := cell_later hSw k0; have z7 := cell_later hSw k1; clear hSw; go_simp; try with_reducible rfl)
                  case' rest22rx6 => (try simp only [Act.put, List.setIfInBounds_toArray, List.set_cons_zero, List.set_cons_succ])
                  refine wpAnyH_take (i := 7) (oi := { dst := some 131, op := Op.indexAddr 35 (Operand.tmp 130) (Operand.const (Value.int IntKind.i64 2)), type := 0, pos := "laws.go:351", after := #[{ on := 6, ground := Ground.data }], guard := none }) (v := ?v22rx7) rfl (by kernel_rfl) (by kernel_rfl) (by kernel_rfl) (fun _ _ _ h => h) (Or.inl ⟨by rfl, ?hy22rx7⟩) (by with_reducible assumption) ?rest22rx7
                  case hy22rx7 => (intro w hSw; (try dsimp only at hSw); have z0 := cell_later hSw g0; have z1 := cell_later hSw g1; have z2 := cell_later hSw g2; have z3 := cell_later hSw g3; have z4 := cell_later hSw g4; have z5 := cell_later hSw g5; have z6 := cell_later hSw k0; have z7 := cell_later hSw k1; clear hSw; go_simp; try with_reducible rfl)
                  case' rest22rx7 => (try simp only [Act.put, List.setIfInBounds_toArray, List.set_cons_zero, List.set_cons_succ])
                  refine wpAnyH_take (i := 8) (oi := { dst := some 132, op := Op.load 26 (Operand.tmp 131), type := 26, pos := "laws.go:351", after := #[{ on := 7, ground := Ground.data }], guard := none }) (v := ?v22rx8) rfl (by kernel_rfl) (by kernel_rfl) (by kernel_rfl) (fun _ _ _ h => h) (Or.inl ⟨by rfl, ?hy22rx8⟩) (by with_reducible assumption) ?rest22rx8
                  case hy22rx8 => (intro w hSw; (try dsimp only at hSw); have z0 := cell_later hSw g0; have z1 := cell_later hSw g1; have z2 := cell_later hSw g2; have z3 := cell_later hSw g3; have z4 := cell_later hSw g4; have z5 := cell_later hSw g5; have z6 := cell_later hSw k0; have z7 := cell_later hSw k1; clear hSw; go_simp; try with_reducible rfl)
                  case' rest22rx8 => (try simp only [Act.put, List.setIfInBounds_toArray, List.set_cons_zero, List.set_cons_succ])
                  refine wpAnyH_take (i := 9) (oi := { dst := some 133, op := Op.load 26 (Operand.tmp 6), type := 26, pos := "laws.go:351", after := #[], guard := none }) (v := ?v22rx9) rfl (by kernel_rfl) (by kernel_rfl) (by kernel_rfl) (fun _ _ _ h => h) (Or.inl ⟨by rfl, ?hy22rx9⟩) (by with_reducible assumption) ?rest22rx9
                  case hy22rx9 => (intro w hSw; (try dsimp only at hSw); have z0 := cell_later hSw g0; have z1 := cell_later hSw g1; have z2 := cell_later hSw g2; have z3 := cell_later hSw g3; have z4 := cell_later hSw g4; have z5 := cell_later hSw g5; have z6 := cell_later hSw k0; have z7 := cell_later hSw k1; clear hSw; go_simp; try with_reducible rfl)
                  case' rest22rx9 => (try simp only [Act.put, List.setIfInBounds_toArray, List.set_cons_zero, List.set_cons_succ])
                  refine wpAnyH_ready (rs := [10]) (by kernel_rfl) (by simp) ?_
                  refine AllReadyH.cons (o := { dst := some 134, op := Op.call { callee := Callee.value (Operand.func 15), args := #[Operand.tmp 126, Operand.tmp 129, Operand.tmp 132, Operand.tmp 133], argTypes := #[26, 26, 26, 26] }, type := 29, pos := "laws.go:351", after := #[{ on := 2, ground := Ground.data }, { on := 5, ground := Ground.data }, { on := 8, ground := Ground.data }, { on := 9, ground := Ground.data }], guard := none }) rfl (fun K hK => ?_) AllReadyH.nil
                  go_simp
                  refine (triImpl_c X0 Y0 X1 Y1 X2 Y2 qx qy _ (cell_later (grew HCR.out (by with_reducible assumption)) C0.out)).mono ?_
                  rintro e w9 ⟨rfl, hb9⟩
                  go_wp2_with fail
                  refine hK.out _ _ ?_ (fun hHeld => ?_)
                  · exact grew (by with_reducible assumption) hb9
                  clear hK K
                  try simp only [Act.put, List.setIfInBounds_toArray, List.set_cons_zero, List.set_cons_succ]
                  refine wpAnyH_take (i := 11) (oi := { dst := some 123, op := Op.move (Operand.tmp 134), type := 29, pos := "laws.go:351", after := #[{ on := 10, ground := Ground.data }], guard := none }) (v := ?v22rx11) rfl (by kernel_rfl) (by kernel_rfl) (by kernel_rfl) (fun _ _ _ h => h) (Or.inl ⟨by rfl, ?hy22rx11⟩) (by with_reducible assumption) ?rest22rx11
                  case hy22rx11 => (intro w hSw; (try dsimp only at hSw); have z0 := cell_later hSw g0; have z1 := cell_later hSw g1; have z2 := cell_later hSw g2; have z3 := cell_later hSw g3; have z4 := cell_later hSw g4; have z5 := cell_later hSw g5; have z6 := cell_later hSw k0; have z7 := cell_later hSw k1; clear hSw; go_simp; try with_reducible rfl)
                  case' rest22rx11 => (try simp only [Act.put, List.setIfInBounds_toArray, List.set_cons_zero, List.set_cons_succ])
                  refine wpAnyH_take (i := 12) (oi := { dst := some 135, op := Op.extract (Operand.tmp 123) 0, type := 3, pos := "laws.go:351", after := #[{ on := 11, ground := Ground.data }], guard := none }) (v := ?v22rx12) rfl (by kernel_rfl) (by kernel_rfl) (by kernel_rfl) (fun _ _ _ h => h) (Or.inl ⟨by rfl, ?hy22rx12⟩) (by with_reducible assumption) ?rest22rx12
                  case hy22rx12 => (intro w hSw; (try dsimp only at hSw); have z0 := cell_later hSw g0; have z1 := cell_later hSw g1; have z2 := cell_later hSw g2; have z3 := cell_later hSw g3; have z4 := cell_later hSw g4; have z5 := cell_later hSw g5; have z6 := cell_later hSw k0; have z7 := cell_later hSw k1; clear hSw; go_simp; try with_reducible rfl)
                  case' rest22rx12 => (try simp only [Act.put, List.setIfInBounds_toArray, List.set_cons_zero, List.set_cons_succ])
                  refine wpAnyH_take (i := 13) (oi := { dst := some 136, op := Op.extract (Operand.tmp 123) 1, type := 4, pos := "laws.go:351", after := #[{ on := 11, ground := Ground.data }, { on := 14, ground := Ground.gcOnly Departure.lateStores }], guard := none }) (v := ?v22rx13) rfl (by kernel_rfl) (by kernel_rfl) (by kernel_rfl) (fun _ _ _ h => h) (Or.inl ⟨by rfl, ?hy22rx13⟩) (by with_reducible assumption) ?rest22rx13
                  case hy22rx13 => (intro w hSw; (try dsimp only at hSw); have z0 := cell_later hSw g0; have z1 := cell_later hSw g1; have z2 := cell_later hSw g2; have z3 := cell_later hSw g3; have z4 := cell_later hSw g4; have z5 := cell_later hSw g5; have z6 := cell_later hSw k0; have z7 := cell_later hSw k1; clear hSw; go_simp; try with_reducible rfl)
                  case' rest22rx13 => (try simp only [Act.put, List.setIfInBounds_toArray, List.set_cons_zero, List.set_cons_succ])
                  refine wpAnyH_take (i := 14) (oi := { dst := some 20, op := Op.assign (Operand.tmp 135), type := 3, pos := "laws.go:351", after := #[{ on := 12, ground := Ground.data }, { on := 10, ground := Ground.chain }, { on := 0, ground := Ground.phase }, { on := 1, ground := Ground.phase }, { on := 2, ground := Ground.phase }, { on := 3, ground := Ground.phase }, { on := 4, ground := Ground.phase }, { on := 5, ground := Ground.phase }, { on := 6, ground := Ground.phase }, { on := 7, ground := Ground.phase }, { on := 8, ground := Ground.phase }, { on := 9, ground := Ground.phase }, { on := 10, ground := Ground.phase }, { on := 11, ground := Ground.phase }, { on := 12, ground := Ground.phase }, { on := 13, ground := Ground.textOnly Departure.lateStores }], guard := none }) (v := ?v22rx14) rfl (by kernel_rfl) (by kernel_rfl) (by kernel_rfl) (fun _ _ _ h => h) (Or.inl ⟨by rfl, ?hy22rx14⟩) (by with_reducible assumption) ?rest22rx14
                  case hy22rx14 => (intro w hSw; (try dsimp only at hSw); have z0 := cell_later hSw g0; have z1 := cell_later hSw g1; have z2 := cell_later hSw g2; have z3 := cell_later hSw g3; have z4 := cell_later hSw g4; have z5 := cell_later hSw g5; have z6 := cell_later hSw k0; have z7 := cell_later hSw k1; clear hSw; go_simp; try with_reducible rfl)
                  case' rest22rx14 => (try simp only [Act.put, List.setIfInBounds_toArray, List.set_cons_zero, List.set_cons_succ])
                  refine wpAnyH_take (i := 15) (oi := { dst := some 21, op := Op.assign (Operand.tmp 136), type := 4, pos := "laws.go:351", after := #[{ on := 13, ground := Ground.data }, { on := 14, ground := Ground.chain }, { on := 0, ground := Ground.phase }, { on := 1, ground := Ground.phase }, { on := 2, ground := Ground.phase }, { on := 3, ground := Ground.phase }, { on := 4, ground := Ground.phase }, { on := 5, ground := Ground.phase }, { on := 6, ground := Ground.phase }, { on := 7, ground := Ground.phase }, { on := 8, ground := Ground.phase }, { on := 9, ground := Ground.phase }, { on := 10, ground := Ground.phase }, { on := 11, ground := Ground.phase }, { on := 12, ground := Ground.phase }, { on := 13, ground := Ground.phase }, { on := 14, ground := Ground.phase }], guard := none }) (v := ?v22rx15) rfl (by kernel_rfl) (by kernel_rfl) (by kernel_rfl) (fun _ _ _ h => h) (Or.inl ⟨by rfl, ?hy22rx15⟩) (by with_reducible assumption) ?rest22rx15
                  case hy22rx15 => (intro w hSw; (try dsimp only at hSw); have z0 := cell_later hSw g0; have z1 := cell_later hSw g1; have z2 := cell_later hSw g2; have z3 := cell_later hSw g3; have z4 := cell_later hSw g4; have z5 := cell_later hSw g5; have z6 := cell_later hSw k0; have z7 := cell_later hSw k1; clear hSw; go_simp; try with_reducible rfl)
                  case' rest22rx15 => (try simp only [Act.put, List.setIfInBounds_toArray, List.set_cons_zero, List.set_cons_succ])
                  refine wpAnyH_done (by kernel_rfl) ?_ _
                  rw [HTV.out, HTO.out]
                  have HS9 := hid hHeld
                  clear hHeld g0 g1 g2 g3 g4 g5 k0 k1
                  go_wp2
                  go_roundw
                  case rel => exact ⟨i + 1, by omega, by rw [anyF_succ, hAF, HFI.out]; first | rfl | (rw [bne_iff_ne.2 hn0]; rfl), by go_num, grew HBR.out HS9.out⟩
                  case measure => simp [intOf]; omega
              · have HFI := hid (show triF h qx qy i = true by rw [hfi, decide_eq_false hn0]; rfl)
                clear hfi
                cases hAF : anyF (triF h qx qy) i
                · go_upto_region 18 with fail
                  refine wp_region_held_drew (S := (fun u => Below wr.heap.size wr u)) (by kernel_rfl) ?_ (fun hHeld => ?_)
                  · exact (Below.refl _ _).drew
                  refine wpAnyH_take (i := 0) (oi := { dst := some 124, op := Op.move (Operand.tmp 19), type := 35, pos := "laws.go:351", after := #[], guard := none }) (v := ?v23rx0) rfl (by kernel_rfl) (by kernel_rfl) (by kernel_rfl) (fun _ _ _ h => h) (Or.inl ⟨by rfl, ?hy23rx0⟩) (by with_reducible assumption) ?rest23rx0
                  case hy23rx0 => (intro w hSw; (try dsimp only at hSw); have z0 := cell_later hSw g0; have z1 := cell_later hSw g1; have z2 := cell_later hSw g2; have z3 := cell_later hSw g3; have z4 := cell_later hSw g4; have z5 := cell_later hSw g5; have z6 := cell_later hSw k0; have z7 := cell_later hSw k1; clear hSw; go_simp; try with_reducible rfl)
                  case' rest23rx0 => (try simp only [Act.put, List.setIfInBounds_toArray, List.set_cons_zero, List.set_cons_succ])
                  refine wpAnyH_take (i := 1) (oi := { dst := some 125, op := Op.indexAddr 35 (Operand.tmp 124) (Operand.const (Value.int IntKind.i64 0)), type := 0, pos := "laws.go:351", after := #[{ on := 0, ground := Ground.data }], guard := none }) (v := ?v23rx1) rfl (by kernel_rfl) (by kernel_rfl) (by kernel_rfl) (fun _ _ _ h => h) (Or.inl ⟨by rfl, ?hy23rx1⟩) (by with_reducible assumption) ?rest23rx1
                  case hy23rx1 => (intro w hSw; (try dsimp only at hSw); have z0 := cell_later hSw g0; have z1 := cell_later hSw g1; have z2 := cell_later hSw g2; have z3 := cell_later hSw g3; have z4 := cell_later hSw g4; have z5 := cell_later hSw g5; have z6 := cell_later hSw k0; have z7 := cell_later hSw k1; clear hSw; go_simp; try with_reducible rfl)
                  case' rest23rx1 => (try simp only [Act.put, List.setIfInBounds_toArray, List.set_cons_zero, List.set_cons_succ])
                  refine wpAnyH_take (i := 2) (oi := { dst := some 126, op := Op.load 26 (Operand.tmp 125), type := 26, pos := "laws.go:351", after := #[{ on := 1, ground := Ground.data }], guard := none }) (v := ?v23rx2) rfl (by kernel_rfl) (by kernel_rfl) (by kernel_rfl) (fun _ _ _ h => h) (Or.inl ⟨by rfl, ?hy23rx2⟩) (by with_reducible assumption) ?rest23rx2
                  case hy23rx2 => (intro w hSw; (try dsimp only at hSw); have z0 := cell_later hSw g0; have z1 := cell_later hSw g1; have z2 := cell_later hSw g2; have z3 := cell_later hSw g3; have z4 := cell_later hSw g4; have z5 := cell_later hSw g5; have z6 := cell_later hSw k0; have z7 := cell_later hSw k1; clear hSw; go_simp; try with_reducible rfl)
                  case' rest23rx2 => (try simp only [Act.put, List.setIfInBounds_toArray, List.set_cons_zero, List.set_cons_succ])
                  refine wpAnyH_take (i := 3) (oi := { dst := some 127, op := Op.move (Operand.tmp 19), type := 35, pos := "laws.go:351", after := #[], guard := none }) (v := ?v23rx3) rfl (by kernel_rfl) (by kernel_rfl) (by kernel_rfl) (fun _ _ _ h => h) (Or.inl ⟨by rfl, ?hy23rx3⟩) (by with_reducible assumption) ?rest23rx3
                  case hy23rx3 => (intro w hSw; (try dsimp only at hSw); have z0 := cell_later hSw g0; have z1 := cell_later hSw g1; have z2 := cell_later hSw g2; have z3 := cell_later hSw g3; have z4 := cell_later hSw g4; have z5 := cell_later hSw g5; have z6 := cell_later hSw k0; have z7 := cell_later hSw k1; clear hSw; go_simp; try with_reducible rfl)
                  case' rest23rx3 => (try simp only [Act.put, List.setIfInBounds_toArray, List.set_cons_zero, List.set_cons_succ])
                  refine wpAnyH_take (i := 4) (oi := { dst := some 128, op := Op.indexAddr 35 (Operand.tmp 127) (Operand.const (Value.int IntKind.i64 1)), type := 0, pos := "laws.go:351", after := #[{ on := 3, ground := Ground.data }], guard := none }) (v := ?v23rx4) rfl (by kernel_rfl) (by kernel_rfl) (by kernel_rfl) (fun _ _ _ h => h) (Or.inl ⟨by rfl, ?hy23rx4⟩) (by with_reducible assumption) ?rest23rx4
                  case hy23rx4 => (intro w hSw; (try dsimp only at hSw); have z0 := cell_later hSw g0; have z1 := cell_later hSw g1; have z2 := cell_later hSw g2; have z3 := cell_later hSw g3; have z4 := cell_later hSw g4; have z5 := cell_later hSw g5; have z6 := cell_later hSw k0; have z7 := cell_later hSw k1; clear hSw; go_simp; try with_reducible rfl)
                  case' rest23rx4 => (try simp only [Act.put, List.setIfInBounds_toArray, List.set_cons_zero, List.set_cons_succ])
                  refine wpAnyH_take (i := 5) (oi := { dst := some 129, op := Op.load 26 (Operand.tmp 128), type := 26, pos := "laws.go:351", after := #[{ on := 4, ground := Ground.data }], guard := none }) (v := ?v23rx5) rfl (by kernel_rfl) (by kernel_rfl) (by kernel_rfl) (fun _ _ _ h => h) (Or.inl ⟨by rfl, ?hy23rx5⟩) (by with_reducible assumption) ?rest23rx5
                  case hy23rx5 => (intro w hSw; (try dsimp only at hSw); have z0 := cell_later hSw g0; have z1 := cell_later hSw g1; have z2 := cell_later hSw g2; have z3 := cell_later hSw g3; have z4 := cell_later hSw g4; have z5 := cell_later hSw g5; have z6 := cell_later hSw k0; have z7 := cell_later hSw k1; clear hSw; go_simp; try with_reducible rfl)
                  case' rest23rx5 => (try simp only [Act.put, List.setIfInBounds_toArray, List.set_cons_zero, List.set_cons_succ])
                  refine wpAnyH_take (i := 6) (oi := { dst := some 130, op := Op.move (Operand.tmp 19), type := 35, pos := "laws.go:351", after := #[], guard := none }) (v := ?v23rx6) rfl (by kernel_rfl) (by kernel_rfl) (by kernel_rfl) (fun _ _ _ h => h) (Or.inl ⟨by rfl, ?hy23rx6⟩) (by with_reducible assumption) ?rest23rx6
                  case hy23rx6 => (intro w hSw; (try dsimp only at hSw); have z0 := cell_later hSw g0; have z1 := cell_later hSw g1; have z2 := cell_later hSw g2; have z3 := cell_later hSw g3; have z4 := cell_later hSw g4; have z5 := cell_later hSw g5; have z6 := cell_later hSw k0; have z7 := cell_later hSw k1; clear hSw; go_simp; try with_reducible rfl)
                  case' rest23rx6 => (try simp only [Act.put, List.setIfInBounds_toArray, List.set_cons_zero, List.set_cons_succ])
                  refine wpAnyH_take (i := 7) (oi := { dst := some 131, op := Op.indexAddr 35 (Operand.tmp 130) (Operand.const (Value.int IntKind.i64 2)), type := 0, pos := "laws.go:351", after := #[{ on := 6, ground := Ground.data }], guard := none }) (v := ?v23rx7) rfl (by kernel_rfl) (by kernel_rfl) (by kernel_rfl) (fun _ _ _ h => h) (Or.inl ⟨by rfl, ?hy23rx7⟩) (by with_reducible assumption) ?rest23rx7
                  case hy23rx7 => (intro w hSw; (try dsimp only at hSw); have z0 := cell_later hSw g0; have z1 := cell_later hSw g1; have z2 := cell_later hSw g2; have z3 := cell_later hSw g3; have z4 := cell_later hSw g4; have z5 := cell_later hSw g5; have z6 := cell_later hSw k0; have z7 := cell_later hSw k1; clear hSw; go_simp; try with_reducible rfl)
                  case' rest23rx7 => (try simp only [Act.put, List.setIfInBounds_toArray, List.set_cons_zero, List.set_cons_succ])
                  refine wpAnyH_take (i := 8) (oi := { dst := some 132, op := Op.load 26 (Operand.tmp 131), type := 26, pos := "laws.go:351", after := #[{ on := 7, ground := Ground.data }], guard := none }) (v := ?v23rx8) rfl (by kernel_rfl) (by kernel_rfl) (by kernel_rfl) (fun _ _ _ h => h) (Or.inl ⟨by rfl, ?hy23rx8⟩) (by with_reducible assumption) ?rest23rx8
                  case hy23rx8 => (intro w hSw; (try dsimp only at hSw); have z0 := cell_later hSw g0; have z1 := cell_later hSw g1; have z2 := cell_later hSw g2; have z3 := cell_later hSw g3; have z4 := cell_later hSw g4; have z5 := cell_later hSw g5; have z6 := cell_later hSw k0; have z7 := cell_later hSw k1; clear hSw; go_simp; try with_reducible rfl)
                  case' rest23rx8 => (try simp only [Act.put, List.setIfInBounds_toArray, List.set_cons_zero, List.set_cons_succ])
                  refine wpAnyH_take (i := 9) (oi := { dst := some 133, op := Op.load 26 (Operand.tmp 6), type := 26, pos := "laws.go:351", after := #[], guard := none }) (v := ?v23rx9) rfl (by kernel_rfl) (by kernel_rfl) (by kernel_rfl) (fun _ _ _ h => h) (Or.inl ⟨by rfl, ?hy23rx9⟩) (by with_reducible assumption) ?rest23rx9
                  case hy23rx9 => (intro w hSw; (try dsimp only at hSw); have z0 := cell_later hSw g0; have z1 := cell_later hSw g1; have z2 := cell_later hSw g2; have z3 := cell_later hSw g3; have z4 := cell_later hSw g4; have z5 := cell_later hSw g5; have z6 := cell_later hSw k0; have z7 := cell_later hSw k1; clear hSw; go_simp; try with_reducible rfl)
                  case' rest23rx9 => (try simp only [Act.put, List.setIfInBounds_toArray, List.set_cons_zero, List.set_cons_succ])
                  refine wpAnyH_ready (rs := [10]) (by kernel_rfl) (by simp) ?_
                  refine AllReadyH.cons (o := { dst := some 134, op := Op.call { callee := Callee.value (Operand.func 15), args := #[Operand.tmp 126, Operand.tmp 129, Operand.tmp 132, Operand.tmp 133], argTypes := #[26, 26, 26, 26] }, type := 29, pos := "laws.go:351", after := #[{ on := 2, ground := Ground.data }, { on := 5, ground := Ground.data }, { on := 8, ground := Ground.data }, { on := 9, ground := Ground.data }], guard := none }) rfl (fun K hK => ?_) AllReadyH.nil
                  go_simp
                  refine (triImpl_c X0 Y0 X1 Y1 X2 Y2 qx qy _ (cell_later (grew HCR.out (by with_reducible assumption)) C0.out)).mono ?_
                  rintro e w9 ⟨rfl, hb9⟩
                  go_wp2_with fail
                  refine hK.out _ _ ?_ (fun hHeld => ?_)
                  · exact grew (by with_reducible assumption) hb9
                  clear hK K
                  try simp only [Act.put, List.setIfInBounds_toArray, List.set_cons_zero, List.set_cons_succ]
                  refine wpAnyH_take (i := 11) (oi := { dst := some 123, op := Op.move (Operand.tmp 134), type := 29, pos := "laws.go:351", after := #[{ on := 10, ground := Ground.data }], guard := none }) (v := ?v23rx11) rfl (by kernel_rfl) (by kernel_rfl) (by kernel_rfl) (fun _ _ _ h => h) (Or.inl ⟨by rfl, ?hy23rx11⟩) (by with_reducible assumption) ?rest23rx11
                  case hy23rx11 => (intro w hSw; (try dsimp only at hSw); have z0 := cell_later hSw g0; have z1 := cell_later hSw g1; have z2 := cell_later hSw g2; have z3 := cell_later hSw g3; have z4 := cell_later hSw g4; have z5 := cell_later hSw g5; have z6 := cell_later hSw k0; have z7 := cell_later hSw k1; clear hSw; go_simp; try with_reducible rfl)
                  case' rest23rx11 => (try simp only [Act.put, List.setIfInBounds_toArray, List.set_cons_zero, List.set_cons_succ])
                  refine wpAnyH_take (i := 12) (oi := { dst := some 135, op := Op.extract (Operand.tmp 123) 0, type := 3, pos := "laws.go:351", after := #[{ on := 11, ground := Ground.data }], guard := none }) (v := ?v23rx12) rfl (by kernel_rfl) (by kernel_rfl) (by kernel_rfl) (fun _ _ _ h => h) (Or.inl ⟨by rfl, ?hy23rx12⟩) (by with_reducible assumption) ?rest23rx12
                  case hy23rx12 => (intro w hSw; (try dsimp only at hSw); have z0 := cell_later hSw g0; have z1 := cell_later hSw g1; have z2 := cell_later hSw g2; have z3 := cell_later hSw g3; have z4 := cell_later hSw g4; have z5 := cell_later hSw g5; have z6 := cell_later hSw k0; have z7 := cell_later hSw k1; clear hSw; go_simp; try with_reducible rfl)
                  case' rest23rx12 => (try simp only [Act.put, List.setIfInBounds_toArray, List.set_cons_zero, List.set_cons_succ])
                  refine wpAnyH_take (i := 13) (oi := { dst := some 136, op := Op.extract (Operand.tmp 123) 1, type := 4, pos := "laws.go:351", after := #[{ on := 11, ground := Ground.data }, { on := 14, ground := Ground.gcOnly Departure.lateStores }], guard := none }) (v := ?v23rx13) rfl (by kernel_rfl) (by kernel_rfl) (by kernel_rfl) (fun _ _ _ h => h) (Or.inl ⟨by rfl, ?hy23rx13⟩) (by with_reducible assumption) ?rest23rx13
                  case hy23rx13 => (intro w hSw; (try dsimp only at hSw); have z0 := cell_later hSw g0; have z1 := cell_later hSw g1; have z2 := cell_later hSw g2; have z3 := cell_later hSw g3; have z4 := cell_later hSw g4; have z5 := cell_later hSw g5; have z6 := cell_later hSw k0; have z7 := cell_later hSw k1; clear hSw; go_simp; try with_reducible rfl)
                  case' rest23rx13 => (try simp only [Act.put, List.setIfInBounds_toArray, List.set_cons_zero, List.set_cons_succ])
                  refine wpAnyH_take (i := 14) (oi := { dst := some 20, op := Op.assign (Operand.tmp 135), type := 3, pos := "laws.go:351", after := #[{ on := 12, ground := Ground.data }, { on := 10, ground := Ground.chain }, { on := 0, ground := Ground.phase }, { on := 1, ground := Ground.phase }, { on := 2, ground := Ground.phase }, { on := 3, ground := Ground.phase }, { on := 4, ground := Ground.phase }, { on := 5, ground := Ground.phase }, { on := 6, ground := Ground.phase }, { on := 7, ground := Ground.phase }, { on := 8, ground := Ground.phase }, { on := 9, ground := Ground.phase }, { on := 10, ground := Ground.phase }, { on := 11, ground := Ground.phase }, { on := 12, ground := Ground.phase }, { on := 13, ground := Ground.textOnly Departure.lateStores }], guard := none }) (v := ?v23rx14) rfl (by kernel_rfl) (by kernel_rfl) (by kernel_rfl) (fun _ _ _ h => h) (Or.inl ⟨by rfl, ?hy23rx14⟩) (by with_reducible assumption) ?rest23rx14
                  case hy23rx14 => (intro w hSw; (try dsimp only at hSw); have z0 := cell_later hSw g0; have z1 := cell_later hSw g1; have z2 := cell_later hSw g2; have z3 := cell_later hSw g3; have z4 := cell_later hSw g4; have z5 := cell_later hSw g5; have z6 := cell_later hSw k0; have z7 := cell_later hSw k1; clear hSw; go_simp; try with_reducible rfl)
                  case' rest23rx14 => (try simp only [Act.put, List.setIfInBounds_toArray, List.set_cons_zero, List.set_cons_succ])
                  refine wpAnyH_take (i := 15) (oi := { dst := some 21, op := Op.assign (Operand.tmp 136), type := 4, pos := "laws.go:351", after := #[{ on := 13, ground := Ground.data }, { on := 14, ground := Ground.chain }, { on := 0, ground := Ground.phase }, { on := 1, ground := Ground.phase }, { on := 2, ground := Ground.phase }, { on := 3, ground := Ground.phase }, { on := 4, ground := Ground.phase }, { on := 5, ground := Ground.phase }, { on := 6, ground := Ground.phase }, { on := 7, ground := Ground.phase }, { on := 8, ground := Ground.phase }, { on := 9, ground := Ground.phase }, { on := 10, ground := Ground.phase }, { on := 11, ground := Ground.phase }, { on := 12, ground := Ground.phase }, { on := 13, ground := Ground.phase }, { on := 14, ground := Ground.phase }], guard := none }) (v := ?v23rx15) rfl (by kernel_rfl) (by kernel_rfl) (by kernel_rfl) (fun _ _ _ h => h) (Or.inl ⟨by rfl, ?hy23rx15⟩) (by with_reducible assumption) ?rest23rx15
                  case hy23rx15 => (intro w hSw; (try dsimp only at hSw); have z0 := cell_later hSw g0; have z1 := cell_later hSw g1; have z2 := cell_later hSw g2; have z3 := cell_later hSw g3; have z4 := cell_later hSw g4; have z5 := cell_later hSw g5; have z6 := cell_later hSw k0; have z7 := cell_later hSw k1; clear hSw; go_simp; try with_reducible rfl)
                  case' rest23rx15 => (try simp only [Act.put, List.setIfInBounds_toArray, List.set_cons_zero, List.set_cons_succ])
                  refine wpAnyH_done (by kernel_rfl) ?_ _
                  rw [HTV.out, HTO.out]
                  have HS9 := hid hHeld
                  clear hHeld g0 g1 g2 g3 g4 g5 k0 k1
                  go_wp2
                  go_roundw
                  case rel => exact ⟨i + 1, by omega, by rw [anyF_succ, hAF, HFI.out]; first | rfl | (rw [bne_iff_ne.2 hn0]; rfl), by go_num, grew HBR.out HS9.out⟩
                  case measure => simp [intOf]; omega
                · go_upto_region 18 with fail
                  refine wp_region_held_drew (S := (fun u => Below wr.heap.size wr u)) (by kernel_rfl) ?_ (fun hHeld => ?_)
                  · exact (Below.refl _ _).drew
                  refine wpAnyH_take (i := 0) (oi := { dst := some 124, op := Op.move (Operand.tmp 19), type := 35, pos := "laws.go:351", after := #[], guard := none }) (v := ?v24rx0) rfl (by kernel_rfl) (by kernel_rfl) (by kernel_rfl) (fun _ _ _ h => h) (Or.inl ⟨by rfl, ?hy24rx0⟩) (by with_reducible assumption) ?rest24rx0
                  case hy24rx0 => (intro w hSw; (try dsimp only at hSw); have z0 := cell_later hSw g0; have z1 := cell_later hSw g1; have z2 := cell_later hSw g2; have z3 := cell_later hSw g3; have z4 := cell_later hSw g4; have z5 := cell_later hSw g5; have z6 := cell_later hSw k0; have z7 := cell_later hSw k1; clear hSw; go_simp; try with_reducible rfl)
                  case' rest24rx0 => (try simp only [Act.put, List.setIfInBounds_toArray, List.set_cons_zero, List.set_cons_succ])
                  refine wpAnyH_take (i := 1) (oi := { dst := some 125, op := Op.indexAddr 35 (Operand.tmp 124) (Operand.const (Value.int IntKind.i64 0)), type := 0, pos := "laws.go:351", after := #[{ on := 0, ground := Ground.data }], guard := none }) (v := ?v24rx1) rfl (by kernel_rfl) (by kernel_rfl) (by kernel_rfl) (fun _ _ _ h => h) (Or.inl ⟨by rfl, ?hy24rx1⟩) (by with_reducible assumption) ?rest24rx1
                  case hy24rx1 => (intro w hSw; (try dsimp only at hSw); have z0 := cell_later hSw g0; have z1 := cell_later hSw g1; have z2 := cell_later hSw g2; have z3 := cell_later hSw g3; have z4 := cell_later hSw g4; have z5 := cell_later hSw g5; have z6 := cell_later hSw k0; have z7 := cell_later hSw k1; clear hSw; go_simp; try with_reducible rfl)
                  case' rest24rx1 => (try simp only [Act.put, List.setIfInBounds_toArray, List.set_cons_zero, List.set_cons_succ])
                  refine wpAnyH_take (i := 2) (oi := { dst := some 126, op := Op.load 26 (Operand.tmp 125), type := 26, pos := "laws.go:351", after := #[{ on := 1, ground := Ground.data }], guard := none }) (v := ?v24rx2) rfl (by kernel_rfl) (by kernel_rfl) (by kernel_rfl) (fun _ _ _ h => h) (Or.inl ⟨by rfl, ?hy24rx2⟩) (by with_reducible assumption) ?rest24rx2
                  case hy24rx2 => (intro w hSw; (try dsimp only at hSw); have z0 := cell_later hSw g0; have z1 := cell_later hSw g1; have z2 := cell_later hSw g2; have z3 := cell_later hSw g3; have z4 := cell_later hSw g4; have z5 := cell_later hSw g5; have z6 := cell_later hSw k0; have z7 := cell_later hSw k1; clear hSw; go_simp; try with_reducible rfl)
                  case' rest24rx2 => (try simp only [Act.put, List.setIfInBounds_toArray, List.set_cons_zero, List.set_cons_succ])
                  refine wpAnyH_take (i := 3) (oi := { dst := some 127, op := Op.move (Operand.tmp 19), type := 35, pos := "laws.go:351", after := #[], guard := none }) (v := ?v24rx3) rfl (by kernel_rfl) (by kernel_rfl) (by kernel_rfl) (fun _ _ _ h => h) (Or.inl ⟨by rfl, ?hy24rx3⟩) (by with_reducible assumption) ?rest24rx3
                  case hy24rx3 => (intro w hSw; (try dsimp only at hSw); have z0 := cell_later hSw g0; have z1 := cell_later hSw g1; have z2 := cell_later hSw g2; have z3 := cell_later hSw g3; have z4 := cell_later hSw g4; have z5 := cell_later hSw g5; have z6 := cell_later hSw k0; have z7 := cell_later hSw k1; clear hSw; go_simp; try with_reducible rfl)
                  case' rest24rx3 => (try simp only [Act.put, List.setIfInBounds_toArray, List.set_cons_zero, List.set_cons_succ])
                  refine wpAnyH_take (i := 4) (oi := { dst := some 128, op := Op.indexAddr 35 (Operand.tmp 127) (Operand.const (Value.int IntKind.i64 1)), type := 0, pos := "laws.go:351", after := #[{ on := 3, ground := Ground.data }], guard := none }) (v := ?v24rx4) rfl (by kernel_rfl) (by kernel_rfl) (by kernel_rfl) (fun _ _ _ h => h) (Or.inl ⟨by rfl, ?hy24rx4⟩) (by with_reducible assumption) ?rest24rx4
                  case hy24rx4 => (intro w hSw; (try dsimp only at hSw); have z0 := cell_later hSw g0; have z1 := cell_later hSw g1; have z2 := cell_later hSw g2; have z3 := cell_later hSw g3; have z4 := cell_later hSw g4; have z5 := cell_later hSw g5; have z6 := cell_later hSw k0; have z7 := cell_later hSw k1; clear hSw; go_simp; try with_reducible rfl)
                  case' rest24rx4 => (try simp only [Act.put, List.setIfInBounds_toArray, List.set_cons_zero, List.set_cons_succ])
                  refine wpAnyH_take (i := 5) (oi := { dst := some 129, op := Op.load 26 (Operand.tmp 128), type := 26, pos := "laws.go:351", after := #[{ on := 4, ground := Ground.data }], guard := none }) (v := ?v24rx5) rfl (by kernel_rfl) (by kernel_rfl) (by kernel_rfl) (fun _ _ _ h => h) (Or.inl ⟨by rfl, ?hy24rx5⟩) (by with_reducible assumption) ?rest24rx5
                  case hy24rx5 => (intro w hSw; (try dsimp only at hSw); have z0 := cell_later hSw g0; have z1 := cell_later hSw g1; have z2 := cell_later hSw g2; have z3 := cell_later hSw g3; have z4 := cell_later hSw g4; have z5 := cell_later hSw g5; have z6 := cell_later hSw k0; have z7 := cell_later hSw k1; clear hSw; go_simp; try with_reducible rfl)
                  case' rest24rx5 => (try simp only [Act.put, List.setIfInBounds_toArray, List.set_cons_zero, List.set_cons_succ])
                  refine wpAnyH_take (i := 6) (oi := { dst := some 130, op := Op.move (Operand.tmp 19), type := 35, pos := "laws.go:351", after := #[], guard := none }) (v := ?v24rx6) rfl (by kernel_rfl) (by kernel_rfl) (by kernel_rfl) (fun _ _ _ h => h) (Or.inl ⟨by rfl, ?hy24rx6⟩) (by with_reducible assumption) ?rest24rx6
                  case hy24rx6 => (intro w hSw; (try dsimp only at hSw); have z0 := cell_later hSw g0; have z1 := cell_later hSw g1; have z2 := cell_later hSw g2; have z3 := cell_later hSw g3; have z4 := cell_later hSw g4; have z5 := cell_later hSw g5; have z6 := cell_later hSw k0; have z7 := cell_later hSw k1; clear hSw; go_simp; try with_reducible rfl)
                  case' rest24rx6 => (try simp only [Act.put, List.setIfInBounds_toArray, List.set_cons_zero, List.set_cons_succ])
                  refine wpAnyH_take (i := 7) (oi := { dst := some 131, op := Op.indexAddr 35 (Operand.tmp 130) (Operand.const (Value.int IntKind.i64 2)), type := 0, pos := "laws.go:351", after := #[{ on := 6, ground := Ground.data }], guard := none }) (v := ?v24rx7) rfl (by kernel_rfl) (by kernel_rfl) (by kernel_rfl) (fun _ _ _ h => h) (Or.inl ⟨by rfl, ?hy24rx7⟩) (by with_reducible assumption) ?rest24rx7
                  case hy24rx7 => (intro w hSw; (try dsimp only at hSw); have z0 := cell_later hSw g0; have z1 := cell_later hSw g1; have z2 := cell_later hSw g2; have z3 := cell_later hSw g3; have z4 := cell_later hSw g4; have z5 := cell_later hSw g5; have z6 := cell_later hSw k0; have z7 := cell_later hSw k1; clear hSw; go_simp; try with_reducible rfl)
                  case' rest24rx7 => (try simp only [Act.put, List.setIfInBounds_toArray, List.set_cons_zero, List.set_cons_succ])
                  refine wpAnyH_take (i := 8) (oi := { dst := some 132, op := Op.load 26 (Operand.tmp 131), type := 26, pos := "laws.go:351", after := #[{ on := 7, ground := Ground.data }], guard := none }) (v := ?v24rx8) rfl (by kernel_rfl) (by kernel_rfl) (by kernel_rfl) (fun _ _ _ h => h) (Or.inl ⟨by rfl, ?hy24rx8⟩) (by with_reducible assumption) ?rest24rx8
                  case hy24rx8 => (intro w hSw; (try dsimp only at hSw); have z0 := cell_later hSw g0; have z1 := cell_later hSw g1; have z2 := cell_later hSw g2; have z3 := cell_later hSw g3; have z4 := cell_later hSw g4; have z5 := cell_later hSw g5; have z6 := cell_later hSw k0; have z7 := cell_later hSw k1; clear hSw; go_simp; try with_reducible rfl)
                  case' rest24rx8 => (try simp only [Act.put, List.setIfInBounds_toArray, List.set_cons_zero, List.set_cons_succ])
                  refine wpAnyH_take (i := 9) (oi := { dst := some 133, op := Op.load 26 (Operand.tmp 6), type := 26, pos := "laws.go:351", after := #[], guard := none }) (v := ?v24rx9) rfl (by kernel_rfl) (by kernel_rfl) (by kernel_rfl) (fun _ _ _ h => h) (Or.inl ⟨by rfl, ?hy24rx9⟩) (by with_reducible assumption) ?rest24rx9
                  case hy24rx9 => (intro w hSw; (try dsimp only at hSw); have z0 := cell_later hSw g0; have z1 := cell_later hSw g1; have z2 := cell_later hSw g2; have z3 := cell_later hSw g3; have z4 := cell_later hSw g4; have z5 := cell_later hSw g5; have z6 := cell_later hSw k0; have z7 := cell_later hSw k1; clear hSw; go_simp; try with_reducible rfl)
                  case' rest24rx9 => (try simp only [Act.put, List.setIfInBounds_toArray, List.set_cons_zero, List.set_cons_succ])
                  refine wpAnyH_ready (rs := [10]) (by kernel_rfl) (by simp) ?_
                  refine AllReadyH.cons (o := { dst := some 134, op := Op.call { callee := Callee.value (Operand.func 15), args := #[Operand.tmp 126, Operand.tmp 129, Operand.tmp 132, Operand.tmp 133], argTypes := #[26, 26, 26, 26] }, type := 29, pos := "laws.go:351", after := #[{ on := 2, ground := Ground.data }, { on := 5, ground := Ground.data }, { on := 8, ground := Ground.data }, { on := 9, ground := Ground.data }], guard := none }) rfl (fun K hK => ?_) AllReadyH.nil
                  go_simp
                  refine (triImpl_c X0 Y0 X1 Y1 X2 Y2 qx qy _ (cell_later (grew HCR.out (by with_reducible assumption)) C0.out)).mono ?_
                  rintro e w9 ⟨rfl, hb9⟩
                  go_wp2_with fail
                  refine hK.out _ _ ?_ (fun hHeld => ?_)
                  · exact grew (by with_reducible assumption) hb9
                  clear hK K
                  try simp only [Act.put, List.setIfInBounds_toArray, List.set_cons_zero, List.set_cons_succ]
                  refine wpAnyH_take (i := 11) (oi := { dst := some 123, op := Op.move (Operand.tmp 134), type := 29, pos := "laws.go:351", after := #[{ on := 10, ground := Ground.data }], guard := none }) (v := ?v24rx11) rfl (by kernel_rfl) (by kernel_rfl) (by kernel_rfl) (fun _ _ _ h => h) (Or.inl ⟨by rfl, ?hy24rx11⟩) (by with_reducible assumption) ?rest24rx11
                  case hy24rx11 => (intro w hSw; (try dsimp only at hSw); have z0 := cell_later hSw g0; have z1 := cell_later hSw g1; have z2 := cell_later hSw g2; have z3 := cell_later hSw g3; have z4 := cell_later hSw g4; have z5 := cell_later hSw g5; have z6 := cell_later hSw k0; have z7 := cell_later hSw k1; clear hSw; go_simp; try with_reducible rfl)
                  case' rest24rx11 => (try simp only [Act.put, List.setIfInBounds_toArray, List.set_cons_zero, List.set_cons_succ])
                  refine wpAnyH_take (i := 12) (oi := { dst := some 135, op := Op.extract (Operand.tmp 123) 0, type := 3, pos := "laws.go:351", after := #[{ on := 11, ground := Ground.data }], guard := none }) (v := ?v24rx12) rfl (by kernel_rfl) (by kernel_rfl) (by kernel_rfl) (fun _ _ _ h => h) (Or.inl ⟨by rfl, ?hy24rx12⟩) (by with_reducible assumption) ?rest24rx12
                  case hy24rx12 => (intro w hSw; (try dsimp only at hSw); have z0 := cell_later hSw g0; have z1 := cell_later hSw g1; have z2 := cell_later hSw g2; have z3 := cell_later hSw g3; have z4 := cell_later hSw g4; have z5 := cell_later hSw g5; have z6 := cell_later hSw k0; have z7 := cell_later hSw k1; clear hSw; go_simp; try with_reducible rfl)
                  case' rest24rx12 => (try simp only [Act.put, List.setIfInBounds_toArray, List.set_cons_zero, List.set_cons_succ])
                  refine wpAnyH_take (i := 13) (oi := { dst := some 136, op := Op.extract (Operand.tmp 123) 1, type := 4, pos := "laws.go:351", after := #[{ on := 11, ground := Ground.data }, { on := 14, ground := Ground.gcOnly Departure.lateStores }], guard := none }) (v := ?v24rx13) rfl (by kernel_rfl) (by kernel_rfl) (by kernel_rfl) (fun _ _ _ h => h) (Or.inl ⟨by rfl, ?hy24rx13⟩) (by with_reducible assumption) ?rest24rx13
                  case hy24rx13 => (intro w hSw; (try dsimp only at hSw); have z0 := cell_later hSw g0; have z1 := cell_later hSw g1; have z2 := cell_later hSw g2; have z3 := cell_later hSw g3; have z4 := cell_later hSw g4; have z5 := cell_later hSw g5; have z6 := cell_later hSw k0; have z7 := cell_later hSw k1; clear hSw; go_simp; try with_reducible rfl)
                  case' rest24rx13 => (try simp only [Act.put, List.setIfInBounds_toArray, List.set_cons_zero, List.set_cons_succ])
                  refine wpAnyH_take (i := 14) (oi := { dst := some 20, op := Op.assign (Operand.tmp 135), type := 3, pos := "laws.go:351", after := #[{ on := 12, ground := Ground.data }, { on := 10, ground := Ground.chain }, { on := 0, ground := Ground.phase }, { on := 1, ground := Ground.phase }, { on := 2, ground := Ground.phase }, { on := 3, ground := Ground.phase }, { on := 4, ground := Ground.phase }, { on := 5, ground := Ground.phase }, { on := 6, ground := Ground.phase }, { on := 7, ground := Ground.phase }, { on := 8, ground := Ground.phase }, { on := 9, ground := Ground.phase }, { on := 10, ground := Ground.phase }, { on := 11, ground := Ground.phase }, { on := 12, ground := Ground.phase }, { on := 13, ground := Ground.textOnly Departure.lateStores }], guard := none }) (v := ?v24rx14) rfl (by kernel_rfl) (by kernel_rfl) (by kernel_rfl) (fun _ _ _ h => h) (Or.inl ⟨by rfl, ?hy24rx14⟩) (by with_reducible assumption) ?rest24rx14
                  case hy24rx14 => (intro w hSw; (try dsimp only at hSw); have z0 := cell_later hSw g0; have z1 := cell_later hSw g1; have z2 := cell_later hSw g2; have z3 := cell_later hSw g3; have z4 := cell_later hSw g4; have z5 := cell_later hSw g5; have z6 := cell_later hSw k0; have z7 := cell_later hSw k1; clear hSw; go_simp; try with_reducible rfl)
                  case' rest24rx14 => (try simp only [Act.put, List.setIfInBounds_toArray, List.set_cons_zero, List.set_cons_succ])
                  refine wpAnyH_take (i := 15) (oi := { dst := some 21, op := Op.assign (Operand.tmp 136), type := 4, pos := "laws.go:351", after := #[{ on := 13, ground := Ground.data }, { on := 14, ground := Ground.chain }, { on := 0, ground := Ground.phase }, { on := 1, ground := Ground.phase }, { on := 2, ground := Ground.phase }, { on := 3, ground := Ground.phase }, { on := 4, ground := Ground.phase }, { on := 5, ground := Ground.phase }, { on := 6, ground := Ground.phase }, { on := 7, ground := Ground.phase }, { on := 8, ground := Ground.phase }, { on := 9, ground := Ground.phase }, { on := 10, ground := Ground.phase }, { on := 11, ground := Ground.phase }, { on := 12, ground := Ground.phase }, { on := 13, ground := Ground.phase }, { on := 14, ground := Ground.phase }], guard := none }) (v := ?v24rx15) rfl (by kernel_rfl) (by kernel_rfl) (by kernel_rfl) (fun _ _ _ h => h) (Or.inl ⟨by rfl, ?hy24rx15⟩) (by with_reducible assumption) ?rest24rx15
                  case hy24rx15 => (intro w hSw; (try dsimp only at hSw); have z0 := cell_later hSw g0; have z1 := cell_later hSw g1; have z2 := cell_later hSw g2; have z3 := cell_later hSw g3; have z4 := cell_later hSw g4; have z5 := cell_later hSw g5; have z6 := cell_later hSw k0; have z7 := cell_later hSw k1; clear hSw; go_simp; try with_reducible rfl)
                  case' rest24rx15 => (try simp only [Act.put, List.setIfInBounds_toArray, List.set_cons_zero, List.set_cons_succ])
                  refine wpAnyH_done (by kernel_rfl) ?_ _
                  rw [HTV.out, HTO.out]
                  have HS9 := hid hHeld
                  clear hHeld g0 g1 g2 g3 g4 g5 k0 k1
                  go_wp2
                  go_roundw
                  case rel => exact ⟨i + 1, by omega, by rw [anyF_succ, hAF, HFI.out]; first | rfl | (rw [bne_iff_ne.2 hn0]; rfl), by go_num, grew HBR.out HS9.out⟩
                  case measure => simp [intOf]; omega
            · obtain rfl : i = n := by omega
              have hcz := grew hc6 hbr
              have hbn1 : ((i : Int) != (h.length : Int) - 2) = false := by simp; omega
              rw [HIF.out]
              clear hbr
              go_upto_region 25 with fail
              have tq : True := trivial
              go_wp2_with (first
                | (go_at_call 36; refine (drawTri_c _ _ _ wr ((HB1.out.below hcz).mono hcz.size) l1).mono ?_; rintro e wj ⟨x0, y0, x1, y1, x2, y2, x3, y3, rfl, hbj⟩; have hcj := grew hcz hbj)
                | (go_at_call 15; refine (triImpl_c x0 y0 x1 y1 x2 y2 x3 y3 _ (cell_later (grew hcj (by go_grown)) C0.out)).mono ?_; rintro e wk ⟨rfl, hbk⟩; have a0 := cell_later hbk (a := ⟨wj.heap.size, 0, none⟩) (v := .int .i64 x0) (by simp [go_sem]); have a1 := cell_later hbk (a := ⟨wj.heap.size, 1, none⟩) (v := .int .i64 y0) (by simp [go_sem]); have a2 := cell_later hbk (a := ⟨wj.heap.size + 1, 0, none⟩) (v := .int .i64 x1) (by simp [go_sem]); have a3 := cell_later hbk (a := ⟨wj.heap.size + 1, 1, none⟩) (v := .int .i64 y1) (by simp [go_sem]); have a4 := cell_later hbk (a := ⟨wj.heap.size + 1 + 1, 0, none⟩) (v := .int .i64 x2) (by simp [go_sem]); have a5 := cell_later hbk (a := ⟨wj.heap.size + 1 + 1, 1, none⟩) (v := .int .i64 y2) (by simp [go_sem]); have a6 := cell_later hbk (a := ⟨wj.heap.size + 1 + 1 + 1, 0, none⟩) (v := .int .i64 x3) (by simp [go_sem]); have a7 := cell_later hbk (a := ⟨wj.heap.size + 1 + 1 + 1, 1, none⟩) (v := .int .i64 y3) (by simp [go_sem]); have hck := grew hcj (grew (by go_grown) hbk))
                | (go_at_call 14; refine (triSpec_c x0 y0 x1 y1 x2 y2 x3 y3 wk).mono ?_; rintro e wl ⟨rfl, hbl⟩; have hcl := grew hck hbl)
                | (go_at_call 37; refine (drawSeg_c _ _ _ wl ((HB1.out.below hcl).mono hcl.size) l1).mono ?_; rintro e wm ⟨u0, z0, u1, z1, u2, z2, rfl, hbm⟩; have hcm := grew hcl hbm)
                | (go_at_call 13; clear tq; refine (onSegImpl_c u0 z0 u1 z1 u2 z2 _ (cell_later (grew hcm (by go_grown)) C0.out)).mono ?_; rintro e wn ⟨rfl, hbn⟩; have c0 := cell_later hbn (a := ⟨wm.heap.size, 0, none⟩) (v := .int .i64 u0) (by simp [go_sem]); have c1 := cell_later hbn (a := ⟨wm.heap.size, 1, none⟩) (v := .int .i64 z0) (by simp [go_sem]); have c2 := cell_later hbn (a := ⟨wm.heap.size + 1, 0, none⟩) (v := .int .i64 u1) (by simp [go_sem]); have c3 := cell_later hbn (a := ⟨wm.heap.size + 1, 1, none⟩) (v := .int .i64 z1) (by simp [go_sem]); have c4 := cell_later hbn (a := ⟨wm.heap.size + 1 + 1, 0, none⟩) (v := .int .i64 u2) (by simp [go_sem]); have c5 := cell_later hbn (a := ⟨wm.heap.size + 1 + 1, 1, none⟩) (v := .int .i64 z2) (by simp [go_sem]); have hcn := grew hcm (grew (by go_grown) hbn))
                | (go_at_call 11; refine (onSegSpec_c u0 z0 u1 z1 u2 z2 wn).mono ?_; rintro e wo ⟨rfl, hbo⟩; have d0 := cell_later hbo c0; have d1 := cell_later hbo c1; have d2 := cell_later hbo c2; have d3 := cell_later hbo c3; have d4 := cell_later hbo c4; have d5 := cell_later hbo c5; have hco := grew hcn hbo)
                | (go_at_call 13; refine (onSegImpl_c u1 z1 u0 z0 u2 z2 wo (cell_later hco C0.out)).mono ?_; rw [sgB_swap, sideOk_swap]; rintro e wp ⟨rfl, hbp⟩; have hcp := grew hco hbp))
              all_goals go_ret
              all_goals exact ⟨rfl, hcp⟩
        · have hd2 : decide (2 < (h.length : Int)) = false := decide_eq_false (by omega)
          clear HF0
          go_upto_region 25 with (first
            | (go_at_call 19; refine (whereIsImpl_c h qx qy _ _ _ wq rfl hhm hoq.at (cell_later hbq C0.out)).mono ?_; rw [hK, HNW.out]; rintro e w2 ⟨rfl, hb2⟩; have ka0 := cell_later hb2 kq0; have ka1 := cell_later hb2 kq1)
            | (go_at_call 17; refine (whereIsSpec_c h qx qy _ _ _ w2 rfl hhm (hoq.later hb2).at).mono ?_; rw [hK, HNW.out]; rintro e w3 ⟨rfl, hb3⟩; have hB3 := grew hb2 hb3; have kb0 := cell_later hb3 ka0; have kb1 := cell_later hb3 ka1)
            | (go_at_call 22; refine (rimAtTopImpl_c h qx qy _ _ _ w3 rfl hhm (hoq.later hB3).at (cell_later (grew hbq hB3) C0.out)).mono ?_; rw [HRW.out]; rintro e w4 ⟨rfl, hb4⟩; have hB4 := grew hB3 hb4; have kc0 := cell_later hb4 kb0; have kc1 := cell_later hb4 kb1)
            | (go_at_call 21; refine (rimAtTopSpec_c h qx qy _ _ _ w4 rfl hhm (hoq.later hB4).at).mono ?_; rw [HRW.out]; rintro e w5 ⟨rfl, hb5⟩; have hB5 := grew hB4 hb5; have kd0 := cell_later hb5 kc0; have kd1 := cell_later hb5 kc1; have hc5 := grew hbq hB5))
          have tq : True := trivial
          go_wp2_with (first
            | (go_at_call 36; refine (drawTri_c _ _ _ w5 ((HB1.out.below hc5).mono hc5.size) l1).mono ?_; rintro e wj ⟨x0, y0, x1, y1, x2, y2, x3, y3, rfl, hbj⟩; have hcj := grew hc5 hbj)
            | (go_at_call 15; refine (triImpl_c x0 y0 x1 y1 x2 y2 x3 y3 _ (cell_later (grew hcj (by go_grown)) C0.out)).mono ?_; rintro e wk ⟨rfl, hbk⟩; have a0 := cell_later hbk (a := ⟨wj.heap.size, 0, none⟩) (v := .int .i64 x0) (by simp [go_sem]); have a1 := cell_later hbk (a := ⟨wj.heap.size, 1, none⟩) (v := .int .i64 y0) (by simp [go_sem]); have a2 := cell_later hbk (a := ⟨wj.heap.size + 1, 0, none⟩) (v := .int .i64 x1) (by simp [go_sem]); have a3 := cell_later hbk (a := ⟨wj.heap.size + 1, 1, none⟩) (v := .int .i64 y1) (by simp [go_sem]); have a4 := cell_later hbk (a := ⟨wj.heap.size + 1 + 1, 0, none⟩) (v := .int .i64 x2) (by simp [go_sem]); have a5 := cell_later hbk (a := ⟨wj.heap.size + 1 + 1, 1, none⟩) (v := .int .i64 y2) (by simp [go_sem]); have a6 := cell_later hbk (a := ⟨wj.heap.size + 1 + 1 + 1, 0, none⟩) (v := .int .i64 x3) (by simp [go_sem]); have a7 := cell_later hbk (a := ⟨wj.heap.size + 1 + 1 + 1, 1, none⟩) (v := .int .i64 y3) (by simp [go_sem]); have hck := grew hcj (grew (by go_grown) hbk))
            | (go_at_call 14; refine (triSpec_c x0 y0 x1 y1 x2 y2 x3 y3 wk).mono ?_; rintro e wl ⟨rfl, hbl⟩; have hcl := grew hck hbl)
            | (go_at_call 37; refine (drawSeg_c _ _ _ wl ((HB1.out.below hcl).mono hcl.size) l1).mono ?_; rintro e wm ⟨u0, z0, u1, z1, u2, z2, rfl, hbm⟩; have hcm := grew hcl hbm)
            | (go_at_call 13; clear tq; refine (onSegImpl_c u0 z0 u1 z1 u2 z2 _ (cell_later (grew hcm (by go_grown)) C0.out)).mono ?_; rintro e wn ⟨rfl, hbn⟩; have c0 := cell_later hbn (a := ⟨wm.heap.size, 0, none⟩) (v := .int .i64 u0) (by simp [go_sem]); have c1 := cell_later hbn (a := ⟨wm.heap.size, 1, none⟩) (v := .int .i64 z0) (by simp [go_sem]); have c2 := cell_later hbn (a := ⟨wm.heap.size + 1, 0, none⟩) (v := .int .i64 u1) (by simp [go_sem]); have c3 := cell_later hbn (a := ⟨wm.heap.size + 1, 1, none⟩) (v := .int .i64 z1) (by simp [go_sem]); have c4 := cell_later hbn (a := ⟨wm.heap.size + 1 + 1, 0, none⟩) (v := .int .i64 u2) (by simp [go_sem]); have c5 := cell_later hbn (a := ⟨wm.heap.size + 1 + 1, 1, none⟩) (v := .int .i64 z2) (by simp [go_sem]); have hcn := grew hcm (grew (by go_grown) hbn))
            | (go_at_call 11; refine (onSegSpec_c u0 z0 u1 z1 u2 z2 wn).mono ?_; rintro e wo ⟨rfl, hbo⟩; have d0 := cell_later hbo c0; have d1 := cell_later hbo c1; have d2 := cell_later hbo c2; have d3 := cell_later hbo c3; have d4 := cell_later hbo c4; have d5 := cell_later hbo c5; have hco := grew hcn hbo)
            | (go_at_call 13; refine (onSegImpl_c u1 z1 u0 z0 u2 z2 wo (cell_later hco C0.out)).mono ?_; rw [sgB_swap, sideOk_swap]; rintro e wp ⟨rfl, hbp⟩; have hcp := grew hco hbp))
          all_goals go_ret
          all_goals exact ⟨rfl, hcp⟩
      · have hd1 : decide (1 < (h.length : Int)) = false := decide_eq_false (by omega)
        have hd2 : decide (2 < (h.length : Int)) = false := decide_eq_false (by omega)
        go_upto_region 25 with (first
          | (go_at_call 19; refine (whereIsImpl_c h qx qy _ _ _ wq rfl hhm hoq.at (cell_later hbq C0.out)).mono ?_; rw [hK]; rintro e w2 ⟨rfl, hb2⟩; have ka0 := cell_later hb2 kq0; have ka1 := cell_later hb2 kq1)
          | (go_at_call 17; refine (whereIsSpec_c h qx qy _ _ _ w2 rfl hhm (hoq.later hb2).at).mono ?_; rw [hK]; rintro e w3 ⟨rfl, hb3⟩; have hB3 := grew hb2 hb3; have kb0 := cell_later hb3 ka0; have kb1 := cell_later hb3 ka1)
          | (go_at_call 22; refine (rimAtTopImpl_c h qx qy _ _ _ w3 rfl hhm (hoq.later hB3).at (cell_later (grew hbq hB3) C0.out)).mono ?_; skip; rintro e w4 ⟨rfl, hb4⟩; have hB4 := grew hB3 hb4; have kc0 := cell_later hb4 kb0; have kc1 := cell_later hb4 kb1)
          | (go_at_call 21; refine (rimAtTopSpec_c h qx qy _ _ _ w4 rfl hhm (hoq.later hB4).at).mono ?_; skip; rintro e w5 ⟨rfl, hb5⟩; have hB5 := grew hB4 hb5; have kd0 := cell_later hb5 kc0; have kd1 := cell_later hb5 kc1; have hc5 := grew hbq hB5))
        have tq : True := trivial
        go_wp2_with (first
          | (go_at_call 36; refine (drawTri_c _ _ _ w5 ((HB1.out.below hc5).mono hc5.size) l1).mono ?_; rintro e wj ⟨x0, y0, x1, y1, x2, y2, x3, y3, rfl, hbj⟩; have hcj := grew hc5 hbj)
          | (go_at_call 15; refine (triImpl_c x0 y0 x1 y1 x2 y2 x3 y3 _ (cell_later (grew hcj (by go_grown)) C0.out)).mono ?_; rintro e wk ⟨rfl, hbk⟩; have a0 := cell_later hbk (a := ⟨wj.heap.size, 0, none⟩) (v := .int .i64 x0) (by simp [go_sem]); have a1 := cell_later hbk (a := ⟨wj.heap.size, 1, none⟩) (v := .int .i64 y0) (by simp [go_sem]); have a2 := cell_later hbk (a := ⟨wj.heap.size + 1, 0, none⟩) (v := .int .i64 x1) (by simp [go_sem]); have a3 := cell_later hbk (a := ⟨wj.heap.size + 1, 1, none⟩) (v := .int .i64 y1) (by simp [go_sem]); have a4 := cell_later hbk (a := ⟨wj.heap.size + 1 + 1, 0, none⟩) (v := .int .i64 x2) (by simp [go_sem]); have a5 := cell_later hbk (a := ⟨wj.heap.size + 1 + 1, 1, none⟩) (v := .int .i64 y2) (by simp [go_sem]); have a6 := cell_later hbk (a := ⟨wj.heap.size + 1 + 1 + 1, 0, none⟩) (v := .int .i64 x3) (by simp [go_sem]); have a7 := cell_later hbk (a := ⟨wj.heap.size + 1 + 1 + 1, 1, none⟩) (v := .int .i64 y3) (by simp [go_sem]); have hck := grew hcj (grew (by go_grown) hbk))
          | (go_at_call 14; refine (triSpec_c x0 y0 x1 y1 x2 y2 x3 y3 wk).mono ?_; rintro e wl ⟨rfl, hbl⟩; have hcl := grew hck hbl)
          | (go_at_call 37; refine (drawSeg_c _ _ _ wl ((HB1.out.below hcl).mono hcl.size) l1).mono ?_; rintro e wm ⟨u0, z0, u1, z1, u2, z2, rfl, hbm⟩; have hcm := grew hcl hbm)
          | (go_at_call 13; clear tq; refine (onSegImpl_c u0 z0 u1 z1 u2 z2 _ (cell_later (grew hcm (by go_grown)) C0.out)).mono ?_; rintro e wn ⟨rfl, hbn⟩; have c0 := cell_later hbn (a := ⟨wm.heap.size, 0, none⟩) (v := .int .i64 u0) (by simp [go_sem]); have c1 := cell_later hbn (a := ⟨wm.heap.size, 1, none⟩) (v := .int .i64 z0) (by simp [go_sem]); have c2 := cell_later hbn (a := ⟨wm.heap.size + 1, 0, none⟩) (v := .int .i64 u1) (by simp [go_sem]); have c3 := cell_later hbn (a := ⟨wm.heap.size + 1, 1, none⟩) (v := .int .i64 z1) (by simp [go_sem]); have c4 := cell_later hbn (a := ⟨wm.heap.size + 1 + 1, 0, none⟩) (v := .int .i64 u2) (by simp [go_sem]); have c5 := cell_later hbn (a := ⟨wm.heap.size + 1 + 1, 1, none⟩) (v := .int .i64 z2) (by simp [go_sem]); have hcn := grew hcm (grew (by go_grown) hbn))
          | (go_at_call 11; refine (onSegSpec_c u0 z0 u1 z1 u2 z2 wn).mono ?_; rintro e wo ⟨rfl, hbo⟩; have d0 := cell_later hbo c0; have d1 := cell_later hbo c1; have d2 := cell_later hbo c2; have d3 := cell_later hbo c3; have d4 := cell_later hbo c4; have d5 := cell_later hbo c5; have hco := grew hcn hbo)
          | (go_at_call 13; refine (onSegImpl_c u1 z1 u0 z0 u2 z2 wo (cell_later hco C0.out)).mono ?_; rw [sgB_swap, sideOk_swap]; rintro e wp ⟨rfl, hbp⟩; have hcp := grew hco hbp))
        all_goals go_ret
        all_goals exact ⟨rfl, hcp⟩
  · go_enter Tryd.func10, Tryd.ntmps10
    go_wp2_with (go_at_call 34; refine (big_t _ _ _ _ _ _ _ m0 m1 (by omega)).mono ?_; rintro e w' ⟨rfl, rfl⟩)
    go_ret
    exact ⟨rfl, by go_grown⟩
end Go.Proofs.YtcghpepkphphbaaDoor
