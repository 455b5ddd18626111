/-
  The walk of the law FnExtremes.
  Conditions: as the theorems state them.
-/
import Derived.Test.YtegmlemejmahiaaDoorFar8
import Derived.Test.YtegmlemejmahiaaDoorExtLaw
import Derived.Test.YtegmlemejmahiaaDoorDrEx
import Derived.Test.YtegmlemejmahiaaDoorSame
namespace Go.Proofs.YtegmlemejmahiaaDoor
open Go.RowKit Go.Shelf
set_option linter.unusedVariables false
theorem big_c (a0 : Option Addr) (len0 cap0 : Nat) (a1 : Option Addr) (len1 cap1 : Nat) (w : World) (h : len0 + len1 ≤ 1048576) :
    Calls Tryd.prog 32 #[.slice a0 len0 cap0, .slice a1 len1 cap1] w fun e w' => e = .returned (.bool false) ∧ w = w' := by
  have h0 : ¬ (1048576 : Int) < (len0 : Int) := by omega
  have h1 : ¬ (1048576 : Int) - (len0 : Int) < (len1 : Int) := by omega
  go_enter Tryd.func32, Tryd.ntmps32
  go_wp2
  go_ret
  exact ⟨rfl, rfl⟩
theorem big_t (a0 : Option Addr) (len0 cap0 : Nat) (a1 : Option Addr) (len1 cap1 : Nat) (w : World) (m0 : len0 ≤ maxLen) (m1 : len1 ≤ maxLen) (h : ¬ len0 + len1 ≤ 1048576) :
    Calls Tryd.prog 32 #[.slice a0 len0 cap0, .slice a1 len1 cap1] w fun e w' => e = .returned (.bool true) ∧ w = w' := by
  unfold maxLen at m0 m1
  by_cases h0 : (1048576 : Int) < (len0 : Int)
  · go_enter Tryd.func32, Tryd.ntmps32
    go_wp2
    go_ret
    exact ⟨rfl, rfl⟩
  · have h1 : (1048576 : Int) - (len0 : Int) < (len1 : Int) := by omega
    go_enter Tryd.func32, Tryd.ntmps32
    go_wp2
    go_ret
    exact ⟨rfl, rfl⟩
set_option maxRecDepth 8000 in
set_option maxHeartbeats 8000000 in
theorem ext_walk (a0 : Option Addr) (len0 cap0 : Nat) (a1 : Option Addr) (len1 cap1 : Nat) (w : World) (B0 : Bytes w.heap.size a0 len0 w) (B1 : Bytes w.heap.size a1 len1 w) (m0 : len0 ≤ maxLen) (m1 : len1 ≤ maxLen) (c0 : w.cell? ⟨0, 0, none⟩ = some (.int .i64 1000000)) :
    Calls Tryd.prog 9 #[.slice a0 len0 cap0, .slice a1 len1 cap1] w fun e w' => e = .returned (.bool true) ∧ Below w.heap.size w w' := by
  have C0 := hid c0
  have HB0 := hid B0
  have HB1 := hid B1
  clear c0 B0 B1
  by_cases hl : len0 + len1 ≤ 1048576
  · have l0 : len0 ≤ 1048576 := by omega
    have l1 : len1 ≤ 1048576 := by omega
    clear m0 m1
    go_enter Tryd.func9, Tryd.ntmps9
    go_upto_region 4 with (first
      | (go_at_call 32; refine (big_c _ _ _ _ _ _ _ hl).mono ?_; rintro e w' ⟨rfl, rfl⟩)
      | (go_at_call 33; refine (drawExt_c _ _ _ _ HB0.out l0).mono ?_; rintro e w1 ⟨v1, dx, dy, rfl, h, hoh, hh25, hb1⟩; obtain ⟨av, ps, hvs⟩ := hoh.shape; subst hvs))
    have KD := BoxP.new w1 dx dy
    have hba : Below w1.heap.size w1 (w1.alloc (.cells #[.int .i64 dx, .int .i64 dy] 26)) := by go_grown
    have hc := grew hb1 hba
    have HO := hid (hoh.later hba)
    generalize w1.heap.size = B6 at KD ⊢
    generalize w1.alloc (.cells #[.int .i64 dx, .int .i64 dy] 26) = wA at KD hba hc HO ⊢
    clear hba hb1 hoh
    have hhm : h.length ≤ 1048576 := by omega
    obtain ⟨⟨ex, ey⟩, hE⟩ : ∃ e, exP h dx dy = e := ⟨_, rfl⟩
    obtain ⟨n, hS⟩ : ∃ n, suV h dx dy = n := ⟨_, rfl⟩
    have d0 := KD.c0
    have d1 := KD.c1
    go_upto_region 5 with (go_at_call 14; refine (extremeImpl_c h dx dy _ _ _ _ rfl hhm HO.out.at (cell_later hc C0.out)).mono ?_; rw [hE]; rintro e w2 ⟨rfl, hb2⟩)
    have KP := BoxP.new w2 ex ey
    have hba : Below w2.heap.size w2 (w2.alloc (.cells #[.int .i64 ex, .int .i64 ey] 26)) := by go_grown
    have hbx := hb2.trans (hba.mono hb2.size)
    replace hc := grew hc hbx
    replace HO := hid (HO.out.later hbx)
    replace KD := KD.later hbx
    generalize w2.heap.size = B7 at KP ⊢
    generalize w2.alloc (.cells #[.int .i64 ex, .int .i64 ey] 26) = wB at KD KP hba hbx hc HO ⊢
    clear hba hb2 hbx d0 d1
    have d0 := KD.c0
    have d1 := KD.c1
    go_upto_region 6 with (go_at_call 11; refine (extremeSpec_c h dx dy _ _ _ _ rfl hhm HO.out.at).mono ?_; rw [hE]; rintro e w3 ⟨rfl, hb3⟩)
    have KW := BoxP.new w3 ex ey
    have hba : Below w3.heap.size w3 (w3.alloc (.cells #[.int .i64 ex, .int .i64 ey] 26)) := by go_grown
    have hbx := hb3.trans (hba.mono hb3.size)
    replace hc := grew hc hbx
    replace HO := hid (HO.out.later hbx)
    replace KD := KD.later hbx
    replace KP := KP.later hbx
    generalize w3.heap.size = B9 at KW ⊢
    generalize w3.alloc (.cells #[.int .i64 ex, .int .i64 ey] 26) = wC at KD KP KW hba hbx hc HO ⊢
    clear hba hb3 hbx d0 d1
    have d0 := KD.c0
    have d1 := KD.c1
    go_upto_region 8 with (first
      | (go_at_call 18; refine (supportImpl_c h dx dy _ _ _ _ rfl hhm HO.out.at (cell_later hc C0.out)).mono ?_; rw [hS]; rintro e w4 ⟨rfl, hb4⟩; have e0 := cell_later hb4 d0; have e1 := cell_later hb4 d1; have hc4 := grew hc hb4; have HO4 := hid (HO.out.later hb4); have KD4 := KD.later hb4; have KP4 := KP.later hb4; have KW4 := KW.later hb4)
      | (go_at_call 17; refine (supportSpec_c h dx dy _ _ _ _ rfl hhm HO4.out.at).mono ?_; rw [hS]; rintro e w5 ⟨rfl, hb5⟩; have hc5 := grew hc4 hb5; have HO5 := hid (HO4.out.later hb5); have KD5 := KD4.later hb5; have KP5 := KP4.later hb5; have KW5 := KW4.later hb5))
    clear d0 d1 e0 e1 KD KP KW KD4 KP4 KW4 HO HO4 hc hc4 hb4 hb5
    have d0 := KD5.c0
    have d1 := KD5.c1
    have p0 := KP5.c0
    have p1 := KP5.c1
    have q0 := KW5.c0
    have q1 := KW5.c1
    have xe : (ex == ex) = true := by simp
    have ye : (ey == ey) = true := by simp
    go_upto_region 10 with fail
    clear q0 q1 KW5 xe ye
    cases hz : exOk h dx dy
    · have tq : True := trivial
      go_upto_region 29 with (go_at_call 35; refine (drawSup_c _ _ _ w5 ((HB1.out.below hc5).mono hc5.size) l1).mono ?_; rintro e wj ⟨vj, gx, gy, rfl, g, hog, hg25, hbj⟩; obtain ⟨ag, pg, hvg⟩ := hog.shape; subst hvg; have hcj := grew hc5 hbj)
      have KG := BoxP.new wj gx gy
      have hbg : Below wj.heap.size wj (wj.alloc (.cells #[.int .i64 gx, .int .i64 gy] 26)) := by go_grown
      have hck := grew hcj hbg
      have hogk := hog.later hbg
      generalize wj.heap.size = B24 at KG ⊢
      generalize wj.alloc (.cells #[.int .i64 gx, .int .i64 gy] 26) = wk at KG hbg hck hogk ⊢
      have g0 := KG.c0
      have g1 := KG.c1
      go_wp2_with (first
        | (go_at_call 18; refine (supportImpl_c g gx gy _ _ _ wk rfl (by omega) hogk.at (cell_later hck C0.out)).mono ?_; rintro e wl ⟨rfl, hbl⟩; have hcl := grew hck hbl; have gg0 := cell_later hbl g0; have gg1 := cell_later hbl g1)
        | (go_at_call 17; refine (supportSpec_c g gx gy _ _ _ wl rfl (by omega) (hogk.later hbl).at).mono ?_; rintro e wm ⟨rfl, hbm⟩; have hcm := grew hcl hbm))
      all_goals go_ret
      all_goals exact ⟨ret_bool (by simp), hcm⟩
    · have HZ := hid hz
      have HG := hid (exOk_parts hz).1
      have HM := hid (show (ex, ey) ∈ h by rw [← hE]; exact ex_mem hz)
      have hsc : wrap64 (wrap64 (dx * ex) + wrap64 (dy * ey)) = n := by rw [← hS, ← su_sc hz, hE]; rfl
      have HLE := hid (fun p (hp : p ∈ h) => by rw [← hS]; exact ex_le hz hp : ∀ p, p ∈ h → scW (dx, dy) p ≤ n)
      clear hz
      go_upto_region 13 with (go_at_call 34; refine (hasPoint_c h ex ey _ _ _ _ rfl hhm HO5.out.at HM.out).mono ?_; rintro e w6 ⟨rfl, hb6⟩; replace d0 := cell_later hb6 d0; replace d1 := cell_later hb6 d1; replace p0 := cell_later hb6 p0; replace p1 := cell_later hb6 p1)
      have hc6 := grew hc5 hb6
      have HO6 := hid (HO5.out.later hb6)
      have KD6 := KD5.later hb6
      clear hc5 HO5 KD5 KP5 hb6 d0 d1 p0 p1 hsc
      go_wp2
      go_loopw [102] (fun ii wr => ∃ i : Nat, i ≤ h.length ∧ ii = .int .i64 i ∧ BoxP wr B6 (dx, dy) ∧ Below w6.heap.size w6 wr) (fun ii _ => h.length - (intOf ii).toNat)
      case atStart => exact ⟨0, Nat.zero_le _, rfl, KD6, Below.refl _ _⟩
      case round =>
        clear KD6
        obtain ⟨i, hi, rfl, KD, hbr⟩ := hrel
        by_cases hil : i < h.length
        · obtain ⟨b, off, e0, hbN, g0, g1⟩ := (HO6.out.later hbr).at i hil
          subst e0
          have hle := HLE.out _ (pt_mem hil)
          obtain ⟨x, hx⟩ : ∃ x, px h i = x := ⟨_, rfl⟩
          obtain ⟨y, hy⟩ : ∃ y, py h i = y := ⟨_, rfl⟩
          rw [hx] at g0
          rw [hy] at g1
          obtain ⟨s, hs⟩ : ∃ s, wrap64 (wrap64 (dx * x) + wrap64 (dy * y)) = s := ⟨_, rfl⟩
          have hle2 : ¬ n < s := by
            have e : scW (dx, dy) (Go.Proofs.YtegmlemejmahiaaDoor.pt h i) = s := by rw [← hs, ← hx, ← hy]; rfl
            rw [e] at hle; omega
          clear hle hx hy
          have j0 : (0 : Int) ≤ (i : Int) := by omega
          have j1 : (i : Int) < (h.length : Int) := by omega
          have hbq : Below wr.heap.size wr (wr.alloc (.cells #[.int .i64 x, .int .i64 y] 26)) := by go_grown
          have KD2 := KD.later hbq
          have KX := BoxP.new wr x y
          have HBR := hid (grew hbr hbq)
          go_upto_region 16 with fail
          generalize wr.heap.size = B16 at KX ⊢
          generalize wr.alloc (.cells #[.int .i64 x, .int .i64 y] 26) = wx at KX KD2 HBR hbq ⊢
          clear g0 g1 hbq KD hbr
          have d0 := KD2.c0
          have d1 := KD2.c1
          have x0 := KX.c0
          have x1 := KX.c1
          go_wp2
          go_roundw
          case rel => exact ⟨i + 1, by omega, by go_num, KD2, HBR.out⟩
          case measure => simp [intOf]; omega
        · obtain rfl : i = h.length := by omega
          have hc7 := grew hc6 hbr
          have HO7 := hid (HO6.out.later hbr)
          clear hc6 HO6 hbr KD
          generalize wr = wq at hc7 HO7 ⊢
          go_wp2
          go_loopw [122] (fun ii ws => ∃ i : Nat, i ≤ h.length ∧ ii = .int .i64 i ∧ Below wq.heap.size wq ws) (fun ii _ => h.length - (intOf ii).toNat)
          case atStart => exact ⟨0, Nat.zero_le _, rfl, Below.refl _ _⟩
          case round =>
            obtain ⟨k, hk, rfl, hbs⟩ := hrel
            by_cases hkl : k < h.length
            · have hm : (k + 1) % h.length < h.length := Nat.mod_lt _ (by omega)
              have hcm := mod_up (k := k) (n := h.length) rfl
              obtain ⟨m, hmm⟩ : ∃ m, (k + 1) % h.length = m := ⟨_, rfl⟩
              have hAC := fun x y hx hy => ex_across HG.out hkl (x := x) (y := y) hx hy
              rw [hmm] at hm hcm hAC
              have hw1 : IntKind.i64.wrap ((k : Int) + 1) = (k : Int) + 1 := by rw [IntKind.wrap_i64]; omega
              have hct : (IntKind.i64.wrap ((k : Int) + 1)).tmod (h.length : Int) = (m : Int) := by rw [hw1, Int.tmod_eq_emod_of_nonneg (by omega)]; exact hcm
              clear hw1 hmm
              have hne : ¬ h = [] := fun e => by rw [e] at hkl; exact absurd hkl (Nat.not_lt_zero _)
              have m0 : (0 : Int) ≤ (m : Int) := by omega
              have m1 : (m : Int) < (h.length : Int) := by omega
              have hi0 : (0 : Int) ≤ (k : Int) := by omega
              have hi1 : (k : Int) < (h.length : Int) := by omega
              have HOs := hid (HO7.out.later hbs)
              obtain ⟨b, off, e0, hbN, g0, g1⟩ := HOs.out.at k hkl
              obtain ⟨b', off', e1, hbN', g2, g3⟩ := HOs.out.at m hm
              subst e0
              cases e1
              obtain ⟨qx, hqx⟩ : ∃ x, px h k = x := ⟨_, rfl⟩
              obtain ⟨qy, hqy⟩ : ∃ x, py h k = x := ⟨_, rfl⟩
              obtain ⟨rx, hrx⟩ : ∃ x, px h m = x := ⟨_, rfl⟩
              obtain ⟨ry, hry⟩ : ∃ x, py h m = x := ⟨_, rfl⟩
              rw [hqx] at g0
              rw [hqy] at g1
              rw [hrx] at g2
              rw [hry] at g3
              rw [hqx, hqy, hrx, hry] at hAC
              clear hqx hqy hrx hry
              obtain ⟨X, hX⟩ : ∃ x, wrap64 (ry - qy) = x := ⟨_, rfl⟩
              obtain ⟨Y, hY⟩ : ∃ x, wrap64 (qx - rx) = x := ⟨_, rfl⟩
              have HAC := hid (hAC X Y hX.symm hY.symm)
              clear hAC
              have hb1' : Below wr.heap.size wr (wr.alloc (.cells #[.int .i64 qx, .int .i64 qy] 26)) := by go_grown
              have g2' := cell_later hb1' g2
              have g3' := cell_later hb1' g3
              have KQ := BoxP.later (BoxP.new wr qx qy) ((Below.refl _ _).alloc (Nat.le_refl _) (.cells #[.int .i64 rx, .int .i64 ry] 26))
              have KR := BoxP.new (wr.alloc (.cells #[.int .i64 qx, .int .i64 qy] 26)) rx ry
              simp only [World.size_alloc] at KR
              have hb2' : Below wr.heap.size wr ((wr.alloc (.cells #[.int .i64 qx, .int .i64 qy] 26)).alloc (.cells #[.int .i64 rx, .int .i64 ry] 26)) := by go_grown
              go_upto_region 23 with fail
              generalize wr.heap.size = BQ at KQ KR  ⊢
              generalize (wr.alloc (.cells #[.int .i64 qx, .int .i64 qy] 26)).alloc (.cells #[.int .i64 rx, .int .i64 ry] 26) = wt at KQ KR hb2' ⊢
              clear g0 g1 g2 g3 g2' g3' hb1'
              have r0 := KR.c0
              have r1 := KR.c1
              have q0 := KQ.c0
              have q1 := KQ.c1
              go_upto_region 24 with fail
              have hbt : Below wt.heap.size wt (wt.alloc (.cells #[.int .i64 X, .int .i64 Y] 26)) := by go_grown
              have KX := BoxP.new wt X Y
              have hbu := (hbs.trans ((hb2'.mono hbs.size))).trans (hbt.mono (Nat.le_trans hbs.size hb2'.size))
              have HOu := hid (HO7.out.later hbu)
              have hcu := grew hc7 hbu
              have KQ2 := KQ.later hbt
              have KR2 := KR.later hbt
              generalize wt.heap.size = BX at KX ⊢
              generalize wt.alloc (.cells #[.int .i64 X, .int .i64 Y] 26) = wu at KX KQ2 KR2 hbu hcu HOu hbt ⊢
              clear r0 r1 q0 q1 KQ KR hbt hX hY hb2' hbs HOs 
              have x0 := KX.c0
              have x1 := KX.c1
              cases hz2 : exOk h X Y
              · go_wp2_with (go_at_call 18; refine (supportImpl_c h X Y _ _ _ _ rfl hhm HOu.out.at (cell_later hcu C0.out)).mono ?_; rw [hz2]; rintro e wv ⟨rfl, hbv⟩)
                go_roundw
                case rel => exact ⟨k + 1, by omega, by go_num, grew hbu hbv⟩
                case measure => simp [intOf]; omega
              · obtain ⟨hA1, hA2⟩ := HAC.out hz2
                obtain ⟨M, hM⟩ : ∃ M, suV h X Y = M := ⟨_, rfl⟩
                rw [hM] at hA1 hA2
                have hA3 : wrap64 (wrap64 (X * qx) + wrap64 (Y * qy)) = M := hA1.symm
                have hA4 : wrap64 (wrap64 (X * rx) + wrap64 (Y * ry)) = M := hA2.symm
                clear hA1 hA2
                go_wp2_with (go_at_call 18; refine (supportImpl_c h X Y _ _ _ _ rfl hhm HOu.out.at (cell_later hcu C0.out)).mono ?_; rw [hz2, hM]; rintro e wv ⟨rfl, hbv⟩; have x2 := cell_later hbv x0; have x3 := cell_later hbv x1; have q2 := cell_later hbv KQ2.c0; have q3 := cell_later hbv KQ2.c1; have r2 := cell_later hbv KR2.c0; have r3 := cell_later hbv KR2.c1)
                go_roundw
                case rel => exact ⟨k + 1, by omega, by go_num, grew hbu hbv⟩
                case measure => simp [intOf]; omega
            · obtain rfl : k = h.length := by omega
              have hc8 := grew hc7 hbs
              have tq : True := trivial
              go_upto_region 29 with (go_at_call 35; refine (drawSup_c _ _ _ wr ((HB1.out.below hc8).mono hc8.size) l1).mono ?_; rintro e wj ⟨vj, gx, gy, rfl, g, hog, hg25, hbj⟩; obtain ⟨ag, pg, hvg⟩ := hog.shape; subst hvg; have hcj := grew hc8 hbj)
              have KG := BoxP.new wj gx gy
              have hbg : Below wj.heap.size wj (wj.alloc (.cells #[.int .i64 gx, .int .i64 gy] 26)) := by go_grown
              have hck := grew hcj hbg
              have hogk := hog.later hbg
              generalize wj.heap.size = B24 at KG ⊢
              generalize wj.alloc (.cells #[.int .i64 gx, .int .i64 gy] 26) = wk at KG hbg hck hogk ⊢
              have g0 := KG.c0
              have g1 := KG.c1
              go_wp2_with (first
                | (go_at_call 18; refine (supportImpl_c g gx gy _ _ _ wk rfl (by omega) hogk.at (cell_later hck C0.out)).mono ?_; rintro e wl ⟨rfl, hbl⟩; have hcl := grew hck hbl; have gg0 := cell_later hbl g0; have gg1 := cell_later hbl g1)
                | (go_at_call 17; refine (supportSpec_c g gx gy _ _ _ wl rfl (by omega) (hogk.later hbl).at).mono ?_; rintro e wm ⟨rfl, hbm⟩; have hcm := grew hcl hbm))
              all_goals go_ret
              all_goals exact ⟨ret_bool (by simp), hcm⟩
  · go_enter Tryd.func9, Tryd.ntmps9
    go_wp2_with (go_at_call 32; refine (big_t _ _ _ _ _ _ _ m0 m1 (by omega)).mono ?_; rintro e w' ⟨rfl, rfl⟩)
    go_ret
    exact ⟨rfl, by go_grown⟩
end Go.Proofs.YtegmlemejmahiaaDoor
