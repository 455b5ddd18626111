/-
  The depth of a point, the specification's (contract for the walks).
  Conditions: as each theorem states them.
-/
import Derived.Test.YtoefllklngnmeaaDoorDp9
namespace Go.Proofs.YtoefllklngnmeaaDoor
open Go.RowKit Go.Shelf
set_option linter.unusedVariables false
set_option maxRecDepth 8000
/-- The lesser of two. -/
def mnN (a b : Nat) : Nat := min a b
theorem least9_c (x y : Nat) (w : World) : Calls Tryd.prog 37 #[.int .i64 (x : Int), .int .i64 (y : Int)] w fun e w' => e = .returned (.int .i64 (mnN x y : Nat)) ∧ w = w' :=
  (least_c x y w).mono fun e w' h => ⟨h.1.trans (ret_int (by unfold mnN; split <;> omega)), h.2⟩
set_option maxHeartbeats 8000000 in
theorem depthSpec_c (l : List (Int × Int)) (x y : Int) (a : Option Addr) (len cap : Nat) (w : World) (hl : l.length = len) (h1 : len ≤ 1048576) (hA : At w.heap.size a l w) :
    Calls Tryd.prog 11 #[.slice a len cap, .agg #[.int .i64 x, .int .i64 y]] w fun e w' => e = .returned (.tuple #[.int .i64 (dpV l x y : Nat), .bool (dpOk l x y)]) ∧ Below w.heap.size w w' := by
  subst hl
  have HA := hid hA
  clear hA
  have hbw : Below w.heap.size w (w.alloc (.cells #[.int .i64 x, .int .i64 y] 30)) := by go_grown
  have k0 := box0 w x y 30
  have k1 := box1 w x y 30
  cases hG : goodL l
  · have HK := hid (show dpOk l x y = false by unfold dpOk; rw [hG]; rfl)
    go_enter Tryd.func11, Tryd.ntmps11
    go_wp2_with (go_at_call 35; refine (l2Good_c l _ _ _ _ rfl h1 ((HA.out.later hbw).mono hbw.size)).mono ?_; rw [hG]; rintro e w1 ⟨rfl, hb⟩; replace hbw := grew hbw hb)
    go_ret2
    exact ⟨ret_ib (by unfold dpV; rw [HK.out]; rfl) HK.out.symm, hbw⟩
  · cases hP : goodB x y
    · have HK := hid (show dpOk l x y = false by unfold dpOk; rw [hG, hP]; rfl)
      go_enter Tryd.func11, Tryd.ntmps11
      go_wp2_with (first
        | (go_at_call 35; refine (l2Good_c l _ _ _ _ rfl h1 ((HA.out.later hbw).mono hbw.size)).mono ?_; rw [hG]; rintro e w1 ⟨rfl, hb⟩; replace hbw := grew hbw hb; replace k0 := cell_later hb k0; replace k1 := cell_later hb k1; clear hb)
        | (go_at_call 36; refine (goodSpec_e _ _ _).mono ?_; rw [hP]; rintro e w2 ⟨rfl, hb⟩; replace hbw := grew hbw hb))
      go_ret2
      exact ⟨ret_ib (by unfold dpV; rw [HK.out]; rfl) HK.out.symm, hbw⟩
    · have HK := hid (show dpOk l x y = true by unfold dpOk; rw [hG, hP]; rfl)
      have HAG := hid (show allG l from goodL_all hG)
      have HQ := hid (show gp (x, y) from hP)
      go_enter Tryd.func11, Tryd.ntmps11
      go_wp2_with (first
        | (go_at_call 35; refine (l2Good_c l _ _ _ _ rfl h1 ((HA.out.later hbw).mono hbw.size)).mono ?_; rw [hG]; rintro e w1 ⟨rfl, hb⟩; replace hbw := grew hbw hb; replace k0 := cell_later hb k0; replace k1 := cell_later hb k1; clear hb)
        | (go_at_call 36; refine (goodSpec_e _ _ _).mono ?_; rw [hP]; rintro e w2 ⟨rfl, hb⟩; replace hbw := grew hbw hb; replace k0 := cell_later hb k0; replace k1 := cell_later hb k1; clear hb))
      clear hG hP
      go_loopw [6, 24] (fun o i wr => ∃ k : Nat, k ≤ l.length ∧ o = .int .i64 (dpN l (x, y) k : Nat) ∧ i = .int .i64 k ∧ wr.cell? ⟨w.heap.size, 0, none⟩ = some (.int .i64 x) ∧ wr.cell? ⟨w.heap.size, 1, none⟩ = some (.int .i64 y) ∧ Below w.heap.size w wr) (fun _ i _ => l.length - (intOf i).toNat)
      case atStart => exact ⟨0, Nat.zero_le _, rfl, rfl, k0, k1, hbw⟩
      case round =>
        clear k0 k1 hbw
        obtain ⟨k, hk, rfl, rfl, k0, k1, hbw⟩ := hrel
        by_cases hkl : k < l.length
        · have HH := hid (fun e => dpN_here (l := l) (q := (x, y)) (k := k) e)
          have HM := hid (fun e => dpN_more (l := l) (q := (x, y)) (k := k) e)
          have HF := hid (fun e => few_half (l := l) (q := (x, y)) (p := (px l k, py l k)) HAG.out HQ.out (HAG.out _ (pt_mem (l := l) hkl)) e (dpN l (x, y) k))
          obtain ⟨m, hm⟩ : ∃ m, dpN l (x, y) k = m := ⟨_, rfl⟩
          rw [hm] at HH HM HF ⊢
          clear hm
          obtain ⟨b, off, rfl, hbN, g0, g1⟩ := HA.out k hkl
          have q0 := cell_later hbw g0
          have q1 := cell_later hbw g1
          have hsz := hbw.size
          have hbl : b < wr.heap.size := by omega
          have hbq : w.heap.size < wr.heap.size := World.block_lt_of_cell? wr _ k0
          clear g0 g1
          obtain ⟨ux, hx⟩ : ∃ u, px l k = u := ⟨_, rfl⟩
          obtain ⟨uy, hy⟩ : ∃ u, py l k = u := ⟨_, rfl⟩
          rw [hx, hy] at HH HM HF
          rw [hx] at q0
          rw [hy] at q1
          clear hx hy
          have hi0 : (0 : Int) ≤ (k : Int) := by omega
          have hi1 : (k : Int) < (l.length : Int) := by omega
          by_cases ex : ux = x
          · by_cases ey : uy = y
            · have HV := hid (show (ux, uy) = (x, y) by rw [ex, ey])
              subst ex ey
              go_wp2
              go_roundw
              case rel => exact ⟨k + 1, by omega, by rw [HH.out HV.out], by go_num, cell_later (by go_grown) k0, cell_later (by go_grown) k1, grew hbw (by go_grown)⟩
              case measure => simp [intOf]; omega
            · have ey2 : (uy == y) = false := by simpa using ey
              have NE := hid (show ¬ (ux, uy) = (x, y) from fun e => ey (congrArg Prod.snd e))
              subst ex
              clear ey
              go_upto_region 10 with fail
              have hbX : Below wr.heap.size wr (((wr.alloc (.cells #[.int .i64 ux, .int .i64 uy] 30)).alloc (.cells #[.int .i64 (wrap64 (wrap64 (2 * ux) - ux)), .int .i64 (wrap64 (wrap64 (2 * y) - uy))] 30)).alloc (.cells #[.int .i64 1, .int .i64 (-1)] 3)) := by go_grown
              replace k0 := cell_later hbX k0
              replace k1 := cell_later hbX k1
              have k2 : (((wr.alloc (.cells #[.int .i64 ux, .int .i64 uy] 30)).alloc (.cells #[.int .i64 (wrap64 (wrap64 (2 * ux) - ux)), .int .i64 (wrap64 (wrap64 (2 * y) - uy))] 30)).alloc (.cells #[.int .i64 1, .int .i64 (-1)] 3)).cell? ⟨wr.heap.size, 0, none⟩ = some (.int .i64 ux) := by simp [go_sem]
              have k3 : (((wr.alloc (.cells #[.int .i64 ux, .int .i64 uy] 30)).alloc (.cells #[.int .i64 (wrap64 (wrap64 (2 * ux) - ux)), .int .i64 (wrap64 (wrap64 (2 * y) - uy))] 30)).alloc (.cells #[.int .i64 1, .int .i64 (-1)] 3)).cell? ⟨wr.heap.size, 1, none⟩ = some (.int .i64 uy) := by simp [go_sem]
              have k4 : (((wr.alloc (.cells #[.int .i64 ux, .int .i64 uy] 30)).alloc (.cells #[.int .i64 (wrap64 (wrap64 (2 * ux) - ux)), .int .i64 (wrap64 (wrap64 (2 * y) - uy))] 30)).alloc (.cells #[.int .i64 1, .int .i64 (-1)] 3)).cell? ⟨wr.heap.size + 1, 0, none⟩ = some (.int .i64 (wrap64 (wrap64 (2 * ux) - ux))) := by simp [go_sem]
              have k5 : (((wr.alloc (.cells #[.int .i64 ux, .int .i64 uy] 30)).alloc (.cells #[.int .i64 (wrap64 (wrap64 (2 * ux) - ux)), .int .i64 (wrap64 (wrap64 (2 * y) - uy))] 30)).alloc (.cells #[.int .i64 1, .int .i64 (-1)] 3)).cell? ⟨wr.heap.size + 1, 1, none⟩ = some (.int .i64 (wrap64 (wrap64 (2 * y) - uy))) := by simp [go_sem]
              have k6 : (((wr.alloc (.cells #[.int .i64 ux, .int .i64 uy] 30)).alloc (.cells #[.int .i64 (wrap64 (wrap64 (2 * ux) - ux)), .int .i64 (wrap64 (wrap64 (2 * y) - uy))] 30)).alloc (.cells #[.int .i64 1, .int .i64 (-1)] 3)).cell? ⟨wr.heap.size + 1 + 1, 0, none⟩ = some (.int .i64 1) := by simp [go_sem]
              have k7 : (((wr.alloc (.cells #[.int .i64 ux, .int .i64 uy] 30)).alloc (.cells #[.int .i64 (wrap64 (wrap64 (2 * ux) - ux)), .int .i64 (wrap64 (wrap64 (2 * y) - uy))] 30)).alloc (.cells #[.int .i64 1, .int .i64 (-1)] 3)).cell? ⟨wr.heap.size + 1 + 1, 1, none⟩ = some (.int .i64 (-1)) := by simp [go_sem]
              replace hbw := grew hbw hbX
              clear hbX q0 q1
              generalize (((wr.alloc (.cells #[.int .i64 ux, .int .i64 uy] 30)).alloc (.cells #[.int .i64 (wrap64 (wrap64 (2 * ux) - ux)), .int .i64 (wrap64 (wrap64 (2 * y) - uy))] 30)).alloc (.cells #[.int .i64 1, .int .i64 (-1)] 3)) = wb at *
              refine wp_loop_rounds 3 ?_
              rw [rounds_succ]
              go_wp2_with (first | (go_at_call 38; refine (half_c l _ _ _ _ _ _ _ _ _ rfl h1 ((HA.out.later hbw).mono hbw.size)).mono ?_; rintro e w1 ⟨rfl, hb⟩; replace hbw := grew hbw hb; replace k0 := cell_later hb k0; replace k1 := cell_later hb k1; replace k2 := cell_later hb k2; replace k3 := cell_later hb k3; replace k4 := cell_later hb k4; replace k5 := cell_later hb k5; replace k6 := cell_later hb k6; replace k7 := cell_later hb k7; clear hb) | (go_at_call 37; refine (least9_c _ _ _).mono ?_; rintro e w1 ⟨rfl, rfl⟩))
              rw [rounds_succ]
              go_wp2_with (first | (go_at_call 38; refine (half_c l _ _ _ _ _ _ _ _ _ rfl h1 ((HA.out.later hbw).mono hbw.size)).mono ?_; rintro e w1 ⟨rfl, hb⟩; replace hbw := grew hbw hb; replace k0 := cell_later hb k0; replace k1 := cell_later hb k1; replace k2 := cell_later hb k2; replace k3 := cell_later hb k3; replace k4 := cell_later hb k4; replace k5 := cell_later hb k5; replace k6 := cell_later hb k6; replace k7 := cell_later hb k7; clear hb) | (go_at_call 37; refine (least9_c _ _ _).mono ?_; rintro e w1 ⟨rfl, rfl⟩))
              rw [rounds_succ]
              go_wp2_with (first | (go_at_call 38; refine (half_c l _ _ _ _ _ _ _ _ _ rfl h1 ((HA.out.later hbw).mono hbw.size)).mono ?_; rintro e w1 ⟨rfl, hb⟩; replace hbw := grew hbw hb; replace k0 := cell_later hb k0; replace k1 := cell_later hb k1; replace k2 := cell_later hb k2; replace k3 := cell_later hb k3; replace k4 := cell_later hb k4; replace k5 := cell_later hb k5; replace k6 := cell_later hb k6; replace k7 := cell_later hb k7; clear hb) | (go_at_call 37; refine (least9_c _ _ _).mono ?_; rintro e w1 ⟨rfl, rfl⟩))
              go_roundw
              case rel => exact ⟨k + 1, by omega, by rw [HM.out NE.out, ← HF.out NE.out]; rfl, by go_num, k0, k1, hbw⟩
              case measure => simp [intOf]; omega
          · have ex2 : (ux == x) = false := by simpa using ex
            have NE := hid (show ¬ (ux, uy) = (x, y) from fun e => ex (congrArg Prod.fst e))
            clear ex
            go_upto_region 10 with fail
            have hbX : Below wr.heap.size wr (((wr.alloc (.cells #[.int .i64 ux, .int .i64 uy] 30)).alloc (.cells #[.int .i64 (wrap64 (wrap64 (2 * x) - ux)), .int .i64 (wrap64 (wrap64 (2 * y) - uy))] 30)).alloc (.cells #[.int .i64 1, .int .i64 (-1)] 3)) := by go_grown
            replace k0 := cell_later hbX k0
            replace k1 := cell_later hbX k1
            have k2 : (((wr.alloc (.cells #[.int .i64 ux, .int .i64 uy] 30)).alloc (.cells #[.int .i64 (wrap64 (wrap64 (2 * x) - ux)), .int .i64 (wrap64 (wrap64 (2 * y) - uy))] 30)).alloc (.cells #[.int .i64 1, .int .i64 (-1)] 3)).cell? ⟨wr.heap.size, 0, none⟩ = some (.int .i64 ux) := by simp [go_sem]
            have k3 : (((wr.alloc (.cells #[.int .i64 ux, .int .i64 uy] 30)).alloc (.cells #[.int .i64 (wrap64 (wrap64 (2 * x) - ux)), .int .i64 (wrap64 (wrap64 (2 * y) - uy))] 30)).alloc (.cells #[.int .i64 1, .int .i64 (-1)] 3)).cell? ⟨wr.heap.size, 1, none⟩ = some (.int .i64 uy) := by simp [go_sem]
            have k4 : (((wr.alloc (.cells #[.int .i64 ux, .int .i64 uy] 30)).alloc (.cells #[.int .i64 (wrap64 (wrap64 (2 * x) - ux)), .int .i64 (wrap64 (wrap64 (2 * y) - uy))] 30)).alloc (.cells #[.int .i64 1, .int .i64 (-1)] 3)).cell? ⟨wr.heap.size + 1, 0, none⟩ = some (.int .i64 (wrap64 (wrap64 (2 * x) - ux))) := by simp [go_sem]
            have k5 : (((wr.alloc (.cells #[.int .i64 ux, .int .i64 uy] 30)).alloc (.cells #[.int .i64 (wrap64 (wrap64 (2 * x) - ux)), .int .i64 (wrap64 (wrap64 (2 * y) - uy))] 30)).alloc (.cells #[.int .i64 1, .int .i64 (-1)] 3)).cell? ⟨wr.heap.size + 1, 1, none⟩ = some (.int .i64 (wrap64 (wrap64 (2 * y) - uy))) := by simp [go_sem]
            have k6 : (((wr.alloc (.cells #[.int .i64 ux, .int .i64 uy] 30)).alloc (.cells #[.int .i64 (wrap64 (wrap64 (2 * x) - ux)), .int .i64 (wrap64 (wrap64 (2 * y) - uy))] 30)).alloc (.cells #[.int .i64 1, .int .i64 (-1)] 3)).cell? ⟨wr.heap.size + 1 + 1, 0, none⟩ = some (.int .i64 1) := by simp [go_sem]
            have k7 : (((wr.alloc (.cells #[.int .i64 ux, .int .i64 uy] 30)).alloc (.cells #[.int .i64 (wrap64 (wrap64 (2 * x) - ux)), .int .i64 (wrap64 (wrap64 (2 * y) - uy))] 30)).alloc (.cells #[.int .i64 1, .int .i64 (-1)] 3)).cell? ⟨wr.heap.size + 1 + 1, 1, none⟩ = some (.int .i64 (-1)) := by simp [go_sem]
            replace hbw := grew hbw hbX
            clear hbX q0 q1
            generalize (((wr.alloc (.cells #[.int .i64 ux, .int .i64 uy] 30)).alloc (.cells #[.int .i64 (wrap64 (wrap64 (2 * x) - ux)), .int .i64 (wrap64 (wrap64 (2 * y) - uy))] 30)).alloc (.cells #[.int .i64 1, .int .i64 (-1)] 3)) = wb at *
            refine wp_loop_rounds 3 ?_
            rw [rounds_succ]
            go_wp2_with (first | (go_at_call 38; refine (half_c l _ _ _ _ _ _ _ _ _ rfl h1 ((HA.out.later hbw).mono hbw.size)).mono ?_; rintro e w1 ⟨rfl, hb⟩; replace hbw := grew hbw hb; replace k0 := cell_later hb k0; replace k1 := cell_later hb k1; replace k2 := cell_later hb k2; replace k3 := cell_later hb k3; replace k4 := cell_later hb k4; replace k5 := cell_later hb k5; replace k6 := cell_later hb k6; replace k7 := cell_later hb k7; clear hb) | (go_at_call 37; refine (least9_c _ _ _).mono ?_; rintro e w1 ⟨rfl, rfl⟩))
            rw [rounds_succ]
            go_wp2_with (first | (go_at_call 38; refine (half_c l _ _ _ _ _ _ _ _ _ rfl h1 ((HA.out.later hbw).mono hbw.size)).mono ?_; rintro e w1 ⟨rfl, hb⟩; replace hbw := grew hbw hb; replace k0 := cell_later hb k0; replace k1 := cell_later hb k1; replace k2 := cell_later hb k2; replace k3 := cell_later hb k3; replace k4 := cell_later hb k4; replace k5 := cell_later hb k5; replace k6 := cell_later hb k6; replace k7 := cell_later hb k7; clear hb) | (go_at_call 37; refine (least9_c _ _ _).mono ?_; rintro e w1 ⟨rfl, rfl⟩))
            rw [rounds_succ]
            go_wp2_with (first | (go_at_call 38; refine (half_c l _ _ _ _ _ _ _ _ _ rfl h1 ((HA.out.later hbw).mono hbw.size)).mono ?_; rintro e w1 ⟨rfl, hb⟩; replace hbw := grew hbw hb; replace k0 := cell_later hb k0; replace k1 := cell_later hb k1; replace k2 := cell_later hb k2; replace k3 := cell_later hb k3; replace k4 := cell_later hb k4; replace k5 := cell_later hb k5; replace k6 := cell_later hb k6; replace k7 := cell_later hb k7; clear hb) | (go_at_call 37; refine (least9_c _ _ _).mono ?_; rintro e w1 ⟨rfl, rfl⟩))
            go_roundw
            case rel => exact ⟨k + 1, by omega, by rw [HM.out NE.out, ← HF.out NE.out]; rfl, by go_num, k0, k1, hbw⟩
            case measure => simp [intOf]; omega
        · obtain rfl : k = l.length := by omega
          go_wp2
          go_ret2
          exact ⟨ret_ib (by unfold dpV; rw [HK.out]; rfl) HK.out.symm, hbw⟩
end Go.Proofs.YtoefllklngnmeaaDoor
