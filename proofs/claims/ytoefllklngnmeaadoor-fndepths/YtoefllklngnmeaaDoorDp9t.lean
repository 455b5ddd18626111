/-
  The depth of a point, the program's (contract for the walks).
  Conditions: as each theorem states them.
-/
import Derived.Test.YtoefllklngnmeaaDoorDp9i
namespace Go.Proofs.YtoefllklngnmeaaDoor
open Go.RowKit Go.Shelf
set_option linter.unusedVariables false
set_option maxRecDepth 8000
set_option maxHeartbeats 8000000 in
theorem depthImpl_c (l : List (Int × Int)) (x y : Int) (a : Option Addr) (len cap : Nat) (w : World) (hl : l.length = len) (h1 : len ≤ 1048576) (hA : At w.heap.size a l w) (c0 : w.cell? ⟨0, 0, none⟩ = some (.int .i64 1000000)) :
    Calls Tryd.prog 14 #[.slice a len cap, .agg #[.int .i64 x, .int .i64 y]] w fun e w' => e = .returned (.tuple #[.int .i64 (dpV l x y : Nat), .bool (dpOk l x y)]) ∧ Below w.heap.size w w' := by
  subst hl
  have HA := hid hA
  have C0 := hid c0
  clear hA c0
  have hbw : Below w.heap.size w (w.alloc (.cells #[.int .i64 x, .int .i64 y] 30)) := by go_grown
  have k0 := box0 w x y 30
  have k1 := box1 w x y 30
  cases hG : goodL l
  · have HK := hid (show dpOk l x y = false by unfold dpOk; rw [hG]; rfl)
    go_enter Tryd.func14, Tryd.ntmps14
    go_wp2_with (go_at_call 39; refine (goodSetImpl_c l _ _ _ _ rfl h1 ((HA.out.later hbw).mono hbw.size) (cell_later hbw C0.out)).mono ?_; rw [hG]; rintro e w1 ⟨rfl, hb⟩; replace hbw := grew hbw hb; replace k0 := cell_later hb k0; replace k1 := cell_later hb k1; clear hb)
    go_ret2
    exact ⟨ret_ib (by unfold dpV; rw [HK.out]; rfl) HK.out.symm, hbw⟩
  · cases hP : goodB x y
    · have HK := hid (show dpOk l x y = false by unfold dpOk; rw [hG, hP]; rfl)
      go_enter Tryd.func14, Tryd.ntmps14
      go_wp2_with (first | (go_at_call 39; refine (goodSetImpl_c l _ _ _ _ rfl h1 ((HA.out.later hbw).mono hbw.size) (cell_later hbw C0.out)).mono ?_; rw [hG]; rintro e w1 ⟨rfl, hb⟩; replace hbw := grew hbw hb; replace k0 := cell_later hb k0; replace k1 := cell_later hb k1; clear hb) | (go_at_call 40; refine (goodImpl_e _ _ _ (cell_later hbw C0.out)).mono ?_; rw [hP]; rintro e w2 ⟨rfl, hb⟩; replace hbw := grew hbw hb; replace k0 := cell_later hb k0; replace k1 := cell_later hb k1; clear hb))
      go_ret2
      exact ⟨ret_ib (by unfold dpV; rw [HK.out]; rfl) HK.out.symm, hbw⟩
    · have HK := hid (show dpOk l x y = true by unfold dpOk; rw [hG, hP]; rfl)
      go_enter Tryd.func14, Tryd.ntmps14
      go_wp2_with (first | (go_at_call 39; refine (goodSetImpl_c l _ _ _ _ rfl h1 ((HA.out.later hbw).mono hbw.size) (cell_later hbw C0.out)).mono ?_; rw [hG]; rintro e w1 ⟨rfl, hb⟩; replace hbw := grew hbw hb; replace k0 := cell_later hb k0; replace k1 := cell_later hb k1; clear hb) | (go_at_call 40; refine (goodImpl_e _ _ _ (cell_later hbw C0.out)).mono ?_; rw [hP]; rintro e w2 ⟨rfl, hb⟩; replace hbw := grew hbw hb; replace k0 := cell_later hb k0; replace k1 := cell_later hb k1; clear hb))
      clear hG hP
      go_loopw [6, 21] (fun o i wr => ∃ k : Nat, k ≤ l.length ∧ o = .int .i64 (dpN l (x, y) k : Nat) ∧ i = .int .i64 k ∧ wr.cell? ⟨w.heap.size, 0, none⟩ = some (.int .i64 x) ∧ wr.cell? ⟨w.heap.size, 1, none⟩ = some (.int .i64 y) ∧ Below w.heap.size w wr) (fun _ i _ => l.length - (intOf i).toNat)
      case atStart => exact ⟨0, Nat.zero_le _, rfl, rfl, k0, k1, hbw⟩
      case round =>
        clear k0 k1 hbw
        obtain ⟨k, hk, rfl, rfl, k0, k1, hbw⟩ := hrel
        by_cases hkl : k < l.length
        · have HH := hid (fun e => dpN_here (l := l) (q := (x, y)) (k := k) e)
          have HM := hid (fun e => dpN_more (l := l) (q := (x, y)) (k := k) e)
          obtain ⟨m, hm⟩ : ∃ m, dpN l (x, y) k = m := ⟨_, rfl⟩
          rw [hm] at HH HM ⊢
          clear hm
          obtain ⟨b, off, rfl, hbN, g0, g1⟩ := HA.out k hkl
          have q0 := cell_later hbw g0
          have q1 := cell_later hbw g1
          have hsz := hbw.size
          have hbl : b < wr.heap.size := by omega
          have hbq : w.heap.size < wr.heap.size := World.block_lt_of_cell? wr _ k0
          clear g0 g1
          obtain ⟨ux, hx⟩ : ∃ u, px l k = u := ⟨_, rfl⟩
          obtain ⟨uy, hy⟩ : ∃ u, py l k = u := ⟨_, rfl⟩
          rw [hx, hy] at HH HM
          rw [hx] at q0
          rw [hy] at q1
          clear hx hy
          have B0 := hid (Nat.le_trans (cnt_le l (x, y) (ux, uy) 0) h1)
          have B1 := hid (Nat.le_trans (cnt_le l (x, y) (ux, uy) 1) h1)
          have B2 := hid (Nat.le_trans (cnt_le l (x, y) (ux, uy) 2) h1)
          have B3 := hid (Nat.le_trans (cnt_le l (x, y) (ux, uy) 3) h1)
          have B4 := hid (Nat.le_trans (cnt_le l (x, y) (ux, uy) 4) h1)
          obtain ⟨f, hf⟩ : ∃ f, fewN l (x, y) (ux, uy) = f := ⟨_, rfl⟩
          have HFE := hid (show cnt l (x, y) (ux, uy) 0 + min (cnt l (x, y) (ux, uy) 1) (cnt l (x, y) (ux, uy) 2) + min (cnt l (x, y) (ux, uy) 3) (cnt l (x, y) (ux, uy) 4) = f from hf)
          rw [hf] at HM
          clear hf
          have hi0 : (0 : Int) ≤ (k : Int) := by omega
          have hi1 : (k : Int) < (l.length : Int) := by omega
          have hbX : Below wr.heap.size wr (wr.alloc (.cells #[.int .i64 ux, .int .i64 uy] 30)) := by go_grown
          have HBX := hid (grew hbw hbX)
          have R0 := hid (cell_later hbX k0)
          have R1 := hid (cell_later hbX k1)
          clear hbX
          by_cases ex : ux = x
          · by_cases ey : uy = y
            · have HV := hid (show (ux, uy) = (x, y) by rw [ex, ey])
              subst ex ey
              go_wp2
              go_roundw
              case rel => exact ⟨k + 1, by omega, by rw [HH.out HV.out], by go_num, R0.out, R1.out, HBX.out⟩
              case measure => simp [intOf]; omega
            · have ey2 : (uy == y) = false := by simpa using ey
              have NE := hid (show ¬ (ux, uy) = (x, y) from fun e => ey (congrArg Prod.snd e))
              subst ex
              clear ey
              clear hbw
              by_cases hmf : (f : Int) < (m : Int)
              · have HMF := hid (show min m f = f by omega)
                go_wp2_with (first | (go_at_call 41; refine (viewOf_c l _ _ _ _ _ _ _ _ rfl h1 ((HA.out.later HBX.out).mono HBX.out.size) (cell_later HBX.out C0.out)).mono ?_; rintro e w1 ⟨rfl, hb⟩; have HB1 := hid (grew HBX.out hb); replace k0 := cell_later hb R0.out; replace k1 := cell_later hb R1.out; clear hb q0 q1) | (go_at_call 42; refine (few_c _ _ _ _ _ _ B0.out B1.out B2.out B3.out B4.out).mono ?_; rw [HFE.out]; rintro e w2 ⟨rfl, hb⟩; have HB2 := hid (grew HB1.out hb); replace k0 := cell_later hb k0; replace k1 := cell_later hb k1; clear hb))
                go_roundw
                case rel => exact ⟨k + 1, by omega, by rw [HM.out NE.out, HMF.out]; exact congrArg (Value.int .i64) (by omega), by go_num, k0, k1, HB2.out⟩
                case measure => simp [intOf]; omega
              · have HMF := hid (show min m f = m by omega)
                go_wp2_with (first | (go_at_call 41; refine (viewOf_c l _ _ _ _ _ _ _ _ rfl h1 ((HA.out.later HBX.out).mono HBX.out.size) (cell_later HBX.out C0.out)).mono ?_; rintro e w1 ⟨rfl, hb⟩; have HB1 := hid (grew HBX.out hb); replace k0 := cell_later hb R0.out; replace k1 := cell_later hb R1.out; clear hb q0 q1) | (go_at_call 42; refine (few_c _ _ _ _ _ _ B0.out B1.out B2.out B3.out B4.out).mono ?_; rw [HFE.out]; rintro e w2 ⟨rfl, hb⟩; have HB2 := hid (grew HB1.out hb); replace k0 := cell_later hb k0; replace k1 := cell_later hb k1; clear hb))
                go_roundw
                case rel => exact ⟨k + 1, by omega, by rw [HM.out NE.out, HMF.out]; exact congrArg (Value.int .i64) (by omega), by go_num, k0, k1, HB2.out⟩
                case measure => simp [intOf]; omega
          · have ex2 : (ux == x) = false := by simpa using ex
            have NE := hid (show ¬ (ux, uy) = (x, y) from fun e => ex (congrArg Prod.fst e))
            clear ex
            clear hbw
            by_cases hmf : (f : Int) < (m : Int)
            · have HMF := hid (show min m f = f by omega)
              go_wp2_with (first | (go_at_call 41; refine (viewOf_c l _ _ _ _ _ _ _ _ rfl h1 ((HA.out.later HBX.out).mono HBX.out.size) (cell_later HBX.out C0.out)).mono ?_; rintro e w1 ⟨rfl, hb⟩; have HB1 := hid (grew HBX.out hb); replace k0 := cell_later hb R0.out; replace k1 := cell_later hb R1.out; clear hb q0 q1) | (go_at_call 42; refine (few_c _ _ _ _ _ _ B0.out B1.out B2.out B3.out B4.out).mono ?_; rw [HFE.out]; rintro e w2 ⟨rfl, hb⟩; have HB2 := hid (grew HB1.out hb); replace k0 := cell_later hb k0; replace k1 := cell_later hb k1; clear hb))
              go_roundw
              case rel => exact ⟨k + 1, by omega, by rw [HM.out NE.out, HMF.out]; exact congrArg (Value.int .i64) (by omega), by go_num, k0, k1, HB2.out⟩
              case measure => simp [intOf]; omega
            · have HMF := hid (show min m f = m by omega)
              go_wp2_with (first | (go_at_call 41; refine (viewOf_c l _ _ _ _ _ _ _ _ rfl h1 ((HA.out.later HBX.out).mono HBX.out.size) (cell_later HBX.out C0.out)).mono ?_; rintro e w1 ⟨rfl, hb⟩; have HB1 := hid (grew HBX.out hb); replace k0 := cell_later hb R0.out; replace k1 := cell_later hb R1.out; clear hb q0 q1) | (go_at_call 42; refine (few_c _ _ _ _ _ _ B0.out B1.out B2.out B3.out B4.out).mono ?_; rw [HFE.out]; rintro e w2 ⟨rfl, hb⟩; have HB2 := hid (grew HB1.out hb); replace k0 := cell_later hb k0; replace k1 := cell_later hb k1; clear hb))
              go_roundw
              case rel => exact ⟨k + 1, by omega, by rw [HM.out NE.out, HMF.out]; exact congrArg (Value.int .i64) (by omega), by go_num, k0, k1, HB2.out⟩
              case measure => simp [intOf]; omega
        · obtain rfl : k = l.length := by omega
          go_wp2
          go_ret2
          exact ⟨ret_ib (by unfold dpV; rw [HK.out]; rfl) HK.out.symm, hbw⟩
end Go.Proofs.YtoefllklngnmeaaDoor
