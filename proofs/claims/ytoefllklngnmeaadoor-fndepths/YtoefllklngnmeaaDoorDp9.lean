/-
  The points in a half plane, counted as the specification does (contracts for the walks).
  Conditions: as each theorem states them.
-/
import Derived.Test.YtoefllklngnmeaaDoorDpMath
namespace Go.Proofs.YtoefllklngnmeaaDoor
open Go.RowKit Go.Shelf
set_option linter.unusedVariables false
set_option maxRecDepth 8000
theorem take_snoc9 {l : List (Int × Int)} {k : Nat} (h : k < l.length) : l.take (k + 1) = l.take k ++ [(px l k, py l k)] := by
  have e : (px l k, py l k) = l[k] := by simp [px, py, h]
  rw [e, List.take_add_one, List.getElem?_eq_getElem h]; rfl
theorem half_yes {l : List (Int × Int)} {q p : Int × Int} {on : Int} {k : Nat} (h : k < l.length) (e : hvB q p on (px l k, py l k) = true) : halfN (l.take (k + 1)) q p on = halfN (l.take k) q p on + 1 := by
  unfold halfN; rw [take_snoc9 h, List.countP_append]; simp [e]
theorem half_no {l : List (Int × Int)} {q p : Int × Int} {on : Int} {k : Nat} (h : k < l.length) (e : hvB q p on (px l k, py l k) = false) : halfN (l.take (k + 1)) q p on = halfN (l.take k) q p on := by
  unfold halfN; rw [take_snoc9 h, List.countP_append]; simp [e]
theorem half_le (l : List (Int × Int)) (q p : Int × Int) (on : Int) : halfN l q p on ≤ l.length := List.countP_le_length
theorem least_c (x y : Int) (w : World) : Calls Tryd.prog 37 #[.int .i64 x, .int .i64 y] w fun e w' => e = .returned (.int .i64 (if x < y then x else y)) ∧ w = w' := by
  by_cases h : x < y
  · go_enter Tryd.func37, Tryd.ntmps37
    go_wp2
    go_ret
    exact ⟨ret_int (by first | rfl | (split <;> omega)), rfl⟩
  · go_enter Tryd.func37, Tryd.ntmps37
    go_wp2
    go_ret
    exact ⟨ret_int (by first | rfl | (split <;> omega)), rfl⟩
set_option maxHeartbeats 8000000 in
theorem half_c (l : List (Int × Int)) (q0 q1 p0 p1 on : Int) (a : Option Addr) (len cap : Nat) (w : World) (hl : l.length = len) (h1 : len ≤ 1048576) (hA : At w.heap.size a l w) :
    Calls Tryd.prog 38 #[.slice a len cap, .agg #[.int .i64 q0, .int .i64 q1], .agg #[.int .i64 p0, .int .i64 p1], .int .i64 on] w fun e w' => e = .returned (.int .i64 (halfN l (q0, q1) (p0, p1) on : Nat)) ∧ Below w.heap.size w w' := by
  subst hl
  have HA := hid hA
  clear hA
  have hbw : Below w.heap.size w (((w.alloc (.cells #[.int .i64 q0, .int .i64 q1] 30)).alloc (.cells #[.int .i64 p0, .int .i64 p1] 30)).alloc (.cells #[.int .i64 (wrap64 (p0 - q0)), .int .i64 (wrap64 (p1 - q1))] 30)) := by go_grown
  go_enter Tryd.func38, Tryd.ntmps38
  go_wp2
  go_loopw [10, 27] (fun o i wr => ∃ k : Nat, k ≤ l.length ∧ o = .int .i64 (halfN (l.take k) (q0, q1) (p0, p1) on : Nat) ∧ i = .int .i64 k ∧ wr.cell? ⟨w.heap.size, 0, none⟩ = some (.int .i64 q0) ∧ wr.cell? ⟨w.heap.size, 1, none⟩ = some (.int .i64 q1) ∧ wr.cell? ⟨w.heap.size + 1, 0, none⟩ = some (.int .i64 p0) ∧ wr.cell? ⟨w.heap.size + 1, 1, none⟩ = some (.int .i64 p1) ∧ wr.cell? ⟨w.heap.size + 1 + 1, 0, none⟩ = some (.int .i64 (wrap64 (p0 - q0))) ∧ wr.cell? ⟨w.heap.size + 1 + 1, 1, none⟩ = some (.int .i64 (wrap64 (p1 - q1))) ∧ Below w.heap.size w wr) (fun _ i _ => l.length - (intOf i).toNat)
  case atStart => exact ⟨0, Nat.zero_le _, by simp [halfN], rfl, by simp [go_sem], by simp [go_sem], by simp [go_sem], by simp [go_sem], by simp [go_sem], by simp [go_sem], hbw⟩
  case round =>
    clear hbw
    obtain ⟨k, hk, rfl, rfl, r0, r1, r2, r3, r4, r5, hbw⟩ := hrel
    by_cases hkl : k < l.length
    · have HY := hid (fun e => half_yes (l := l) (q := (q0, q1)) (p := (p0, p1)) (on := on) hkl e)
      have HNO := hid (fun e => half_no (l := l) (q := (q0, q1)) (p := (p0, p1)) (on := on) hkl e)
      have hH : halfN (l.take k) (q0, q1) (p0, p1) on ≤ k := Nat.le_trans (half_le _ _ _ _) (by rw [List.length_take]; omega)
      obtain ⟨m, hm⟩ : ∃ m, halfN (l.take k) (q0, q1) (p0, p1) on = m := ⟨_, rfl⟩
      rw [hm] at hH HY HNO ⊢
      clear hm
      obtain ⟨b, off, rfl, hbN, g0, g1⟩ := HA.out k hkl
      have q0' := cell_later hbw g0
      have q1' := cell_later hbw g1
      have hsz := hbw.size
      have hbl : b < wr.heap.size := by omega
      have hbq : w.heap.size + 1 + 1 < wr.heap.size := World.block_lt_of_cell? wr _ r4
      have hbq1 : w.heap.size + 1 < wr.heap.size := by omega
      have hbq0 : w.heap.size < wr.heap.size := by omega
      clear g0 g1
      obtain ⟨ux, hx⟩ : ∃ u, px l k = u := ⟨_, rfl⟩
      obtain ⟨uy, hy⟩ : ∃ u, py l k = u := ⟨_, rfl⟩
      rw [hx, hy] at HY HNO
      rw [hx] at q0'
      rw [hy] at q1'
      clear hx hy
      have hi0 : (0 : Int) ≤ (k : Int) := by omega
      have hi1 : (k : Int) < (l.length : Int) := by omega
      have hbX : Below wr.heap.size wr (wr.alloc (.cells #[.int .i64 ux, .int .i64 uy] 30)) := by go_grown
      have HBX := hid (grew hbw hbX)
      have R0 := hid (cell_later hbX r0)
      have R1 := hid (cell_later hbX r1)
      have R2 := hid (cell_later hbX r2)
      have R3 := hid (cell_later hbX r3)
      have R4 := hid (cell_later hbX r4)
      have R5 := hid (cell_later hbX r5)
      have K0 := hid (box0 wr ux uy 30)
      have K1 := hid (box1 wr ux uy 30)
      clear hbX hbw
      by_cases ex : ux = q0
      · by_cases ey : uy = q1
        · have HV := hid (show hvB (q0, q1) (p0, p1) on (ux, uy) = true by rw [ex, ey]; unfold hvB; simp)
          subst ex ey
          go_wp2_with (first | (go_at_call 60; refine (side_c _ _ _ _ _ _ _).mono ?_; rintro e w1 ⟨rfl, hb⟩; have s0 := cell_later hb R0.out; have s1 := cell_later hb R1.out; have s2 := cell_later hb R2.out; have s3 := cell_later hb R3.out; have s4 := cell_later hb R4.out; have s5 := cell_later hb R5.out; have k0 := cell_later hb K0.out; have k1 := cell_later hb K1.out; have HB1 := hid (grew HBX.out hb); clear hb r0 r1 r2 r3 r4 r5 q0' q1'))
          go_roundw
          case rel => exact ⟨k + 1, by omega, by rw [HY.out (HV.out)]; go_num, by go_num, s0, s1, s2, s3, s4, s5, HB1.out⟩
          case measure => simp [intOf]; omega
        · have ey2 : (uy == q1) = false := by simpa using ey
          have NE := hid (show ¬ (ux, uy) = (q0, q1) from fun e => ey (congrArg Prod.snd e))
          subst ex
          clear ey
          by_cases hS : 0 < sg (crossW ux q1 p0 p1 ux uy)
          · have HV := hid (show hvB (ux, q1) (p0, p1) on (ux, uy) = true by unfold hvB; rw [decide_eq_true hS]; simp)
            go_wp2_with (first | (go_at_call 60; refine (side_c _ _ _ _ _ _ _).mono ?_; rintro e w1 ⟨rfl, hb⟩; have s0 := cell_later hb R0.out; have s1 := cell_later hb R1.out; have s2 := cell_later hb R2.out; have s3 := cell_later hb R3.out; have s4 := cell_later hb R4.out; have s5 := cell_later hb R5.out; have k0 := cell_later hb K0.out; have k1 := cell_later hb K1.out; have HB1 := hid (grew HBX.out hb); clear hb r0 r1 r2 r3 r4 r5 q0' q1'))
            go_roundw
            case rel => exact ⟨k + 1, by omega, by rw [HY.out (HV.out)]; go_num, by go_num, s0, s1, s2, s3, s4, s5, HB1.out⟩
            case measure => simp [intOf]; omega
          · by_cases h0 : sg (crossW ux q1 p0 p1 ux uy) = 0
            · by_cases hO : sg (dotW (wrap64 (p0 - ux)) (wrap64 (p1 - q1)) ux q1 ux uy) = on
              · have HV := hid (show hvB (ux, q1) (p0, p1) on (ux, uy) = true by unfold hvB; rw [decide_eq_true h0, decide_eq_true hO]; simp)
                go_wp2_with (first | (go_at_call 60; refine (side_c _ _ _ _ _ _ _).mono ?_; rintro e w1 ⟨rfl, hb⟩; have s0 := cell_later hb R0.out; have s1 := cell_later hb R1.out; have s2 := cell_later hb R2.out; have s3 := cell_later hb R3.out; have s4 := cell_later hb R4.out; have s5 := cell_later hb R5.out; have k0 := cell_later hb K0.out; have k1 := cell_later hb K1.out; have HB1 := hid (grew HBX.out hb); clear hb r0 r1 r2 r3 r4 r5 q0' q1') | (go_at_call 62; refine (dot_c _ _ _ _ _ _ _).mono ?_; rintro e w2 ⟨rfl, hb⟩; have t0 := cell_later hb s0; have t1 := cell_later hb s1; have t2 := cell_later hb s2; have t3 := cell_later hb s3; have t4 := cell_later hb s4; have t5 := cell_later hb s5; have HB2 := hid (grew HB1.out hb); clear hb s0 s1 s2 s3 s4 s5 k0 k1) | (go_at_call 61; refine (signSpec_c _ _).mono ?_; rintro e w3 ⟨rfl, rfl⟩))
                go_roundw
                case rel => exact ⟨k + 1, by omega, by rw [HY.out (HV.out)]; go_num, by go_num, t0, t1, t2, t3, t4, t5, HB2.out⟩
                case measure => simp [intOf]; omega
              · have HV := hid (show hvB (ux, q1) (p0, p1) on (ux, uy) = false by unfold hvB; rw [decide_eq_false hS, decide_eq_false hO, decide_eq_false NE.out]; simp)
                go_wp2_with (first | (go_at_call 60; refine (side_c _ _ _ _ _ _ _).mono ?_; rintro e w1 ⟨rfl, hb⟩; have s0 := cell_later hb R0.out; have s1 := cell_later hb R1.out; have s2 := cell_later hb R2.out; have s3 := cell_later hb R3.out; have s4 := cell_later hb R4.out; have s5 := cell_later hb R5.out; have k0 := cell_later hb K0.out; have k1 := cell_later hb K1.out; have HB1 := hid (grew HBX.out hb); clear hb r0 r1 r2 r3 r4 r5 q0' q1') | (go_at_call 62; refine (dot_c _ _ _ _ _ _ _).mono ?_; rintro e w2 ⟨rfl, hb⟩; have t0 := cell_later hb s0; have t1 := cell_later hb s1; have t2 := cell_later hb s2; have t3 := cell_later hb s3; have t4 := cell_later hb s4; have t5 := cell_later hb s5; have HB2 := hid (grew HB1.out hb); clear hb s0 s1 s2 s3 s4 s5 k0 k1) | (go_at_call 61; refine (signSpec_c _ _).mono ?_; rintro e w3 ⟨rfl, rfl⟩))
                go_roundw
                case rel => exact ⟨k + 1, by omega, by rw [HNO.out (HV.out)], by go_num, t0, t1, t2, t3, t4, t5, HB2.out⟩
                case measure => simp [intOf]; omega
            · have HV := hid (show hvB (ux, q1) (p0, p1) on (ux, uy) = false by unfold hvB; rw [decide_eq_false hS, decide_eq_false h0, decide_eq_false NE.out]; simp)
              go_wp2_with (first | (go_at_call 60; refine (side_c _ _ _ _ _ _ _).mono ?_; rintro e w1 ⟨rfl, hb⟩; have s0 := cell_later hb R0.out; have s1 := cell_later hb R1.out; have s2 := cell_later hb R2.out; have s3 := cell_later hb R3.out; have s4 := cell_later hb R4.out; have s5 := cell_later hb R5.out; have k0 := cell_later hb K0.out; have k1 := cell_later hb K1.out; have HB1 := hid (grew HBX.out hb); clear hb r0 r1 r2 r3 r4 r5 q0' q1'))
              go_roundw
              case rel => exact ⟨k + 1, by omega, by rw [HNO.out (HV.out)], by go_num, s0, s1, s2, s3, s4, s5, HB1.out⟩
              case measure => simp [intOf]; omega
      · have ex2 : (ux == q0) = false := by simpa using ex
        have NE := hid (show ¬ (ux, uy) = (q0, q1) from fun e => ex (congrArg Prod.fst e))
        clear ex
        by_cases hS : 0 < sg (crossW q0 q1 p0 p1 ux uy)
        · have HV := hid (show hvB (q0, q1) (p0, p1) on (ux, uy) = true by unfold hvB; rw [decide_eq_true hS]; simp)
          go_wp2_with (first | (go_at_call 60; refine (side_c _ _ _ _ _ _ _).mono ?_; rintro e w1 ⟨rfl, hb⟩; have s0 := cell_later hb R0.out; have s1 := cell_later hb R1.out; have s2 := cell_later hb R2.out; have s3 := cell_later hb R3.out; have s4 := cell_later hb R4.out; have s5 := cell_later hb R5.out; have k0 := cell_later hb K0.out; have k1 := cell_later hb K1.out; have HB1 := hid (grew HBX.out hb); clear hb r0 r1 r2 r3 r4 r5 q0' q1'))
          go_roundw
          case rel => exact ⟨k + 1, by omega, by rw [HY.out (HV.out)]; go_num, by go_num, s0, s1, s2, s3, s4, s5, HB1.out⟩
          case measure => simp [intOf]; omega
        · by_cases h0 : sg (crossW q0 q1 p0 p1 ux uy) = 0
          · by_cases hO : sg (dotW (wrap64 (p0 - q0)) (wrap64 (p1 - q1)) q0 q1 ux uy) = on
            · have HV := hid (show hvB (q0, q1) (p0, p1) on (ux, uy) = true by unfold hvB; rw [decide_eq_true h0, decide_eq_true hO]; simp)
              go_wp2_with (first | (go_at_call 60; refine (side_c _ _ _ _ _ _ _).mono ?_; rintro e w1 ⟨rfl, hb⟩; have s0 := cell_later hb R0.out; have s1 := cell_later hb R1.out; have s2 := cell_later hb R2.out; have s3 := cell_later hb R3.out; have s4 := cell_later hb R4.out; have s5 := cell_later hb R5.out; have k0 := cell_later hb K0.out; have k1 := cell_later hb K1.out; have HB1 := hid (grew HBX.out hb); clear hb r0 r1 r2 r3 r4 r5 q0' q1') | (go_at_call 62; refine (dot_c _ _ _ _ _ _ _).mono ?_; rintro e w2 ⟨rfl, hb⟩; have t0 := cell_later hb s0; have t1 := cell_later hb s1; have t2 := cell_later hb s2; have t3 := cell_later hb s3; have t4 := cell_later hb s4; have t5 := cell_later hb s5; have HB2 := hid (grew HB1.out hb); clear hb s0 s1 s2 s3 s4 s5 k0 k1) | (go_at_call 61; refine (signSpec_c _ _).mono ?_; rintro e w3 ⟨rfl, rfl⟩))
              go_roundw
              case rel => exact ⟨k + 1, by omega, by rw [HY.out (HV.out)]; go_num, by go_num, t0, t1, t2, t3, t4, t5, HB2.out⟩
              case measure => simp [intOf]; omega
            · have HV := hid (show hvB (q0, q1) (p0, p1) on (ux, uy) = false by unfold hvB; rw [decide_eq_false hS, decide_eq_false hO, decide_eq_false NE.out]; simp)
              go_wp2_with (first | (go_at_call 60; refine (side_c _ _ _ _ _ _ _).mono ?_; rintro e w1 ⟨rfl, hb⟩; have s0 := cell_later hb R0.out; have s1 := cell_later hb R1.out; have s2 := cell_later hb R2.out; have s3 := cell_later hb R3.out; have s4 := cell_later hb R4.out; have s5 := cell_later hb R5.out; have k0 := cell_later hb K0.out; have k1 := cell_later hb K1.out; have HB1 := hid (grew HBX.out hb); clear hb r0 r1 r2 r3 r4 r5 q0' q1') | (go_at_call 62; refine (dot_c _ _ _ _ _ _ _).mono ?_; rintro e w2 ⟨rfl, hb⟩; have t0 := cell_later hb s0; have t1 := cell_later hb s1; have t2 := cell_later hb s2; have t3 := cell_later hb s3; have t4 := cell_later hb s4; have t5 := cell_later hb s5; have HB2 := hid (grew HB1.out hb); clear hb s0 s1 s2 s3 s4 s5 k0 k1) | (go_at_call 61; refine (signSpec_c _ _).mono ?_; rintro e w3 ⟨rfl, rfl⟩))
              go_roundw
              case rel => exact ⟨k + 1, by omega, by rw [HNO.out (HV.out)], by go_num, t0, t1, t2, t3, t4, t5, HB2.out⟩
              case measure => simp [intOf]; omega
          · have HV := hid (show hvB (q0, q1) (p0, p1) on (ux, uy) = false by unfold hvB; rw [decide_eq_false hS, decide_eq_false h0, decide_eq_false NE.out]; simp)
            go_wp2_with (first | (go_at_call 60; refine (side_c _ _ _ _ _ _ _).mono ?_; rintro e w1 ⟨rfl, hb⟩; have s0 := cell_later hb R0.out; have s1 := cell_later hb R1.out; have s2 := cell_later hb R2.out; have s3 := cell_later hb R3.out; have s4 := cell_later hb R4.out; have s5 := cell_later hb R5.out; have k0 := cell_later hb K0.out; have k1 := cell_later hb K1.out; have HB1 := hid (grew HBX.out hb); clear hb r0 r1 r2 r3 r4 r5 q0' q1'))
            go_roundw
            case rel => exact ⟨k + 1, by omega, by rw [HNO.out (HV.out)], by go_num, s0, s1, s2, s3, s4, s5, HB1.out⟩
            case measure => simp [intOf]; omega
    · obtain rfl : k = l.length := by omega
      go_wp2
      go_ret
      exact ⟨ret_int (by rw [List.take_length]), hbw⟩
end Go.Proofs.YtoefllklngnmeaaDoor
