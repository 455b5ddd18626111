/-
  What MoveSet answers in the program (a contract for the walks).
  Conditions: as each theorem states them.
-/
import Derived.Test.YtfhlgdngmdlakaaDoorSet8
namespace Go.Proofs.YtfhlgdngmdlakaaDoor
open Go.RowKit
set_option linter.unusedVariables false
theorem goodImpl_e (x y : Int) (w : World) (c0 : w.cell? ⟨0, 0, none⟩ = some (.int .i64 1000000)) : Calls Tryd.prog 33 #[.agg #[.int .i64 x, .int .i64 y]] w fun e w' => e = .returned (.bool (goodB x y)) ∧ Below w.heap.size w w' := by
  refine (goodImpl_c x y w c0).mono ?_
  rintro e w' ⟨he, rfl⟩
  exact ⟨he, by go_grown⟩
theorem Cop.step2 {l : List (Int × Int)} {k : Nat} {w wr u : World} {x y : Int} (h : Cop l k w wr) (hb : Below wr.heap.size wr u) (hk : k < l.length) (hx : px l k = x) (hy : py l k = y) :
    Cop l (k + 1) w ((u.setCell ⟨w.heap.size, k * 2, none⟩ (.int .i64 x)).setCell ⟨w.heap.size, k * 2 + 1, none⟩ (.int .i64 y)) := by
  subst hx hy
  exact h.step hb hk
set_option maxHeartbeats 2000000 in
theorem moveImpl_c (l : List (Int × Int)) (x y : Int) (a : Option Addr) (len cap : Nat) (w : World) (hl : l.length = len) (h1 : len ≤ 1048576) (hA : At w.heap.size a l w) (c0 : w.cell? ⟨0, 0, none⟩ = some (.int .i64 1000000)) :
    Calls Tryd.prog 22 #[.slice a len cap, .agg #[.int .i64 x, .int .i64 y]] w fun e w' => ∃ v, e = .returned (.tuple #[v, .bool (movOk l x y)]) ∧ Own w.heap.size v (movR l x y) w' ∧ Below w.heap.size w w' := by
  subst hl
  have HA := hid hA
  have C0 := hid c0
  clear hA c0
  have B0 := box0 w x y 26
  have B1 := box1 w x y 26
  cases hG : goodL l
  · have e1 : movOk l x y = false := by rw [movOk, hG]; rfl
    have e2 : movR l x y = [] := by rw [movR, e1]; rfl
    rw [e1, e2]
    clear e1 e2
    go_enter Tryd.func22, Tryd.ntmps22
    go_wp2_with (go_at_call 10; refine (goodSetImpl_c l _ _ _ _ rfl h1 ((HA.out.later (by go_grown)).mono (by go_size)) (cell_later (by go_grown : Below w.heap.size w _) C0.out)).mono ?_; rintro e w1 ⟨rfl, hb1⟩; have hbw : Below w.heap.size w w1 := grew (by go_grown) hb1; have r0 := cell_later hb1 B0; have r1 := cell_later hb1 B1)
    go_ret2
    exact ⟨_, rfl, Own.nil _ _, hbw⟩
  · cases hH : goodB x y
    · have e1 : movOk l x y = false := by rw [movOk, hG, hH]; rfl
      have e2 : movR l x y = [] := by rw [movR, e1]; rfl
      rw [e1, e2]
      clear e1 e2
      go_enter Tryd.func22, Tryd.ntmps22
      go_wp2_with (first | (go_at_call 10; refine (goodSetImpl_c l _ _ _ _ rfl h1 ((HA.out.later (by go_grown)).mono (by go_size)) (cell_later (by go_grown : Below w.heap.size w _) C0.out)).mono ?_; rintro e w1 ⟨rfl, hb1⟩; have hbw : Below w.heap.size w w1 := grew (by go_grown) hb1; have r0 := cell_later hb1 B0; have r1 := cell_later hb1 B1) | (go_at_call 33; refine (goodImpl_e _ _ _ ?_).mono ?_; exact cell_later hbw C0.out; rintro e w2 ⟨rfl, hb2⟩; have hbw2 := grew hbw hb2; have s0 := cell_later hb2 r0; have s1 := cell_later hb2 r1))
      go_ret2
      exact ⟨_, rfl, Own.nil _ _, grew hbw hb2⟩
    · have hgood := hid (goodL_good hG)
      have hfew := goodL_few hG
      have hxy := goodB_b hH
      obtain ⟨i0, hi, hz0, hz1, hz2⟩ := info_parts info_pt
      have hmk := fun (u : World) => run_make (P := Tryd.prog) u 24 26 i0 _ Tryd.underlying24 hi hz0 .i64 .i64 l.length l.length (by omega) (by omega) (by rw [hz2]; omega) (by omega)
      simp only [hz1, Int.toNat_natCast] at hmk
      clear hz0 hz1 hz2 hi
      have HM := hid (move_good (x := x) (y := y) hG)
      go_enter Tryd.func22, Tryd.ntmps22
      go_wp2_with (first | (go_at_call 10; refine (goodSetImpl_c l _ _ _ _ rfl h1 ((HA.out.later (by go_grown)).mono (by go_size)) (cell_later (by go_grown : Below w.heap.size w _) C0.out)).mono ?_; rintro e w1 ⟨rfl, hb1⟩; have hbw : Below w.heap.size w w1 := grew (by go_grown) hb1; have r0 := cell_later hb1 B0; have r1 := cell_later hb1 B1) | (go_at_call 33; refine (goodImpl_e _ _ _ ?_).mono ?_; exact cell_later hbw C0.out; rintro e w2 ⟨rfl, hb2⟩; have hbw2 := grew hbw hb2; have s0 := cell_later hb2 r0; have s1 := cell_later hb2 r1))
      go_loopw [22] (fun i wr => ∃ k : Nat, k ≤ l.length ∧ i = .int .i64 k ∧ GoodTo (moveL l x y) k ∧ Cop (moveL l x y) k w2 wr) (fun i _ => l.length - (intOf i).toNat)
      case atStart =>
        have hS := Cop.start (moveL l x y) w2
        rw [moveL_len] at hS
        exact ⟨0, Nat.zero_le _, rfl, GoodTo.zero _, hS⟩
      case round =>
        obtain ⟨k, hk, rfl, hT, hC⟩ := hrel
        have HT := hid hT
        have HC := hid hC
        have hbr := hC.below
        have hlt := hC.row.lt
        have hbA := grew hbw2 hbr
        have t0 := cell_later hbr s0
        have t1 := cell_later hbr s1
        have hwb : w.heap.size < w2.heap.size := World.block_lt_of_cell? w2 _ s0
        clear hC hT
        by_cases hkl : k < l.length
        · obtain ⟨b, off, rfl, hbN, g0, g1⟩ := HA.out k hkl
          have q0 := cell_later hbA g0
          have q1 := cell_later hbA g1
          clear g0 g1
          have hbb : b < w2.heap.size := by have := hbw2.size; omega
          have hgk := goodB_b (hgood.out k hkl)
          have hkm : k < (moveL l x y).length := by rw [moveL_len]; exact hkl
          have HX := hid (px_move x y hkl)
          have HY := hid (py_move x y hkl)
          have v0 := HC.out.t0 (Below.refl _ _) hkm
          have v1 := HC.out.t1 (Below.refl _ _) hkm
          have f0 := HC.out.f (Below.refl _ _) (k * 2)
          have f1 := HC.out.f (Below.refl _ _) (k * 2 + 1)
          have hns : w2.heap.size < wr.heap.size := hlt
          have hwr : w.heap.size < wr.heap.size := by omega
          have hbr2 : b < wr.heap.size := by omega
          cases hE : goodB (px l k + x) (py l k + y)
          all_goals go_wp2_with (go_at_call 33; refine (goodImpl_c _ _ _ ?_).mono ?_; exact cell_later (grew hbw2 ((HC.out.step2 (Below.refl _ _) hkm HX.out HY.out).later (by go_grown)).below) C0.out; rintro e w5 ⟨rfl, hb5⟩; have hc5 : Cop (moveL l x y) (k + 1) w2 w5 := (HC.out.step2 (Below.refl _ _) hkm HX.out HY.out).later (by rw [← hb5]; go_grown))
          · go_ret2
            have e0 : allGood (moveL l x y) = false := allGood_false hkm (by rw [HX.out, HY.out]; exact hE)
            have e1 : movOk l x y = false := by rw [movOk, hG, hH, HM.out, e0]; rfl
            have e2 : movR l x y = [] := by rw [movR, e1]; rfl
            rw [e1, e2]
            exact ⟨_, rfl, Own.nil _ _, grew hbw2 hc5.below⟩
          · go_roundw
            case rel => exact ⟨k + 1, by omega, by go_num, HT.out.succ (by rw [HX.out, HY.out]; exact hE), hc5⟩
            case measure => simp [intOf]; omega
        · obtain rfl : k = l.length := by omega
          go_wp2
          go_ret2
          have e0 : allGood (moveL l x y) = true := (allGood_iff _).2 (by rw [moveL_len]; exact HT.out)
          have e1 : movOk l x y = true := by rw [movOk, hG, hH, HM.out, e0]; rfl
          have e2 : movR l x y = moveL l x y := by rw [movR, e1]; rfl
          rw [e1, e2]
          have hC := HC.out
          rw [← moveL_len l x y] at hC
          have hO := hC.own (by rw [moveL_len]; exact h1)
          rw [moveL_len] at hO
          exact ⟨_, rfl, hO.mono hbw2.size, hbA⟩
end Go.Proofs.YtfhlgdngmdlakaaDoor
