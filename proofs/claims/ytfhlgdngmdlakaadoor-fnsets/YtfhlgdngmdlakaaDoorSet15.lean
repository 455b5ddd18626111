/-
  What DropPoint answers, in the specification and in the program (contracts for the walks).
  Conditions: as each theorem states them.
-/
import Derived.Test.YtfhlgdngmdlakaaDoorSet14
namespace Go.Proofs.YtfhlgdngmdlakaaDoor
open Go.RowKit
set_option linter.unusedVariables false
def dropA (l : List (Int × Int)) (x y : Int) : List (Int × Int) := if plcOk l x y then dropR l (plc l x y) else []
theorem dropA_len (l : List (Int × Int)) (x y : Int) (h : l.length ≤ 1048576) : (dropA l x y).length ≤ 1048576 := by
  unfold dropA
  split
  · rw [dropR, List.length_append, List.length_take, List.length_drop]; omega
  · exact Nat.zero_le _
theorem has_lt {l : List (Int × Int)} {x y : Int} (h : hasB l x y = true) : plc l x y < l.length := by
  rw [hasB, Bool.and_eq_true] at h
  exact of_decide_eq_true h.1
set_option maxHeartbeats 1000000 in
theorem dropSpec_c (l : List (Int × Int)) (x y : Int) (a : Option Addr) (len cap : Nat) (w : World) (hl : l.length = len) (h1 : len ≤ 1048576) (hF : Fit a len cap) (hA : At w.heap.size a l w) :
    Calls Tryd.prog 15 #[.slice a len cap, .agg #[.int .i64 x, .int .i64 y]] w fun e w' => ∃ v, e = .returned (.tuple #[v, .bool (plcOk l x y)]) ∧ Own w.heap.size v (dropA l x y) w' ∧ Below w.heap.size w w' := by
  subst hl
  have HA := hid hA
  have HF := hid hF
  clear hA hF
  have B0 := box0 w x y 26
  have B1 := box1 w x y 26
  cases hG : goodL l
  · have e1 : plcOk l x y = false := by rw [plcOk, hG]; rfl
    have e2 : dropA l x y = [] := by rw [dropA, e1]; rfl
    rw [e1, e2]
    clear e1 e2
    go_enter Tryd.func15, Tryd.ntmps15
    go_wp2_with (go_at_call 36; refine (l2Good_c l _ _ _ _ rfl h1 ((HA.out.later (by go_grown)).mono (by go_size))).mono ?_; rintro e w1 ⟨rfl, hb1⟩; have hbw : Below w.heap.size w w1 := grew (by go_grown) hb1; have r0 := cell_later hb1 B0; have r1 := cell_later hb1 B1)
    go_ret2
    exact ⟨_, rfl, Own.nil _ _, hbw⟩
  · cases hT : hasB l x y
    · have e1 : plcOk l x y = false := by rw [plcOk, hG, hT]; rfl
      have e2 : dropA l x y = [] := by rw [dropA, e1]; rfl
      rw [e1, e2]
      clear e1 e2
      go_enter Tryd.func15, Tryd.ntmps15
      go_wp2_with (first | (go_at_call 36; refine (l2Good_c l _ _ _ _ rfl h1 ((HA.out.later (by go_grown)).mono (by go_size))).mono ?_; rintro e w1 ⟨rfl, hb1⟩; have hbw : Below w.heap.size w w1 := grew (by go_grown) hb1; have r0 := cell_later hb1 B0; have r1 := cell_later hb1 B1) | (go_at_call 38; refine (l2Has_c l x y _ _ _ w1 rfl h1 ((HA.out.later hbw).mono hbw.size)).mono ?_; rintro e w2 ⟨rfl, hb2⟩; have hbw2 := grew hbw hb2; have s0 := cell_later hb2 r0; have s1 := cell_later hb2 r1))
      go_ret2
      exact ⟨_, rfl, Own.nil _ _, hbw2⟩
    · have e1 : plcOk l x y = true := by rw [plcOk, hG, hT]; rfl
      have e2 : dropA l x y = dropR l (plc l x y) := by rw [dropA, e1]; rfl
      rw [e1, e2]
      clear e1 e2
      have HP := hid (has_lt hT)
      go_enter Tryd.func15, Tryd.ntmps15
      go_wp2_with (first | (go_at_call 36; refine (l2Good_c l _ _ _ _ rfl h1 ((HA.out.later (by go_grown)).mono (by go_size))).mono ?_; rintro e w1 ⟨rfl, hb1⟩; have hbw : Below w.heap.size w w1 := grew (by go_grown) hb1; have r0 := cell_later hb1 B0; have r1 := cell_later hb1 B1) | (go_at_call 38; refine (l2Has_c l x y _ _ _ w1 rfl h1 ((HA.out.later hbw).mono hbw.size)).mono ?_; rintro e w2 ⟨rfl, hb2⟩; have hbw2 := grew hbw hb2; have s0 := cell_later hb2 r0; have s1 := cell_later hb2 r1) | (go_at_call 43; refine (l2Drop_c l x y _ _ _ w2 rfl h1 HF.out ((HA.out.later hbw2).mono hbw2.size) HP.out).mono ?_; rintro e w4 ⟨v4, rfl, ho4, hb4⟩))
      go_ret2
      exact ⟨_, rfl, ho4.mono hbw2.size, grew hbw2 hb4⟩
set_option maxHeartbeats 1000000 in
theorem dropImpl_c (l : List (Int × Int)) (x y : Int) (a : Option Addr) (len cap : Nat) (w : World) (hl : l.length = len) (h1 : len ≤ 1048576) (hF : Fit a len cap) (hA : At w.heap.size a l w) (c0 : w.cell? ⟨0, 0, none⟩ = some (.int .i64 1000000)) :
    Calls Tryd.prog 13 #[.slice a len cap, .agg #[.int .i64 x, .int .i64 y]] w fun e w' => ∃ v, e = .returned (.tuple #[v, .bool (plcOk l x y)]) ∧ Own w.heap.size v (dropA l x y) w' ∧ Below w.heap.size w w' := by
  subst hl
  have HA := hid hA
  have HF := hid hF
  have C0 := hid c0
  clear hA hF c0
  have B0 := box0 w x y 26
  have B1 := box1 w x y 26
  cases hT : plcOk l x y
  · have e2 : dropA l x y = [] := by rw [dropA, hT]; rfl
    rw [e2]
    clear e2
    go_enter Tryd.func13, Tryd.ntmps13
    go_wp2_with (go_at_call 12; refine (placeImpl_c l x y _ _ _ _ rfl h1 ((HA.out.later (by go_grown)).mono (by go_size)) (cell_later (by go_grown : Below w.heap.size w _) C0.out)).mono ?_; rintro e w1 ⟨rfl, hb1⟩; have hbw : Below w.heap.size w w1 := grew (by go_grown) hb1; have r0 := cell_later hb1 B0; have r1 := cell_later hb1 B1)
    go_ret2
    exact ⟨_, rfl, Own.nil _ _, hbw⟩
  · have e2 : dropA l x y = dropR l (plc l x y) := by rw [dropA, hT]; rfl
    have e3 : plcN l x y = plc l x y := by rw [plcN, hT]; rfl
    rw [e2]
    clear e2
    have hT2 := hT
    rw [plcOk, Bool.and_eq_true] at hT2
    have HP := hid (has_lt hT2.2)
    clear hT2
    go_enter Tryd.func13, Tryd.ntmps13
    go_wp2_with (first | (go_at_call 12; refine (placeImpl_c l x y _ _ _ _ rfl h1 ((HA.out.later (by go_grown)).mono (by go_size)) (cell_later (by go_grown : Below w.heap.size w _) C0.out)).mono ?_; rintro e w1 ⟨rfl, hb1⟩; have hbw : Below w.heap.size w w1 := grew (by go_grown) hb1; have r0 := cell_later hb1 B0; have r1 := cell_later hb1 B1) | (go_at_call 42; refine (without_c l (plc l x y) _ _ _ w1 rfl h1 HP.out HF.out ((HA.out.later hbw).mono hbw.size)).mono ?_; rintro e w4 ⟨v4, rfl, ho4, hb4⟩))
    go_ret2
    exact ⟨_, rfl, ho4.mono hbw.size, grew hbw hb4⟩
end Go.Proofs.YtfhlgdngmdlakaaDoor
