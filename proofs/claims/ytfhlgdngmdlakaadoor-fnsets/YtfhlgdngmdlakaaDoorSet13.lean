/-
  What PutPoint answers, in the specification and in the program (contracts for the walks).
  Conditions: as each theorem states them.
-/
import Derived.Test.YtfhlgdngmdlakaaDoorSet12
import Derived.Test.YtfhlgdngmdlakaaDoorSet9
namespace Go.Proofs.YtfhlgdngmdlakaaDoor
open Go.RowKit
set_option linter.unusedVariables false
theorem fit_row (b n : Nat) (h : n ≤ 1048576) : Fit (some ⟨b, 0, none⟩) n n := .inr ⟨⟨b, 0, rfl⟩, Nat.le_refl _, by unfold maxLen; omega⟩
def putOk (l : List (Int × Int)) (x y : Int) : Bool := goodL l && (goodB x y && (!decide (l.length = 60) && !hasB l x y))
def putA (l : List (Int × Int)) (x y : Int) : List (Int × Int) := if putOk l x y then putR l x y else []
theorem putA_len (l : List (Int × Int)) (x y : Int) (h : l.length ≤ 1048576) : (putA l x y).length ≤ 1048576 := by
  unfold putA
  split
  · rename_i e
    rw [putOk, Bool.and_eq_true] at e
    have h60 := goodL_few e.1
    have hp := plc_le l x y
    rw [putR, List.length_append, List.length_take, List.length_cons, List.length_drop]
    omega
  · exact Nat.zero_le _
set_option maxHeartbeats 1000000 in
theorem putSpec_c (l : List (Int × Int)) (x y : Int) (a : Option Addr) (len cap : Nat) (w : World) (hl : l.length = len) (h1 : len ≤ 1048576) (hF : Fit a len cap) (hA : At w.heap.size a l w) :
    Calls Tryd.prog 8 #[.slice a len cap, .agg #[.int .i64 x, .int .i64 y]] w fun e w' => ∃ v, e = .returned (.tuple #[v, .bool (putOk l x y)]) ∧ Own w.heap.size v (putA l x y) w' ∧ Below w.heap.size w w' := by
  subst hl
  have HA := hid hA
  have HF := hid hF
  clear hA hF
  have B0 := box0 w x y 26
  have B1 := box1 w x y 26
  cases hG : goodL l
  · have e1 : putOk l x y = false := by rw [putOk, hG]; rfl
    have e2 : putA l x y = [] := by rw [putA, e1]; rfl
    rw [e1, e2]
    clear e1 e2
    go_enter Tryd.func8, Tryd.ntmps8
    go_wp2_with (go_at_call 36; refine (l2Good_c l _ _ _ _ rfl h1 ((HA.out.later (by go_grown)).mono (by go_size))).mono ?_; rintro e w1 ⟨rfl, hb1⟩; have hbw : Below w.heap.size w w1 := grew (by go_grown) hb1; have r0 := cell_later hb1 B0; have r1 := cell_later hb1 B1)
    go_ret2
    exact ⟨_, rfl, Own.nil _ _, hbw⟩
  · cases hH : goodB x y
    · have e1 : putOk l x y = false := by rw [putOk, hG, hH]; rfl
      have e2 : putA l x y = [] := by rw [putA, e1]; rfl
      rw [e1, e2]
      clear e1 e2
      go_enter Tryd.func8, Tryd.ntmps8
      go_wp2_with (first | (go_at_call 36; refine (l2Good_c l _ _ _ _ rfl h1 ((HA.out.later (by go_grown)).mono (by go_size))).mono ?_; rintro e w1 ⟨rfl, hb1⟩; have hbw : Below w.heap.size w w1 := grew (by go_grown) hb1; have r0 := cell_later hb1 B0; have r1 := cell_later hb1 B1) | (go_at_call 37; refine (goodSpec_e _ _ _).mono ?_; rintro e w2 ⟨rfl, hb2⟩; have hbw2 := grew hbw hb2; have s0 := cell_later hb2 r0; have s1 := cell_later hb2 r1))
      go_ret2
      exact ⟨_, rfl, Own.nil _ _, hbw2⟩
    · cases hT : hasB l x y
      · by_cases h60 : l.length = 60
        · have e1 : putOk l x y = false := by rw [putOk, hG, hH, hT, decide_eq_true h60]; rfl
          have e2 : putA l x y = [] := by rw [putA, e1]; rfl
          have hq : ((l.length : Int) == 60) = true := by simp; omega
          rw [e1, e2]
          clear e1 e2 h60
          go_enter Tryd.func8, Tryd.ntmps8
          go_wp2_with (first | (go_at_call 36; refine (l2Good_c l _ _ _ _ rfl h1 ((HA.out.later (by go_grown)).mono (by go_size))).mono ?_; rintro e w1 ⟨rfl, hb1⟩; have hbw : Below w.heap.size w w1 := grew (by go_grown) hb1; have r0 := cell_later hb1 B0; have r1 := cell_later hb1 B1) | (go_at_call 37; refine (goodSpec_e _ _ _).mono ?_; rintro e w2 ⟨rfl, hb2⟩; have hbw2 := grew hbw hb2; have s0 := cell_later hb2 r0; have s1 := cell_later hb2 r1) | (go_at_call 38; refine (l2Has_c l x y _ _ _ w2 rfl h1 ((HA.out.later hbw2).mono hbw2.size)).mono ?_; rintro e w3 ⟨rfl, hb3⟩; have hbw3 := grew hbw2 hb3; have t0 := cell_later hb3 s0; have t1 := cell_later hb3 s1))
          all_goals go_ret2
          all_goals exact ⟨_, rfl, Own.nil _ _, hbw3⟩
        · have e1 : putOk l x y = true := by rw [putOk, hG, hH, hT, decide_eq_false h60]; rfl
          have e2 : putA l x y = putR l x y := by rw [putA, e1]; rfl
          have hq : ((l.length : Int) == 60) = false := by simp; omega
          rw [e1, e2]
          clear e1 e2 h60
          go_enter Tryd.func8, Tryd.ntmps8
          go_wp2_with (first | (go_at_call 36; refine (l2Good_c l _ _ _ _ rfl h1 ((HA.out.later (by go_grown)).mono (by go_size))).mono ?_; rintro e w1 ⟨rfl, hb1⟩; have hbw : Below w.heap.size w w1 := grew (by go_grown) hb1; have r0 := cell_later hb1 B0; have r1 := cell_later hb1 B1) | (go_at_call 37; refine (goodSpec_e _ _ _).mono ?_; rintro e w2 ⟨rfl, hb2⟩; have hbw2 := grew hbw hb2; have s0 := cell_later hb2 r0; have s1 := cell_later hb2 r1) | (go_at_call 38; refine (l2Has_c l x y _ _ _ w2 rfl h1 ((HA.out.later hbw2).mono hbw2.size)).mono ?_; rintro e w3 ⟨rfl, hb3⟩; have hbw3 := grew hbw2 hb3; have t0 := cell_later hb3 s0; have t1 := cell_later hb3 s1) | (go_at_call 39; refine (l2Put_new l x y _ _ _ w3 rfl h1 HF.out ((HA.out.later hbw3).mono hbw3.size) hT).mono ?_; rintro e w4 ⟨v4, rfl, ho4, hb4⟩))
          all_goals go_ret2
          all_goals exact ⟨_, rfl, ho4.mono hbw3.size, grew hbw3 hb4⟩
      · have e1 : putOk l x y = false := by rw [putOk, hG, hH, hT]; simp
        have e2 : putA l x y = [] := by rw [putA, e1]; rfl
        rw [e1, e2]
        clear e1 e2
        go_enter Tryd.func8, Tryd.ntmps8
        go_wp2_with (first | (go_at_call 36; refine (l2Good_c l _ _ _ _ rfl h1 ((HA.out.later (by go_grown)).mono (by go_size))).mono ?_; rintro e w1 ⟨rfl, hb1⟩; have hbw : Below w.heap.size w w1 := grew (by go_grown) hb1; have r0 := cell_later hb1 B0; have r1 := cell_later hb1 B1) | (go_at_call 37; refine (goodSpec_e _ _ _).mono ?_; rintro e w2 ⟨rfl, hb2⟩; have hbw2 := grew hbw hb2; have s0 := cell_later hb2 r0; have s1 := cell_later hb2 r1) | (go_at_call 38; refine (l2Has_c l x y _ _ _ w2 rfl h1 ((HA.out.later hbw2).mono hbw2.size)).mono ?_; rintro e w3 ⟨rfl, hb3⟩; have hbw3 := grew hbw2 hb3; have t0 := cell_later hb3 s0; have t1 := cell_later hb3 s1))
        go_ret2
        exact ⟨_, rfl, Own.nil _ _, hbw3⟩
set_option maxHeartbeats 1000000 in
theorem putImpl_c (l : List (Int × Int)) (x y : Int) (a : Option Addr) (len cap : Nat) (w : World) (hl : l.length = len) (h1 : len ≤ 1048576) (hF : Fit a len cap) (hA : At w.heap.size a l w) (c0 : w.cell? ⟨0, 0, none⟩ = some (.int .i64 1000000)) :
    Calls Tryd.prog 7 #[.slice a len cap, .agg #[.int .i64 x, .int .i64 y]] w fun e w' => ∃ v, e = .returned (.tuple #[v, .bool (putOk l x y)]) ∧ Own w.heap.size v (putA l x y) w' ∧ Below w.heap.size w w' := by
  subst hl
  have HA := hid hA
  have HF := hid hF
  have C0 := hid c0
  clear hA hF c0
  have B0 := box0 w x y 26
  have B1 := box1 w x y 26
  cases hG : goodL l
  · have e1 : putOk l x y = false := by rw [putOk, hG]; rfl
    have e2 : putA l x y = [] := by rw [putA, e1]; rfl
    rw [e1, e2]
    clear e1 e2
    go_enter Tryd.func7, Tryd.ntmps7
    go_wp2_with (go_at_call 10; refine (goodSetImpl_c l _ _ _ _ rfl h1 ((HA.out.later (by go_grown)).mono (by go_size)) (cell_later (by go_grown : Below w.heap.size w _) C0.out)).mono ?_; rintro e w1 ⟨rfl, hb1⟩; have hbw : Below w.heap.size w w1 := grew (by go_grown) hb1; have r0 := cell_later hb1 B0; have r1 := cell_later hb1 B1)
    go_ret2
    exact ⟨_, rfl, Own.nil _ _, hbw⟩
  · have HR := hid (goodL_rises hG)
    cases hH : goodB x y
    · have e1 : putOk l x y = false := by rw [putOk, hG, hH]; rfl
      have e2 : putA l x y = [] := by rw [putA, e1]; rfl
      rw [e1, e2]
      clear e1 e2
      go_enter Tryd.func7, Tryd.ntmps7
      go_wp2_with (first | (go_at_call 10; refine (goodSetImpl_c l _ _ _ _ rfl h1 ((HA.out.later (by go_grown)).mono (by go_size)) (cell_later (by go_grown : Below w.heap.size w _) C0.out)).mono ?_; rintro e w1 ⟨rfl, hb1⟩; have hbw : Below w.heap.size w w1 := grew (by go_grown) hb1; have r0 := cell_later hb1 B0; have r1 := cell_later hb1 B1) | (go_at_call 33; refine (goodImpl_e _ _ _ ?_).mono ?_; exact cell_later hbw C0.out; rintro e w2 ⟨rfl, hb2⟩; have hbw2 := grew hbw hb2; have s0 := cell_later hb2 r0; have s1 := cell_later hb2 r1))
      go_ret2
      exact ⟨_, rfl, Own.nil _ _, hbw2⟩
    · by_cases h60 : l.length = 60
      · have e1 : putOk l x y = false := by rw [putOk, hG, hH, decide_eq_true h60]; rfl
        have e2 : putA l x y = [] := by rw [putA, e1]; rfl
        have hq : ((l.length : Int) == 60) = true := by simp; omega
        rw [e1, e2]
        clear e1 e2 h60
        go_enter Tryd.func7, Tryd.ntmps7
        go_wp2_with (first | (go_at_call 10; refine (goodSetImpl_c l _ _ _ _ rfl h1 ((HA.out.later (by go_grown)).mono (by go_size)) (cell_later (by go_grown : Below w.heap.size w _) C0.out)).mono ?_; rintro e w1 ⟨rfl, hb1⟩; have hbw : Below w.heap.size w w1 := grew (by go_grown) hb1; have r0 := cell_later hb1 B0; have r1 := cell_later hb1 B1) | (go_at_call 33; refine (goodImpl_e _ _ _ ?_).mono ?_; exact cell_later hbw C0.out; rintro e w2 ⟨rfl, hb2⟩; have hbw2 := grew hbw hb2; have s0 := cell_later hb2 r0; have s1 := cell_later hb2 r1))
        all_goals go_ret2
        all_goals exact ⟨_, rfl, Own.nil _ _, hbw2⟩
      · have hq : ((l.length : Int) == 60) = false := by simp; omega
        cases hT : hasB l x y
        · have e1 : putOk l x y = true := by rw [putOk, hG, hH, hT, decide_eq_false h60]; rfl
          have e2 : putA l x y = putR l x y := by rw [putA, e1]; rfl
          rw [e1, e2]
          clear e1 e2 h60
          have hpl := plc_le l x y
          go_enter Tryd.func7, Tryd.ntmps7
          go_wp2_with (first | (go_at_call 10; refine (goodSetImpl_c l _ _ _ _ rfl h1 ((HA.out.later (by go_grown)).mono (by go_size)) (cell_later (by go_grown : Below w.heap.size w _) C0.out)).mono ?_; rintro e w1 ⟨rfl, hb1⟩; have hbw : Below w.heap.size w w1 := grew (by go_grown) hb1; have r0 := cell_later hb1 B0; have r1 := cell_later hb1 B1) | (go_at_call 33; refine (goodImpl_e _ _ _ ?_).mono ?_; exact cell_later hbw C0.out; rintro e w2 ⟨rfl, hb2⟩; have hbw2 := grew hbw hb2; have s0 := cell_later hb2 r0; have s1 := cell_later hb2 r1) | (go_at_call 34; refine (search_c l x y _ _ _ w2 rfl h1 HR.out ((HA.out.later hbw2).mono hbw2.size)).mono ?_; rintro e w3 ⟨rfl, hb3⟩; have hbw3 := grew hbw2 hb3; have t0 := cell_later hb3 s0; have t1 := cell_later hb3 s1) | (go_at_call 35; refine (with_c l (plc l x y) x y _ _ _ w3 rfl h1 hpl HF.out ((HA.out.later hbw3).mono hbw3.size)).mono ?_; rintro e w4 ⟨v4, rfl, ho4, hb4⟩))
          all_goals go_ret2
          all_goals exact ⟨_, rfl, ho4.mono hbw3.size, grew hbw3 hb4⟩
        · have e1 : putOk l x y = false := by rw [putOk, hG, hH, hT]; simp
          have e2 : putA l x y = [] := by rw [putA, e1]; rfl
          rw [e1, e2]
          clear e1 e2 h60
          go_enter Tryd.func7, Tryd.ntmps7
          go_wp2_with (first | (go_at_call 10; refine (goodSetImpl_c l _ _ _ _ rfl h1 ((HA.out.later (by go_grown)).mono (by go_size)) (cell_later (by go_grown : Below w.heap.size w _) C0.out)).mono ?_; rintro e w1 ⟨rfl, hb1⟩; have hbw : Below w.heap.size w w1 := grew (by go_grown) hb1; have r0 := cell_later hb1 B0; have r1 := cell_later hb1 B1) | (go_at_call 33; refine (goodImpl_e _ _ _ ?_).mono ?_; exact cell_later hbw C0.out; rintro e w2 ⟨rfl, hb2⟩; have hbw2 := grew hbw hb2; have s0 := cell_later hb2 r0; have s1 := cell_later hb2 r1) | (go_at_call 34; refine (search_c l x y _ _ _ w2 rfl h1 HR.out ((HA.out.later hbw2).mono hbw2.size)).mono ?_; rintro e w3 ⟨rfl, hb3⟩; have hbw3 := grew hbw2 hb3; have t0 := cell_later hb3 s0; have t1 := cell_later hb3 s1))
          all_goals go_ret2
          all_goals exact ⟨_, rfl, Own.nil _ _, hbw3⟩
end Go.Proofs.YtfhlgdngmdlakaaDoor
