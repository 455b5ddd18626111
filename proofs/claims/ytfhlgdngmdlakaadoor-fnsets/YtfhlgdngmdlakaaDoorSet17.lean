/-
  What SetFrom answers, in the specification and in the program (contracts for the walks).
  Conditions: as each theorem states them.
-/
import Derived.Test.YtfhlgdngmdlakaaDoorSet16
namespace Go.Proofs.YtfhlgdngmdlakaaDoor
open Go.RowKit
set_option linter.unusedVariables false
def setOk (l : List (Int × Int)) : Bool := decide (l.length ≤ 60) && allGood l
def setA (l : List (Int × Int)) : List (Int × Int) := if setOk l then fromL l else []
theorem setA_len (l : List (Int × Int)) (h : l.length ≤ 1048576) : (setA l).length ≤ 1048576 := by
  unfold setA
  split
  · have := fromL_len l l.length (Nat.le_refl _)
    rw [List.take_length] at this
    omega
  · exact Nat.zero_le _
set_option maxHeartbeats 1000000 in
theorem setSpec_c (l : List (Int × Int)) (a : Option Addr) (len cap : Nat) (w : World) (hl : l.length = len) (h1 : len ≤ 1048576) (hA : At w.heap.size a l w) :
    Calls Tryd.prog 19 #[.slice a len cap] w fun e w' => ∃ v, e = .returned (.tuple #[v, .bool (setOk l)]) ∧ Own w.heap.size v (setA l) w' ∧ Below w.heap.size w w' := by
  subst hl
  have HA := hid hA
  clear hA
  go_enter Tryd.func19, Tryd.ntmps19
  go_wp2
  go_loopw [8] (fun i wr => ∃ k : Nat, k ≤ l.length ∧ i = .int .i64 k ∧ GoodTo l k ∧ Below w.heap.size w wr) (fun i _ => l.length - (intOf i).toNat)
  case atStart => exact ⟨0, Nat.zero_le _, rfl, GoodTo.zero _, Below.refl _ _⟩
  case round =>
    obtain ⟨k, hk, rfl, hC, hbw⟩ := hrel
    have HC := hid hC
    clear hC
    by_cases hkl : k < l.length
    · obtain ⟨b, off, rfl, hbN, g0, g1⟩ := HA.out k hkl
      have q0 := cell_later hbw g0
      have q1 := cell_later hbw g1
      have hsz := hbw.size
      have hne : b < wr.heap.size := by omega
      clear g0 g1
      cases hE : goodB (px l k) (py l k)
      all_goals go_wp2_with (go_at_call 37; refine (goodSpec_e _ _ _).mono ?_; rintro e w3 ⟨rfl, hb3⟩)
      · go_ret2
        have e1 : setOk l = false := by rw [setOk, allGood_false hkl hE, Bool.and_false]
        have e2 : setA l = [] := by rw [setA, e1]; rfl
        rw [e1, e2]
        exact ⟨_, rfl, Own.nil _ _, grew hbw (grew (by go_grown) hb3)⟩
      · go_roundw
        case rel => exact ⟨k + 1, by omega, by go_num, HC.out.succ hE, grew hbw (grew (by go_grown) hb3)⟩
        case measure => simp [intOf]; omega
    · obtain rfl : k = l.length := by omega
      have HG := hid ((allGood_iff l).2 HC.out)
      by_cases h60 : l.length ≤ 60
      · have HE := hid (show setOk l = true by rw [setOk, HG.out, decide_eq_true h60]; rfl)
        have hq : (l.length : Int) ≤ 60 := by omega
        clear h60
        go_wp2_with (go_at_call 47; refine (l2From_c l _ _ _ wr rfl h1 ((HA.out.later hbw).mono hbw.size)).mono ?_; rintro e w3 ⟨v3, rfl, ho3, hb3⟩)
        go_ret2
        exact ⟨_, by rw [HE.out]; rfl, by rw [setA, HE.out]; exact ho3.mono hbw.size, grew hbw hb3⟩
      · have HE := hid (show setOk l = false by rw [setOk, decide_eq_false h60]; rfl)
        have hq : (60 : Int) < (l.length : Int) := by omega
        clear h60
        go_wp2
        go_ret2
        exact ⟨_, by rw [HE.out]; rfl, by rw [setA, HE.out]; exact Own.nil _ _, hbw⟩
set_option maxHeartbeats 1000000 in
theorem setImpl_c (l : List (Int × Int)) (a : Option Addr) (len cap : Nat) (w : World) (hl : l.length = len) (h1 : len ≤ 1048576) (hA : At w.heap.size a l w) (c0 : w.cell? ⟨0, 0, none⟩ = some (.int .i64 1000000)) :
    Calls Tryd.prog 18 #[.slice a len cap] w fun e w' => ∃ v, e = .returned (.tuple #[v, .bool (setOk l)]) ∧ Own w.heap.size v (setA l) w' ∧ Below w.heap.size w w' := by
  subst hl
  have HA := hid hA
  have C0 := hid c0
  clear hA c0
  cases hE : setOk l
  · have e2 : setA l = [] := by rw [setA, hE]; rfl
    rw [e2]
    clear e2
    go_enter Tryd.func18, Tryd.ntmps18
    go_wp2_with (go_at_call 40; refine (fewGood_c l _ _ _ _ rfl h1 HA.out C0.out).mono ?_; rw [show (decide (l.length ≤ 60) && allGood l) = false from hE]; rintro e w1 ⟨rfl, hb1⟩)
    go_ret2
    exact ⟨_, rfl, Own.nil _ _, hb1⟩
  · have e2 : setA l = fromL l := by rw [setA, hE]; rfl
    rw [e2]
    clear e2
    go_enter Tryd.func18, Tryd.ntmps18
    go_wp2_with (first | (go_at_call 40; refine (fewGood_c l _ _ _ _ rfl h1 HA.out C0.out).mono ?_; rw [show (decide (l.length ≤ 60) && allGood l) = true from hE]; rintro e w1 ⟨rfl, hb1⟩) | (go_at_call 46; refine (sortedFrom_c l _ _ _ w1 rfl h1 ((HA.out.later hb1).mono hb1.size)).mono ?_; rintro e w2 ⟨v2, rfl, ho2, hb2⟩))
    go_ret2
    exact ⟨_, rfl, ho2.mono hb1.size, grew hb1 hb2⟩
end Go.Proofs.YtfhlgdngmdlakaaDoor
