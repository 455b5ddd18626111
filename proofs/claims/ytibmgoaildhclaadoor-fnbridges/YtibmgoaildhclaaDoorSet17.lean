/-
  What SetFrom answers, in the specification and in the program (contracts for the walks).
  Conditions: as each theorem states them.
-/
import Derived.Test.YtibmgoaildhclaaDoorB1
namespace Go.Proofs.YtibmgoaildhclaaDoor
open Go.RowKit
set_option linter.unusedVariables false
def setOk (l : List (Int × Int)) : Bool := decide (l.length ≤ 60) && allGood l
def setA (l : List (Int × Int)) : List (Int × Int) := if setOk l then fromL l else []
theorem setA_len (l : List (Int × Int)) (h : l.length ≤ 1048576) : (setA l).length ≤ 1048576 := by
  unfold setA
  split
  · have := fromL_len l l.length (Nat.le_refl _)
    rw [List.take_length] at this
    omega
  · exact Nat.zero_le _
set_option maxHeartbeats 1000000 in
theorem setImpl_c (l : List (Int × Int)) (a : Option Addr) (len cap : Nat) (w : World) (hl : l.length = len) (h1 : len ≤ 1048576) (hA : At w.heap.size a l w) (c0 : w.cell? ⟨0, 0, none⟩ = some (.int .i64 1000000)) :
    Calls Tryd.prog 17 #[.slice a len cap] w fun e w' => ∃ v, e = .returned (.tuple #[v, .bool (setOk l)]) ∧ Own w.heap.size v (setA l) w' ∧ Below w.heap.size w w' := by
  subst hl
  have HA := hid hA
  have C0 := hid c0
  clear hA c0
  cases hE : setOk l
  · have e2 : setA l = [] := by rw [setA, hE]; rfl
    rw [e2]
    clear e2
    go_enter Tryd.func17, Tryd.ntmps17
    go_wp2_with (go_at_call 31; refine (fewGood_c l _ _ _ _ rfl h1 HA.out C0.out).mono ?_; rw [show (decide (l.length ≤ 60) && allGood l) = false from hE]; rintro e w1 ⟨rfl, hb1⟩)
    go_ret2
    exact ⟨_, rfl, Own.nil _ _, hb1⟩
  · have e2 : setA l = fromL l := by rw [setA, hE]; rfl
    rw [e2]
    clear e2
    go_enter Tryd.func17, Tryd.ntmps17
    go_wp2_with (first | (go_at_call 31; refine (fewGood_c l _ _ _ _ rfl h1 HA.out C0.out).mono ?_; rw [show (decide (l.length ≤ 60) && allGood l) = true from hE]; rintro e w1 ⟨rfl, hb1⟩) | (go_at_call 32; refine (sortedFrom_c l _ _ _ w1 rfl h1 ((HA.out.later hb1).mono hb1.size)).mono ?_; rintro e w2 ⟨v2, rfl, ho2, hb2⟩))
    go_ret2
    exact ⟨_, rfl, ho2.mono hb1.size, grew hb1 hb2⟩
end Go.Proofs.YtibmgoaildhclaaDoor
