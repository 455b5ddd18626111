/-
  Lists of points held against one another by the law (contracts for the walks).
  Conditions: as each theorem states them.
-/
import Derived.Test.YtegmlemejmahiaaDoorB4
namespace Go.Proofs.YtegmlemejmahiaaDoor
open Go.RowKit
set_option linter.unusedVariables false
set_option maxRecDepth 8000
set_option maxHeartbeats 2000000 in
theorem hasPoint_c (l : List (Int × Int)) (x y : Int) (a : Option Addr) (len cap : Nat) (w : World) (hl : l.length = len) (h1 : len ≤ 1048576) (hA : At w.heap.size a l w) (hm : (x, y) ∈ l) :
    Calls Tryd.prog 34 #[.slice a len cap, .agg #[.int .i64 x, .int .i64 y]] w fun e w' => e = .returned (.bool true) ∧ Below w.heap.size w w' := by
  subst hl
  have HA := hid hA
  have HM := hid hm
  clear hA hm
  go_enter Tryd.func34, Tryd.ntmps34
  go_wp2
  go_loopw [9] (fun i wr => ∃ k : Nat, k ≤ l.length ∧ i = .int .i64 k ∧ (∀ i, i < k → ¬ (px l i = x ∧ py l i = y)) ∧ wr.cell? ⟨w.heap.size, 0, none⟩ = some (.int .i64 x) ∧ wr.cell? ⟨w.heap.size, 1, none⟩ = some (.int .i64 y) ∧ Below w.heap.size w wr) (fun i _ => l.length - (intOf i).toNat)
  case atStart => exact ⟨0, Nat.zero_le _, rfl, fun i h => absurd h (Nat.not_lt_zero _), box0 _ _ _ _, box1 _ _ _ _, by go_grown⟩
  case round =>
    obtain ⟨k, hk, rfl, hC, r0, r1, hbw⟩ := hrel
    have HC := hid hC
    clear hC
    by_cases hkl : k < l.length
    · obtain ⟨b, off, rfl, hbN, g0, g1⟩ := HA.out k hkl
      have q0 := cell_later hbw g0
      have q1 := cell_later hbw g1
      clear g0 g1
      have hsz := hbw.size
      have hbb : b < wr.heap.size := by omega
      have hwb : w.heap.size < wr.heap.size := World.block_lt_of_cell? wr _ r0
      by_cases e1 : px l k = x
      · by_cases e2 : py l k = y
        · rw [e1] at q0
          rw [e2] at q1
          clear e1 e2
          go_wp2
          go_ret
          exact ⟨rfl, grew hbw (by go_grown)⟩
        · have y1 : (py l k == y) = false := by simpa using e2
          have HN := hid e2
          rw [e1] at q0
          clear e1 e2
          go_wp2
          go_roundw
          case rel =>
            refine ⟨k + 1, by omega, by go_num, fun i hi h => ?_, cell_later (by go_grown) r0, cell_later (by go_grown) r1, grew hbw (by go_grown)⟩
            by_cases hik : i = k
            · subst hik; exact HN.out h.2
            · exact HC.out i (by omega) h
          case measure => simp [intOf]; omega
      · have y0 : (px l k == x) = false := by simpa using e1
        have HN := hid e1
        clear e1
        go_wp2
        go_roundw
        case rel =>
          refine ⟨k + 1, by omega, by go_num, fun i hi h => ?_, cell_later (by go_grown) r0, cell_later (by go_grown) r1, grew hbw (by go_grown)⟩
          by_cases hik : i = k
          · subst hik; exact HN.out h.1
          · exact HC.out i (by omega) h
        case measure => simp [intOf]; omega
    · exfalso
      obtain ⟨i, hi, he⟩ := List.getElem_of_mem HM.out
      have hp : (px l i, py l i) = l[i] := by simp [px, py, hi]
      rw [he] at hp
      simp at hp
      exact HC.out i (by omega) hp
end Go.Proofs.YtegmlemejmahiaaDoor
