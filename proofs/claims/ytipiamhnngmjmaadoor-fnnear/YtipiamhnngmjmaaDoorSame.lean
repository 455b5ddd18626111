/-
  Lists of points held against one another by the law (contracts for the walks).
  Conditions: as each theorem states them.
-/
import Derived.Test.YtipiamhnngmjmaaDoorLists2
namespace Go.Proofs.YtipiamhnngmjmaaDoor
open Go.RowKit
set_option linter.unusedVariables false
set_option maxRecDepth 8000
set_option maxHeartbeats 2000000 in
theorem same_c (l m : List (Int × Int)) (a c : Option Addr) (len cap lem cam : Nat) (w : World) (hl : l.length = len) (hm : m.length = lem) (h1 : len ≤ 1048576) (h2 : lem ≤ 1048576) (hA : At w.heap.size a l w) (hB : At w.heap.size c m w) :
    Calls Tryd.prog 45 #[.slice a len cap, .slice c lem cam] w fun e w' => e = .returned (.bool (decide (l = m))) ∧ Below w.heap.size w w' := by
  subst hl hm
  by_cases hlm : l.length = m.length
  · have HA := hid hA
    have HB := hid hB
    have HL := hid hlm
    clear hA hB
    rw [← hlm] at h2 ⊢
    clear hlm h2
    go_enter Tryd.func45, Tryd.ntmps45
    go_wp2
    go_loopw [13] (fun i wr => ∃ k : Nat, k ≤ l.length ∧ i = .int .i64 k ∧ Alike l m k ∧ Below w.heap.size w wr) (fun i _ => l.length - (intOf i).toNat)
    case atStart => exact ⟨0, Nat.zero_le _, rfl, Alike.zero _ _, Below.refl _ _⟩
    case round =>
      obtain ⟨k, hk, rfl, hC, hbw⟩ := hrel
      have HC := hid hC
      clear hC
      by_cases hkl : k < l.length
      · obtain ⟨b, off, rfl, hbN, g0, g1⟩ := HA.out k (by omega)
        obtain ⟨b2, off2, rfl, hbN2, g2, g3⟩ := HB.out k (by have := HL.out; omega)
        have q0 := cell_later hbw g0
        have q1 := cell_later hbw g1
        have q2 := cell_later hbw g2
        have q3 := cell_later hbw g3
        clear g0 g1 g2 g3
        have hi1 : (0 : Int) ≤ (k : Int) := by omega
        have hi2 : (k : Int) < (l.length : Int) := by omega
        by_cases e1 : px l k = px m k
        · by_cases e2 : py l k = py m k
          · have hE : eqB (px l k) (py l k) (px m k) (py m k) = true := decide_eq_true ⟨e1, e2⟩
            have HE := hid hE
            rw [← e1] at q2
            rw [← e2] at q3
            clear e1 e2 hE
            go_wp2
            go_quiet (fail)
            go_wp2
            go_roundw
            case rel => exact ⟨k + 1, by omega, by go_num, HC.out.succ HE.out, grew hbw (drewN_below _ _)⟩
            case measure => simp [intOf]; omega
          · have hE : eqB (px l k) (py l k) (px m k) (py m k) = false := decide_eq_false (fun h => e2 h.2)
            have HE := hid hE
            have y1 : (py l k == py m k) = false := by simpa using e2
            rw [← e1] at q2
            clear e1 e2 hE
            go_wp2
            go_quiet (fail)
            go_wp2
            go_ret
            exact ⟨by rw [not_alike HE.out]; rfl, grew hbw (drewN_below _ _)⟩
        · have hE : eqB (px l k) (py l k) (px m k) (py m k) = false := decide_eq_false (fun h => e1 h.1)
          have HE := hid hE
          have y0 : (px l k == px m k) = false := by simpa using e1
          clear e1 hE
          go_wp2
          go_quiet (fail)
          go_wp2
          go_ret
          exact ⟨by rw [not_alike HE.out]; rfl, grew hbw (drewN_below _ _)⟩
      · obtain rfl : k = l.length := by omega
        go_wp2
        go_ret
        exact ⟨by rw [decide_eq_true (HC.out.eq HL.out)]; rfl, hbw⟩
  · have hd : ((l.length : Int) != (m.length : Int)) = true := by simp; omega
    have e : decide (l = m) = false := decide_eq_false fun h => hlm (by rw [h])
    go_enter Tryd.func45, Tryd.ntmps45
    go_wp2
    go_ret
    exact ⟨by rw [e]; rfl, Below.refl _ _⟩
set_option maxHeartbeats 2000000 in
theorem hasPoint_c (l : List (Int × Int)) (x y : Int) (a : Option Addr) (len cap : Nat) (w : World) (hl : l.length = len) (h1 : len ≤ 1048576) (hA : At w.heap.size a l w) (hm : (x, y) ∈ l) :
    Calls Tryd.prog 39 #[.slice a len cap, .agg #[.int .i64 x, .int .i64 y]] w fun e w' => e = .returned (.bool true) ∧ Below w.heap.size w w' := by
  subst hl
  have HA := hid hA
  have HM := hid hm
  clear hA hm
  go_enter Tryd.func39, Tryd.ntmps39
  go_wp2
  go_loopw [9] (fun i wr => ∃ k : Nat, k ≤ l.length ∧ i = .int .i64 k ∧ (∀ i, i < k → ¬ (px l i = x ∧ py l i = y)) ∧ wr.cell? ⟨w.heap.size, 0, none⟩ = some (.int .i64 x) ∧ wr.cell? ⟨w.heap.size, 1, none⟩ = some (.int .i64 y) ∧ Below w.heap.size w wr) (fun i _ => l.length - (intOf i).toNat)
  case atStart => exact ⟨0, Nat.zero_le _, rfl, fun i h => absurd h (Nat.not_lt_zero _), box0 _ _ _ _, box1 _ _ _ _, by go_grown⟩
  case round =>
    obtain ⟨k, hk, rfl, hC, r0, r1, hbw⟩ := hrel
    have HC := hid hC
    clear hC
    by_cases hkl : k < l.length
    · obtain ⟨b, off, rfl, hbN, g0, g1⟩ := HA.out k hkl
      have q0 := cell_later hbw g0
      have q1 := cell_later hbw g1
      clear g0 g1
      have hsz := hbw.size
      have hbb : b < wr.heap.size := by omega
      have hwb : w.heap.size < wr.heap.size := World.block_lt_of_cell? wr _ r0
      by_cases e1 : px l k = x
      · by_cases e2 : py l k = y
        · rw [e1] at q0
          rw [e2] at q1
          clear e1 e2
          go_wp2
          go_ret
          exact ⟨rfl, grew hbw (by go_grown)⟩
        · have y1 : (py l k == y) = false := by simpa using e2
          have HN := hid e2
          rw [e1] at q0
          clear e1 e2
          go_wp2
          go_roundw
          case rel =>
            refine ⟨k + 1, by omega, by go_num, fun i hi h => ?_, cell_later (by go_grown) r0, cell_later (by go_grown) r1, grew hbw (by go_grown)⟩
            by_cases hik : i = k
            · subst hik; exact HN.out h.2
            · exact HC.out i (by omega) h
          case measure => simp [intOf]; omega
      · have y0 : (px l k == x) = false := by simpa using e1
        have HN := hid e1
        clear e1
        go_wp2
        go_roundw
        case rel =>
          refine ⟨k + 1, by omega, by go_num, fun i hi h => ?_, cell_later (by go_grown) r0, cell_later (by go_grown) r1, grew hbw (by go_grown)⟩
          by_cases hik : i = k
          · subst hik; exact HN.out h.1
          · exact HC.out i (by omega) h
        case measure => simp [intOf]; omega
    · exfalso
      obtain ⟨i, hi, he⟩ := List.getElem_of_mem HM.out
      have hp : (px l i, py l i) = l[i] := by simp [px, py, hi]
      rw [he] at hp
      simp at hp
      exact HC.out i (by omega) hp
end Go.Proofs.YtipiamhnngmjmaaDoor
