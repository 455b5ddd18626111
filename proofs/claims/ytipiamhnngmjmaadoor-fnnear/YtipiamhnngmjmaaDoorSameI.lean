/-
  Two lists of numbers compared (a contract for the walks).
  Conditions: as each theorem states them.
-/
import Derived.Test.YtipiamhnngmjmaaDoorFInt
namespace Go.Proofs.YtipiamhnngmjmaaDoor
open Go.RowKit
set_option linter.unusedVariables false
set_option maxRecDepth 8000
set_option maxHeartbeats 2000000 in
theorem sameI_c (l m : List Int) (a c : Option Addr) (len cap lem cam : Nat) (w : World) (hl : l.length = len) (hm : m.length = lem) (h1 : len ≤ 1048576) (h2 : lem ≤ 1048576) (hA : AtI w.heap.size a l w) (hB : AtI w.heap.size c m w) :
    Calls Tryd.prog 68 #[.slice a len cap, .slice c lem cam] w fun e w' => e = .returned (.bool (decide (l = m))) ∧ Below w.heap.size w w' := by
  subst hl hm
  by_cases hlm : l.length = m.length
  · have HA := hid hA
    have HB := hid hB
    have HL := hid hlm
    clear hA hB
    rw [← hlm] at h2 ⊢
    clear hlm h2
    go_enter Tryd.func68, Tryd.ntmps68
    go_wp2
    go_loopw [13] (fun i wr => ∃ k : Nat, k ≤ l.length ∧ i = .int .i64 k ∧ AlikeI l m k ∧ Below w.heap.size w wr) (fun i _ => l.length - (intOf i).toNat)
    case atStart => exact ⟨0, Nat.zero_le _, rfl, fun i hi => absurd hi (Nat.not_lt_zero _), Below.refl _ _⟩
    case round =>
      obtain ⟨k, hk, rfl, hC, hbw⟩ := hrel
      have HC := hid hC
      clear hC
      by_cases hkl : k < l.length
      · obtain ⟨b, off, rfl, hbN, g0⟩ := HA.out k (by omega)
        obtain ⟨b2, off2, rfl, hbN2, g2⟩ := HB.out k (by have := HL.out; omega)
        have q0 := cell_later hbw g0
        have q2 := cell_later hbw g2
        clear g0 g2
        by_cases hE : ix l k = ix m k
        · have HE := hid hE
          have hF : (ix l k != ix m k) = false := by simp [hE]
          clear hE
          go_wp2
          go_quiet (fail)
          go_wp2
          go_roundw
          case rel => exact ⟨k + 1, by omega, by go_num, HC.out.succ HE.out, grew hbw (drewN_below _ _)⟩
          case measure => simp [intOf]; omega
        · have HE := hid hE
          have hF : (ix l k != ix m k) = true := by simp [hE]
          clear hE
          go_wp2
          go_quiet (fail)
          go_wp2
          go_ret
          exact ⟨by rw [not_alikeI HE.out]; rfl, grew hbw (drewN_below _ _)⟩
      · obtain rfl : k = l.length := by omega
        go_wp2
        go_ret
        exact ⟨by rw [decide_eq_true (HC.out.eq HL.out)]; rfl, hbw⟩
  · have hd : ((l.length : Int) != (m.length : Int)) = true := by simp; omega
    go_enter Tryd.func68, Tryd.ntmps68
    go_wp2
    go_ret
    exact ⟨by rw [decide_eq_false (fun e => hlm (by rw [e]))]; rfl, Below.refl _ _⟩
end Go.Proofs.YtipiamhnngmjmaaDoor
