/-
  A list from its end to its beginning, in the specification (a contract for the walks).
  Conditions: as each theorem states them.
-/
import Derived.Test.YtegmlemejmahiaaDoorHHalf
namespace Go.Proofs.YtegmlemejmahiaaDoor
open Go.RowKit
set_option linter.unusedVariables false
theorem back_step {l : List (Int × Int)} {m : Nat} (h : m < l.length) : (l.drop m).reverse = (l.drop (m + 1)).reverse ++ [(px l m, py l m)] := by
  rw [List.drop_eq_getElem_cons h, List.reverse_cons]
  have e : (px l m, py l m) = l[m] := by simp [px, py, h]
  rw [e]
set_option maxHeartbeats 2000000 in
theorem l3Back_c (l : List (Int × Int)) (a : Option Addr) (len cap : Nat) (w : World) (hl : l.length = len) (h1 : len ≤ 1048576) (hA : At w.heap.size a l w) :
    Calls Tryd.prog 81 #[.slice a len cap] w fun e w' => ∃ v, e = .returned v ∧ OwnC w.heap.size v l.reverse w' ∧ Below w.heap.size w w' := by
  subst hl
  have HA := hid hA
  clear hA
  obtain ⟨i0, hi, hz0, hz1, hz2⟩ := info_parts info_pt
  go_enter Tryd.func81, Tryd.ntmps81
  go_wp2
  go_loopw [3, 4] (fun o i wr => ∃ j : Nat, j ≤ l.length ∧ i = .int .i64 ((j : Int) - 1) ∧ OwnC w.heap.size o (l.drop j).reverse wr ∧ Below w.heap.size w wr) (fun o i _ => (intOf i + 1).toNat)
  case atStart =>
    refine ⟨l.length, Nat.le_refl _, ?_, by rw [List.drop_length]; exact OwnC.nil _ _, Below.refl _ _⟩
    first | rfl | (congr 1; unfold wrap64; omega) | (congr 1; rw [IntKind.wrap_i64]; omega)
  case round =>
    obtain ⟨j, hj, rfl, hO, hbw⟩ := hrel
    have HO := hid hO
    have HB := hid hbw
    cases j with
    | zero =>
      clear hO
      go_wp2
      go_ret
      exact ⟨_, rfl, by have := HO.out; simpa using this, hbw⟩
    | succ m =>
      obtain ⟨b, off, rfl, hbN, g0, g1⟩ := HA.out m (by omega)
      have q0 := cell_later hbw g0
      have q1 := cell_later hbw g1
      have hsz := hbw.size
      have hidx : ((m + 1 : Nat) : Int) - 1 = (m : Int) := by omega
      have hst := hid (back_step (l := l) (m := m) (by omega))
      have hlen : (l.drop (m + 1)).reverse.length + 1 ≤ 1048576 := by rw [List.length_reverse, List.length_drop]; omega
      obtain ⟨R, hR⟩ : ∃ R, (l.drop (m + 1)).reverse = R := ⟨_, rfl⟩
      rw [hR] at hst hlen HO
      obtain ⟨a3, c3, hv3⟩ := HO.out.shape
      subst hv3
      obtain ⟨x, hx⟩ : ∃ x, px l m = x := ⟨_, rfl⟩
      obtain ⟨y, hy⟩ : ∃ y, py l m = y := ⟨_, rfl⟩
      rw [hx, hy] at hst
      rw [hx] at q0
      rw [hy] at q1
      rw [hidx]
      have hm0 : (0 : Int) ≤ (m : Int) := by omega
      have hm1 : (m : Int) < (l.length : Int) := by omega
      clear g0 g1 hR hx hy hO hbw
      go_wp2_with (at_builtin; refine wpList_append_cut rfl (.tmp 12) (.tmp 17) 29 rfl w.heap.size Tryd.underlying29 hi hz0 hz1 hz2 (by rfl) _ R [(x, y)] rfl (HO.out.later (by go_grown)) _ _ _ rfl rfl (fun j u hu => one_src _ x y _ rfl j u hu) (by simp) (by simpa using hlen) (by simp; omega) ?_; intro g cp w2 hO2 hg2 _; obtain ⟨ln, hln⟩ : ∃ ln, R.length + [(x, y)].length = ln := ⟨_, rfl⟩; rw [hln] at hO2 ⊢; clear hln; have hB2 := OwnC.grownBelow (HO.out.later (by go_grown)) hg2 (by simp; omega); have HX := hid hO2; have HB2 := hid hB2; clear hg2 hO2 hB2)
      go_roundw
      case rel =>
        refine ⟨m, by omega, by first | rfl | go_num | (congr 1; unfold wrap64; omega) | (congr 1; omega), ?_, (grew HB.out (by go_grown)).trans HB2.out⟩
        rw [hst.out]
        exact HX.out
      case measure => first | (simp [intOf]; done) | (simp [intOf]; omega)
end Go.Proofs.YtegmlemejmahiaaDoor
