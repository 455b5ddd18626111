/-
  What TurnSet answers, in the specification and in the program (contracts for the walks).
  Conditions: as each theorem states them.
-/
import Derived.Test.YtfhlgdngmdlakaaDoorSet17
namespace Go.Proofs.YtfhlgdngmdlakaaDoor
open Go.RowKit
set_option linter.unusedVariables false
def turnL (l : List (Int × Int)) : List (Int × Int) := l.map fun p => (-p.2, p.1)
theorem turnL_len (l : List (Int × Int)) : (turnL l).length = l.length := by simp [turnL]
theorem px_turn {l : List (Int × Int)} {k : Nat} (h : k < l.length) : px (turnL l) k = -py l k := by simp [px, py, turnL, h]
theorem py_turn {l : List (Int × Int)} {k : Nat} (h : k < l.length) : py (turnL l) k = px l k := by simp [px, py, turnL, h]
theorem turnL_take {l : List (Int × Int)} {k : Nat} (h : k < l.length) : turnL (l.take (k + 1)) = turnL (l.take k) ++ [(-py l k, px l k)] := by
  unfold turnL
  rw [List.take_succ_eq_append_getElem h, List.map_append]
  simp [px, py, h]
def turnA (l : List (Int × Int)) : List (Int × Int) := if goodL l then fromL (turnL l) else []
theorem turnA_len (l : List (Int × Int)) (h : l.length ≤ 1048576) : (turnA l).length ≤ 1048576 := by
  unfold turnA
  split
  · have := fromL_len (turnL l) (turnL l).length (Nat.le_refl _)
    rw [List.take_length, turnL_len] at this
    omega
  · exact Nat.zero_le _
set_option maxHeartbeats 1000000 in
theorem l2Turn_c (l : List (Int × Int)) (a : Option Addr) (len cap : Nat) (w : World) (hl : l.length = len) (h1 : len ≤ 1048576) (hgood : GoodTo l l.length) (hA : At w.heap.size a l w) :
    Calls Tryd.prog 48 #[.slice a len cap] w fun e w' => ∃ v, e = .returned v ∧ Own w.heap.size v (turnL l) w' ∧ Below w.heap.size w w' := by
  subst hl
  have HA := hid hA
  have HG := hid hgood
  clear hA hgood
  obtain ⟨i0, hi, hz0, hz1, hz2⟩ := info_parts info_pt
  go_enter Tryd.func48, Tryd.ntmps48
  go_wp2
  go_loopw [3, 8] (fun v i wr => ∃ k : Nat, k ≤ l.length ∧ i = .int .i64 k ∧ wr.ownsRow w.heap.size 26 2 v k (cells (turnL (l.take k))) ∧ Below w.heap.size w wr) (fun v i _ => l.length - (intOf i).toNat)
  case atStart => exact ⟨0, Nat.zero_le _, rfl, World.ownsRow_nil _ _ _ _, Below.refl _ _⟩
  case round =>
    obtain ⟨k, hk, rfl, hown, hbr⟩ := hrel
    have hsz := hbr.size
    by_cases hkl : k < l.length
    · obtain ⟨b, off, rfl, hbN, g0, g1⟩ := HA.out k hkl
      have q0 := cell_later hbr g0
      have q1 := cell_later hbr g1
      clear g0 g1
      have hbb : b < wr.heap.size := by omega
      have hgk := goodB_b (HG.out k hkl)
      go_wp2_with (at_builtin; refine wpList_append_own _ rfl _ _ 24 rfl w.heap.size 26 i0 _ 2 16 Tryd.underlying24 hi hz0 hz1 hz2 rfl (by decide) _ _ _ rfl ((hown.alloc _).alloc _) ⟨wr.heap.size + 1, 0, none⟩ 1 1 [.int .i64 (-py l k), .int .i64 (px l k)] rfl rfl ?c1 ?c2 ?c3 ?c4 ?c5 ?_)
      case c1 =>
        intro j u hj
        match j, hj with
        | 0, hj => simp at hj; subst hj; simp [Addr.add, go_sem]
        | 1, hj => simp at hj; subst hj; simp [Addr.add, go_sem]
      case c2 => intro u hu; simp at hu; rcases hu with rfl | rfl <;> rfl
      case c3 => unfold maxLen; omega
      case c4 => omega
      case c5 => simp; omega
      · intro v' w4 hown' hgrow _
        have hR : w4.ownsRow w.heap.size 26 2 v' (k + 1) (cells (turnL (l.take (k + 1)))) := by
          rw [turnL_take hkl, cells_append, cells_one]; exact hown'
        have hB4 : Below w.heap.size w w4 := grown_own hbr (by go_grown) hgrow hown
        clear hown' hgrow hown
        go_wp2
        go_roundw
        case rel => exact ⟨k + 1, by omega, by go_num, hR, hB4⟩
        case measure => simp [intOf]; omega
    · obtain rfl : k = l.length := by omega
      rw [List.take_length] at hown
      go_wp2
      go_ret
      exact ⟨_, rfl, own_of hown, hbr⟩
set_option maxHeartbeats 1000000 in
theorem turnSpec_c (l : List (Int × Int)) (a : Option Addr) (len cap : Nat) (w : World) (hl : l.length = len) (h1 : len ≤ 1048576) (hA : At w.heap.size a l w) :
    Calls Tryd.prog 25 #[.slice a len cap] w fun e w' => ∃ v, e = .returned (.tuple #[v, .bool (goodL l)]) ∧ Own w.heap.size v (turnA l) w' ∧ Below w.heap.size w w' := by
  subst hl
  have HA := hid hA
  clear hA
  cases hG : goodL l
  · have e2 : turnA l = [] := by rw [turnA, hG]; rfl
    rw [e2]
    clear e2
    go_enter Tryd.func25, Tryd.ntmps25
    go_wp2_with (go_at_call 36; refine (l2Good_c l _ _ _ _ rfl h1 HA.out).mono ?_; rintro e w1 ⟨rfl, hb1⟩)
    go_ret2
    exact ⟨_, rfl, Own.nil _ _, hb1⟩
  · have e2 : turnA l = fromL (turnL l) := by rw [turnA, hG]; rfl
    rw [e2]
    clear e2
    have HG := hid (goodL_good hG)
    go_enter Tryd.func25, Tryd.ntmps25
    go_wp2_with (first
      | (go_at_call 36; refine (l2Good_c l _ _ _ _ rfl h1 HA.out).mono ?_; rintro e w1 ⟨rfl, hb1⟩)
      | (go_at_call 48; refine (l2Turn_c l _ _ _ w1 rfl h1 HG.out ((HA.out.later hb1).mono hb1.size)).mono ?_; rintro e w2 ⟨v2, rfl, ho2, hb2⟩; obtain ⟨a2, p2, hv2⟩ := ho2.shape; rw [turnL_len] at hv2; subst hv2; have hb12 := grew hb1 hb2)
      | (go_at_call 47; refine (l2From_c (turnL l) _ _ _ w2 (turnL_len l) h1 ho2.at).mono ?_; rintro e w3 ⟨v3, rfl, ho3, hb3⟩))
    go_ret2
    exact ⟨_, rfl, ho3.mono hb12.size, grew hb12 hb3⟩
set_option maxHeartbeats 1000000 in
theorem turnImpl_c (l : List (Int × Int)) (a : Option Addr) (len cap : Nat) (w : World) (hl : l.length = len) (h1 : len ≤ 1048576) (hA : At w.heap.size a l w) (c0 : w.cell? ⟨0, 0, none⟩ = some (.int .i64 1000000)) :
    Calls Tryd.prog 24 #[.slice a len cap] w fun e w' => ∃ v, e = .returned (.tuple #[v, .bool (goodL l)]) ∧ Own w.heap.size v (turnA l) w' ∧ Below w.heap.size w w' := by
  subst hl
  have HA := hid hA
  have C0 := hid c0
  clear hA c0
  cases hG : goodL l
  · have e2 : turnA l = [] := by rw [turnA, hG]; rfl
    rw [e2]
    clear e2
    go_enter Tryd.func24, Tryd.ntmps24
    go_wp2_with (go_at_call 10; refine (goodSetImpl_c l _ _ _ _ rfl h1 HA.out C0.out).mono ?_; rintro e w1 ⟨rfl, hb1⟩)
    go_ret2
    exact ⟨_, rfl, Own.nil _ _, hb1⟩
  · have e2 : turnA l = fromL (turnL l) := by rw [turnA, hG]; rfl
    rw [e2]
    clear e2
    have HG := hid (goodL_good hG)
    obtain ⟨i0, hi, hz0, hz1, hz2⟩ := info_parts info_pt
    have hmk := fun (u : World) => run_make (P := Tryd.prog) u 24 26 i0 _ Tryd.underlying24 hi hz0 .i64 .i64 l.length l.length (by omega) (by omega) (by rw [hz2]; omega) (by omega)
    simp only [hz1, Int.toNat_natCast] at hmk
    clear hz0 hz1 hz2 hi
    go_enter Tryd.func24, Tryd.ntmps24
    go_wp2_with (go_at_call 10; refine (goodSetImpl_c l _ _ _ _ rfl h1 HA.out C0.out).mono ?_; rintro e w2 ⟨rfl, hbw2⟩)
    go_loopw [15] (fun i wr => ∃ k : Nat, k ≤ l.length ∧ i = .int .i64 k ∧ Cop (turnL l) k w2 wr) (fun i _ => l.length - (intOf i).toNat)
    case atStart =>
      have hS := Cop.start (turnL l) w2
      rw [turnL_len] at hS
      exact ⟨0, Nat.zero_le _, rfl, hS⟩
    case round =>
      obtain ⟨k, hk, rfl, hC⟩ := hrel
      have HC := hid hC
      have hbr := hC.below
      have hns : w2.heap.size < wr.heap.size := hC.row.lt
      have hbA := grew hbw2 hbr
      clear hC
      by_cases hkl : k < l.length
      · obtain ⟨b, off, rfl, hbN, g0, g1⟩ := HA.out k hkl
        have q0 := cell_later hbA g0
        have q1 := cell_later hbA g1
        clear g0 g1
        have hbb : b < w2.heap.size := by have := hbw2.size; omega
        have hbr2 : b < wr.heap.size := by omega
        have hgk := goodB_b (HG.out k hkl)
        have hkm : k < (turnL l).length := by rw [turnL_len]; exact hkl
        have HX := hid (px_turn hkl)
        have HY := hid (py_turn hkl)
        have v0 := HC.out.t0 (Below.refl _ _) hkm
        have v1 := HC.out.t1 (Below.refl _ _) hkm
        have f0 := HC.out.f (Below.refl _ _) (k * 2)
        have f1 := HC.out.f (Below.refl _ _) (k * 2 + 1)
        go_wp2
        go_roundw
        case rel => exact ⟨k + 1, by omega, by go_num, (HC.out.step2 (Below.refl _ _) hkm HX.out HY.out).later (by go_grown)⟩
        case measure => simp [intOf]; omega
      · obtain rfl : k = l.length := by omega
        have hC := HC.out
        rw [← turnL_len l] at hC
        have HT := hid hC.at
        go_wp2_with (go_at_call 46; refine (sortedFrom_c (turnL l) _ _ _ wr (turnL_len l) h1 HT.out).mono ?_; rintro e w3 ⟨v3, rfl, ho3, hb3⟩)
        go_ret2
        exact ⟨_, rfl, ho3.mono hbA.size, grew hbA hb3⟩
end Go.Proofs.YtfhlgdngmdlakaaDoor
