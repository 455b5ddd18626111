/-
  Small hulls, and the points counted one by one: the program's function and the specification's (contracts for the walks).
  Conditions: as each theorem states them.
-/
import Derived.Test.YtohcllojjmhbcaaDoorArMath
import Derived.Test.YtohcllojjmhbcaaDoorTop4
import Derived.Deep.QuietTactic
import Derived.Deep.DeepCutAuto
namespace Go.Proofs.YtohcllojjmhbcaaDoor
open Go.RowKit Go.Shelf
set_option linter.unusedVariables false
set_option maxRecDepth 8000
def SmTo (l : List (Int × Int)) (k : Nat) : Prop := ∀ i, i < k → smB (px l i) (py l i) = true
theorem SmTo.succ {l : List (Int × Int)} {k : Nat} (h : SmTo l k) (e : smB (px l k) (py l k) = true) : SmTo l (k + 1) := fun i hi => by
  by_cases hk : i = k
  · subst hk; exact e
  · exact h i (by omega)
theorem allSm_iff (l : List (Int × Int)) : allSm l = true ↔ SmTo l l.length := by
  simp [allSm, SmTo]
theorem allSm_false {l : List (Int × Int)} {k : Nat} (hk : k < l.length) (e : smB (px l k) (py l k) = false) : allSm l = false := by
  cases h : allSm l
  · rfl
  · rw [(allSm_iff l).1 h k hk] at e; cases e
def shB (l : List (Int × Int)) : Bool := allSm l && ghB l
theorem smI_c (x y : Int) (w : World) (c3 : w.cell? ⟨0, 3, none⟩ = some (.int .i64 40)) : Calls Tryd.prog 73 #[.agg #[.int .i64 x, .int .i64 y], .int .i64 3] w fun e w' => e = .returned (.bool (smB x y)) ∧ Below w.heap.size w w' := by
  have hz : 0 < w.heap.size := World.block_lt_of_cell? w _ c3
  by_cases h1 : -40 ≤ x
  · by_cases h2 : x ≤ 40
    · by_cases h3 : -40 ≤ y
      · by_cases h4 : y ≤ 40
        · have e : smB x y = true := decide_eq_true (by omega)
          go_enter Tryd.func73, Tryd.ntmps73
          go_wp2
          go_ret
          exact ⟨by first | rfl | (rw [e]; rfl), by go_grown⟩
        · have e : smB x y = false := decide_eq_false (by omega)
          go_enter Tryd.func73, Tryd.ntmps73
          go_wp2
          go_ret
          exact ⟨by first | rfl | (rw [e]; rfl), by go_grown⟩
      · have e : smB x y = false := decide_eq_false (by omega)
        go_enter Tryd.func73, Tryd.ntmps73
        go_wp2
        go_ret
        exact ⟨by first | rfl | (rw [e]; rfl), by go_grown⟩
    · have e : smB x y = false := decide_eq_false (by omega)
      go_enter Tryd.func73, Tryd.ntmps73
      go_wp2
      go_ret
      exact ⟨by first | rfl | (rw [e]; rfl), by go_grown⟩
  · have e : smB x y = false := decide_eq_false (by omega)
    go_enter Tryd.func73, Tryd.ntmps73
    go_wp2
    go_ret
    exact ⟨by first | rfl | (rw [e]; rfl), by go_grown⟩
set_option maxHeartbeats 4000000 in
theorem smallImpl_c (l : List (Int × Int)) (a : Option Addr) (len cap : Nat) (w : World) (hl : l.length = len) (h1 : len ≤ 1048576) (hA : At w.heap.size a l w) (c0 : w.cell? ⟨0, 0, none⟩ = some (.int .i64 1000000)) (c3 : w.cell? ⟨0, 3, none⟩ = some (.int .i64 40)) :
    Calls Tryd.prog 51 #[.slice a len cap] w fun e w' => e = .returned (.bool (shB l)) ∧ Below w.heap.size w w' := by
  subst hl
  have HA := hid hA
  have C0 := hid c0
  have C3 := hid c3
  clear hA c0 c3
  go_enter Tryd.func51, Tryd.ntmps51
  go_wp2
  go_loopw [7] (fun i wr => ∃ k : Nat, k ≤ l.length ∧ i = .int .i64 (k : Int) ∧ SmTo l k ∧ Below w.heap.size w wr) (fun i _ => l.length - (intOf i).toNat)
  case atStart => exact ⟨0, Nat.zero_le _, rfl, fun i hi => absurd hi (Nat.not_lt_zero _), by go_grown⟩
  case round =>
    obtain ⟨k, hk, rfl, hC, hbw⟩ := hrel
    have HC := hid hC
    clear hC
    by_cases hkl : k < l.length
    · obtain ⟨b, off, rfl, hbN, g0, g1⟩ := HA.out k hkl
      have q0 := cell_later hbw g0
      have q1 := cell_later hbw g1
      clear g0 g1
      have nk : (0 : Int) ≤ (k : Int) := by omega
      have nk1 : (k : Int) < (l.length : Int) := by omega
      have HXY0 := hid (rfl : smB (px l k) (py l k) = smB (px l k) (py l k))
      obtain ⟨x, hx⟩ : ∃ x, px l k = x := ⟨_, rfl⟩
      obtain ⟨y, hy⟩ : ∃ x, py l k = x := ⟨_, rfl⟩
      have HXY := hid (show smB (px l k) (py l k) = smB x y by rw [hx, hy])
      rw [hx] at q0
      rw [hy] at q1
      clear hx hy HXY0
      cases hE : smB x y
      · have HE := hid hE
        go_upto_region 4 with fail
        have hb8 : Below wr.heap.size wr (wr.alloc (.cells #[.int .i64 x, .int .i64 y] 26)) := by go_grown
        have k0 := box0 wr x y 26
        have k1 := box1 wr x y 26
        have hbx := grew hbw hb8
        clear q0 q1 hb8 hbw
        generalize wr.alloc (.cells #[.int .i64 x, .int .i64 y] 26) = wp at *
        generalize wr.heap.size = B8 at *
        go_wp2_with (go_at_call 73; refine (smI_c _ _ _ (cell_later hbx C3.out)).mono ?_; rw [hE]; rintro e w2 ⟨rfl, hb2⟩; have hby := grew hbx hb2)
        go_ret
        exact ⟨ret_bool (by unfold shB; rw [allSm_false hkl (HXY.out.trans HE.out)]; rfl), hby⟩
      · have HE := hid hE
        go_upto_region 4 with fail
        have hb8 : Below wr.heap.size wr (wr.alloc (.cells #[.int .i64 x, .int .i64 y] 26)) := by go_grown
        have k0 := box0 wr x y 26
        have k1 := box1 wr x y 26
        have hbx := grew hbw hb8
        clear q0 q1 hb8 hbw
        generalize wr.alloc (.cells #[.int .i64 x, .int .i64 y] 26) = wp at *
        generalize wr.heap.size = B8 at *
        go_wp2_with (go_at_call 73; refine (smI_c _ _ _ (cell_later hbx C3.out)).mono ?_; rw [hE]; rintro e w2 ⟨rfl, hb2⟩; have hby := grew hbx hb2)
        go_roundw
        case rel => exact ⟨k + 1, by omega, by go_num, HC.out.succ (HXY.out.trans HE.out), hby⟩
        case measure => simp [intOf]; omega
    · obtain rfl : k = l.length := by omega
      have HS := hid ((allSm_iff l).2 HC.out)
      go_wp2_with (go_at_call 44; refine (goodHullImpl_c l _ _ _ _ rfl h1 ((HA.out.later hbw).mono hbw.size) (cell_later hbw C0.out)).mono ?_; rintro e w2 ⟨rfl, hb2⟩)
      go_ret
      exact ⟨ret_bool (by unfold shB; rw [HS.out]; rfl), grew hbw hb2⟩
set_option maxHeartbeats 4000000 in
theorem smallSpec_c (l : List (Int × Int)) (a : Option Addr) (len cap : Nat) (w : World) (hl : l.length = len) (h1 : len ≤ 1048576) (hA : At w.heap.size a l w) :
    Calls Tryd.prog 55 #[.slice a len cap] w fun e w' => e = .returned (.bool (shB l)) ∧ Below w.heap.size w w' := by
  subst hl
  have HA := hid hA
  clear hA
  go_enter Tryd.func55, Tryd.ntmps55
  go_wp2
  go_loopw [7] (fun i wr => ∃ k : Nat, k ≤ l.length ∧ i = .int .i64 (k : Int) ∧ SmTo l k ∧ Below w.heap.size w wr) (fun i _ => l.length - (intOf i).toNat)
  case atStart => exact ⟨0, Nat.zero_le _, rfl, fun i hi => absurd hi (Nat.not_lt_zero _), by go_grown⟩
  case round =>
    obtain ⟨k, hk, rfl, hC, hbw⟩ := hrel
    have HC := hid hC
    clear hC
    by_cases hkl : k < l.length
    · obtain ⟨b, off, rfl, hbN, g0, g1⟩ := HA.out k hkl
      have q0 := cell_later hbw g0
      have q1 := cell_later hbw g1
      clear g0 g1
      have nk : (0 : Int) ≤ (k : Int) := by omega
      have nk1 : (k : Int) < (l.length : Int) := by omega
      have HXY0 := hid (rfl : smB (px l k) (py l k) = smB (px l k) (py l k))
      obtain ⟨x, hx⟩ : ∃ x, px l k = x := ⟨_, rfl⟩
      obtain ⟨y, hy⟩ : ∃ x, py l k = x := ⟨_, rfl⟩
      have HXY := hid (show smB (px l k) (py l k) = smB x y by rw [hx, hy])
      rw [hx] at q0
      rw [hy] at q1
      clear hx hy HXY0
      by_cases h0 : -40 ≤ x
      · skip
        by_cases h1 : x ≤ 40
        · skip
          by_cases h2 : -40 ≤ y
          · skip
            by_cases h3 : y ≤ 40
            · skip
              have HE := hid (show smB x y = true from decide_eq_true (by omega))
              go_wp2
              go_roundw
              case rel => exact ⟨k + 1, by omega, by go_num, HC.out.succ (HXY.out.trans HE.out), grew hbw (by go_grown)⟩
              case measure => simp [intOf]; omega
            · have HE := hid (show smB x y = false from decide_eq_false (by omega))
              go_wp2
              go_ret
              exact ⟨ret_bool (by unfold shB; rw [allSm_false hkl (HXY.out.trans HE.out)]; rfl), grew hbw (by go_grown)⟩
          · have HE := hid (show smB x y = false from decide_eq_false (by omega))
            go_wp2
            go_ret
            exact ⟨ret_bool (by unfold shB; rw [allSm_false hkl (HXY.out.trans HE.out)]; rfl), grew hbw (by go_grown)⟩
        · have HE := hid (show smB x y = false from decide_eq_false (by omega))
          go_wp2
          go_ret
          exact ⟨ret_bool (by unfold shB; rw [allSm_false hkl (HXY.out.trans HE.out)]; rfl), grew hbw (by go_grown)⟩
      · have HE := hid (show smB x y = false from decide_eq_false (by omega))
        go_wp2
        go_ret
        exact ⟨ret_bool (by unfold shB; rw [allSm_false hkl (HXY.out.trans HE.out)]; rfl), grew hbw (by go_grown)⟩
    · obtain rfl : k = l.length := by omega
      have HS := hid ((allSm_iff l).2 HC.out)
      go_wp2_with (go_at_call 62; refine (goodHullSpec_c l _ _ _ _ rfl h1 ((HA.out.later hbw).mono hbw.size)).mono ?_; rintro e w2 ⟨rfl, hb2⟩)
      go_ret
      exact ⟨ret_bool (by unfold shB; rw [HS.out]; rfl), grew hbw hb2⟩
end Go.Proofs.YtohcllojjmhbcaaDoor
