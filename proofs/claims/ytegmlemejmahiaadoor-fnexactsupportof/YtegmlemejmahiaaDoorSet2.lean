/-
  Lists of points held against one another, and the program's and the specification's look at a set (contracts for the walks).
  Conditions: as each theorem states them.
-/
import Derived.Test.YtegmlemejmahiaaDoorSet1
namespace Go.Proofs.YtegmlemejmahiaaDoor
open Go.RowKit
set_option linter.unusedVariables false
theorem keep4 {w W W' : World} {a0 a1 a2 a3 : Addr} {v0 v1 v2 v3 : Value} (hb : Below W.heap.size W W') (h : W.cell? a0 = some v0 ∧ W.cell? a1 = some v1 ∧ W.cell? a2 = some v2 ∧ W.cell? a3 = some v3 ∧ Below w.heap.size w W) :
    W'.cell? a0 = some v0 ∧ W'.cell? a1 = some v1 ∧ W'.cell? a2 = some v2 ∧ W'.cell? a3 = some v3 ∧ Below w.heap.size w W' :=
  ⟨cell_later hb h.1, cell_later hb h.2.1, cell_later hb h.2.2.1, cell_later hb h.2.2.2.1, h.2.2.2.2.trans (hb.mono h.2.2.2.2.size)⟩
theorem start4 {w W W' : World} {a0 a1 a2 a3 : Addr} {v0 v1 v2 v3 : Value} (hb : Below W.heap.size W W') (c0 : W.cell? a0 = some v0) (c1 : W.cell? a1 = some v1) (c2 : W.cell? a2 = some v2) (c3 : W.cell? a3 = some v3) (h : Below w.heap.size w W) :
    W'.cell? a0 = some v0 ∧ W'.cell? a1 = some v1 ∧ W'.cell? a2 = some v2 ∧ W'.cell? a3 = some v3 ∧ Below w.heap.size w W' :=
  ⟨cell_later hb c0, cell_later hb c1, cell_later hb c2, cell_later hb c3, h.trans (hb.mono h.size)⟩
theorem fin4 {w W : World} {a0 a1 a2 a3 : Addr} {v0 v1 v2 v3 : Value} (h : W.cell? a0 = some v0 ∧ W.cell? a1 = some v1 ∧ W.cell? a2 = some v2 ∧ W.cell? a3 = some v3 ∧ Below w.heap.size w W) : Below w.heap.size w W := h.2.2.2.2
/-- The first k points of two lists are the same. -/
def Alike (l m : List (Int × Int)) (k : Nat) : Prop := ∀ i, i < k → px l i = px m i ∧ py l i = py m i
theorem Alike.zero (l m : List (Int × Int)) : Alike l m 0 := fun i h => absurd h (Nat.not_lt_zero _)
theorem Alike.succ {l m : List (Int × Int)} {k : Nat} (h : Alike l m k) (e : eqB (px l k) (py l k) (px m k) (py m k) = true) : Alike l m (k + 1) := fun i hi => by
  by_cases hk : i = k
  · subst hk; exact of_decide_eq_true e
  · exact h i (by omega)
theorem Alike.eq {l m : List (Int × Int)} (h : Alike l m l.length) (hl : l.length = m.length) : l = m := by
  refine List.ext_getElem hl fun i h1 h2 => ?_
  have := h i h1
  simp only [px, py, List.getD_eq_getElem?_getD, List.getElem?_eq_getElem h1, List.getElem?_eq_getElem h2, Option.getD_some] at this
  exact Prod.ext this.1 this.2
theorem not_alike {l m : List (Int × Int)} {k : Nat} (e : eqB (px l k) (py l k) (px m k) (py m k) = false) : decide (l = m) = false := by
  refine decide_eq_false fun h => ?_
  subst h
  simp [eqB] at e
set_option maxHeartbeats 2000000 in
theorem eqPointS_c (l m : List (Int × Int)) (a c : Option Addr) (len cap lem cam : Nat) (w : World) (hl : l.length = len) (hm : m.length = lem) (h1 : len ≤ 1048576) (h2 : lem ≤ 1048576) (hA : At w.heap.size a l w) (hB : At w.heap.size c m w) :
    Calls Tryd.prog 16 #[.slice a len cap, .slice c lem cam] w fun e w' => e = .returned (.bool (decide (l = m))) ∧ Below w.heap.size w w' := by
  subst hl hm
  by_cases hlm : l.length = m.length
  · have HA := hid hA
    have HB := hid hB
    have HL := hid hlm
    clear hA hB
    rw [← hlm] at h2 ⊢
    clear hlm h2
    go_enter Tryd.func16, Tryd.ntmps16
    go_wp2
    go_loopw [5] (fun i wr => ∃ k : Nat, k ≤ l.length ∧ i = .int .i64 k ∧ Alike l m k ∧ Below w.heap.size w wr) (fun i _ => l.length - (intOf i).toNat)
    case atStart => exact ⟨0, Nat.zero_le _, rfl, Alike.zero _ _, Below.refl _ _⟩
    case round =>
      obtain ⟨k, hk, rfl, hC, hbw⟩ := hrel
      have HC := hid hC
      clear hC
      by_cases hkl : k < l.length
      · obtain ⟨b, off, rfl, hbN, g0, g1⟩ := HA.out k (by omega)
        obtain ⟨b2, off2, rfl, hbN2, g2, g3⟩ := HB.out k (by have := HL.out; omega)
        have q0 := cell_later hbw g0
        have q1 := cell_later hbw g1
        have q2 := cell_later hbw g2
        have q3 := cell_later hbw g3
        clear g0 g1 g2 g3
        cases hE : eqB (px l k) (py l k) (px m k) (py m k)
        all_goals go_wp2
        all_goals go_region_held3 (fun u => u.cell? ⟨b, off + k * 2, none⟩ = some (.int .i64 (px l k)) ∧ u.cell? ⟨b, off + k * 2 + 1, none⟩ = some (.int .i64 (py l k)) ∧ u.cell? ⟨b2, off2 + k * 2, none⟩ = some (.int .i64 (px m k)) ∧ u.cell? ⟨b2, off2 + k * 2 + 1, none⟩ = some (.int .i64 (py m k)) ∧ Below w.heap.size w u) (first | exact keep4 (by with_reducible assumption) (by with_reducible assumption) | exact start4 (Below.refl _ _).drew q0 q1 q2 q3 hbw) (first | (go_at_call 15; refine (eqPoint_c _ _ _ _ _).mono ?_; rintro e w' ⟨rfl, hb⟩))
        · go_wp2
          go_ret
          exact ⟨by rw [not_alike hE]; rfl, fin4 (by with_reducible assumption)⟩
        · go_wp2
          go_roundw
          case rel => exact ⟨k + 1, by omega, by go_num, HC.out.succ hE, fin4 (by with_reducible assumption)⟩
          case measure => simp [intOf]; omega
      · obtain rfl : k = l.length := by omega
        go_wp2
        go_ret
        exact ⟨by rw [decide_eq_true (HC.out.eq HL.out)]; rfl, hbw⟩
  · have hd : ((l.length : Int) != (m.length : Int)) = true := by simp; omega
    have e : decide (l = m) = false := decide_eq_false fun h => hlm (by rw [h])
    go_enter Tryd.func16, Tryd.ntmps16
    go_wp2
    go_ret
    exact ⟨by rw [e]; rfl, Below.refl _ _⟩
/-- All points of a list are good. -/
def allGood (l : List (Int × Int)) : Bool := (List.range l.length).all fun i => goodB (px l i) (py l i)
/-- Each is less than the next one. -/
def rises (l : List (Int × Int)) : Bool := (List.range (l.length - 1)).all fun i => lessB (px l i) (py l i) (px l (i + 1)) (py l (i + 1))
def goodL (l : List (Int × Int)) : Bool := (decide (l.length ≤ 60) && allGood l) && rises l
def GoodTo (l : List (Int × Int)) (k : Nat) : Prop := ∀ i, i < k → goodB (px l i) (py l i) = true
def RisesTo (l : List (Int × Int)) (k : Nat) : Prop := ∀ i, i < k → lessB (px l i) (py l i) (px l (i + 1)) (py l (i + 1)) = true
theorem GoodTo.zero (l : List (Int × Int)) : GoodTo l 0 := fun i h => absurd h (Nat.not_lt_zero _)
theorem RisesTo.zero (l : List (Int × Int)) : RisesTo l 0 := fun i h => absurd h (Nat.not_lt_zero _)
theorem GoodTo.succ {l : List (Int × Int)} {k : Nat} (h : GoodTo l k) (e : goodB (px l k) (py l k) = true) : GoodTo l (k + 1) := fun i hi => by
  by_cases hk : i = k
  · subst hk; exact e
  · exact h i (by omega)
theorem RisesTo.succ {l : List (Int × Int)} {k : Nat} (h : RisesTo l k) (e : lessB (px l k) (py l k) (px l (k + 1)) (py l (k + 1)) = true) : RisesTo l (k + 1) := fun i hi => by
  by_cases hk : i = k
  · subst hk; exact e
  · exact h i (by omega)
theorem allGood_iff (l : List (Int × Int)) : allGood l = true ↔ GoodTo l l.length := by
  simp [allGood, GoodTo]
theorem rises_iff (l : List (Int × Int)) : rises l = true ↔ RisesTo l (l.length - 1) := by
  simp [rises, RisesTo]
theorem allGood_false {l : List (Int × Int)} {k : Nat} (hk : k < l.length) (e : goodB (px l k) (py l k) = false) : allGood l = false := by
  cases h : allGood l
  · rfl
  · have := (allGood_iff l).1 h k hk
    rw [e] at this; cases this
theorem rises_false {l : List (Int × Int)} {k : Nat} (hk : k + 1 < l.length) (e : lessB (px l k) (py l k) (px l (k + 1)) (py l (k + 1)) = false) : rises l = false := by
  cases h : rises l
  · rfl
  · have := (rises_iff l).1 h k (by omega)
    rw [e] at this; cases this
set_option maxHeartbeats 2000000 in
theorem fewGood_c (l : List (Int × Int)) (a : Option Addr) (len cap : Nat) (w : World) (hl : l.length = len) (h1 : len ≤ 1048576) (hA : At w.heap.size a l w) (c0 : w.cell? ⟨0, 0, none⟩ = some (.int .i64 1000000)) :
    Calls Tryd.prog 65 #[.slice a len cap] w fun e w' => e = .returned (.bool (decide (l.length ≤ 60) && allGood l)) ∧ Below w.heap.size w w' := by
  subst hl
  by_cases h60 : l.length ≤ 60
  · have HA := hid hA
    have C0 := hid c0
    clear hA c0
    have e60 : decide (l.length ≤ 60) = true := decide_eq_true h60
    rw [e60, Bool.true_and]
    clear e60
    go_enter Tryd.func65, Tryd.ntmps65
    go_wp2
    go_loopw [10] (fun i wr => ∃ k : Nat, k ≤ l.length ∧ i = .int .i64 k ∧ GoodTo l k ∧ Below w.heap.size w wr) (fun i _ => l.length - (intOf i).toNat)
    case atStart => exact ⟨0, Nat.zero_le _, rfl, GoodTo.zero _, Below.refl _ _⟩
    case round =>
      obtain ⟨k, hk, rfl, hC, hbw⟩ := hrel
      have HC := hid hC
      clear hC
      by_cases hkl : k < l.length
      · obtain ⟨b, off, rfl, hbN, g0, g1⟩ := HA.out k (by omega)
        have q0 := cell_later hbw g0
        have q1 := cell_later hbw g1
        have hsz := hbw.size
        have hne : b < wr.heap.size := by omega
        clear g0 g1
        cases hE : goodB (px l k) (py l k)
        all_goals go_wp2_with (go_at_call 39; refine (goodImpl_c _ _ _ ?_).mono ?_; exact cell_later (grew hbw (by go_grown)) C0.out; rintro e w' ⟨rfl, hb⟩)
        · go_ret
          exact ⟨by rw [allGood_false hkl hE]; rfl, by rw [← hb]; exact grew hbw (by go_grown)⟩
        · go_roundw
          case rel => exact ⟨k + 1, by omega, by go_num, HC.out.succ hE, by rw [← hb]; exact grew hbw (by go_grown)⟩
          case measure => simp [intOf]; omega
      · obtain rfl : k = l.length := by omega
        go_wp2
        go_ret
        exact ⟨by rw [(allGood_iff l).2 HC.out]; rfl, hbw⟩
  · have e60 : decide (l.length ≤ 60) = false := decide_eq_false h60
    have h61 : (60 : Int) < (l.length : Int) := by omega
    go_enter Tryd.func65, Tryd.ntmps65
    go_wp2
    go_ret
    exact ⟨by rw [e60]; rfl, Below.refl _ _⟩
end Go.Proofs.YtegmlemejmahiaaDoor
