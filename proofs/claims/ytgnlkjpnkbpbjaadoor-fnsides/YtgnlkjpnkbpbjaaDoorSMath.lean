/-
  Plain arithmetic of sides: three points turn the other way when two change places, and great numbers tell what small ones do (no walk in it).
  Conditions: the numbers' bounds, as each theorem states them.
-/
import Derived.Test.YtgnlkjpnkbpbjaaDoorPMath
import Derived.Test.YtgnlkjpnkbpbjaaDoorSide
namespace Go.Proofs.YtgnlkjpnkbpbjaaDoor
open Go.RowKit
set_option linter.unusedVariables false
/-- Twice the area that three points turn round. -/
def cr (ax ay bx b_y cx cy : Int) : Int := (bx - ax) * (cy - ay) - (b_y - ay) * (cx - ax)
theorem cr_swap (ax ay bx b_y cx cy : Int) : cr bx b_y ax ay cx cy = -cr ax ay bx b_y cx cy := by
  unfold cr
  simp only [Int.sub_mul, Int.mul_sub]
  have e1 := Int.mul_comm ax b_y
  have e2 := Int.mul_comm bx b_y
  have e3 := Int.mul_comm bx ay
  have e4 := Int.mul_comm ax ay
  omega
theorem cr_turn (ax ay bx b_y cx cy : Int) : cr bx b_y cx cy ax ay = cr ax ay bx b_y cx cy := by
  unfold cr
  simp only [Int.sub_mul, Int.mul_sub]
  have e1 := Int.mul_comm ax b_y
  have e2 := Int.mul_comm bx b_y
  have e3 := Int.mul_comm bx ay
  have e4 := Int.mul_comm ax ay
  have e5 := Int.mul_comm cx ay
  have e6 := Int.mul_comm cx b_y
  have e7 := Int.mul_comm cy ax
  have e8 := Int.mul_comm cy bx
  omega
theorem sg_neg (n : Int) : sg (-n) = -sg n := by
  unfold sg
  by_cases h : n < 0
  · rw [if_pos h, if_neg (by omega), if_pos (by omega)]; rfl
  · by_cases k : 0 < n
    · rw [if_neg h, if_pos k, if_pos (by omega)]
    · rw [if_neg h, if_neg k, if_neg (by omega), if_neg (by omega)]; rfl
theorem sg_range (n : Int) : -1 ≤ sg n ∧ sg n ≤ 1 := by unfold sg; split <;> (try split) <;> omega
theorem goodB_b {x y : Int} (h : goodB x y = true) : (-1000000 ≤ x ∧ x ≤ 1000000) ∧ (-1000000 ≤ y ∧ y ≤ 1000000) := by
  have := of_decide_eq_true h
  omega
theorem small_mul {x y : Int} (hx : -4000000 ≤ x ∧ x ≤ 4000000) (hy : -4000000 ≤ y ∧ y ≤ 4000000) : -16000000000000 ≤ x * y ∧ x * y ≤ 16000000000000 := by
  have h := Nat.mul_le_mul (show x.natAbs ≤ 4000000 by omega) (show y.natAbs ≤ 4000000 by omega)
  rw [← Int.natAbs_mul] at h
  omega
theorem wrap_in {x : Int} (h : -9000000000000000000 ≤ x) (k : x ≤ 9000000000000000000) : wrap64 x = x := by unfold wrap64; omega
theorem crossW_eq {ax ay bx b_y cx cy : Int} (ha : goodB ax ay = true) (hb : goodB bx b_y = true) (hc : goodB cx cy = true) : crossW ax ay bx b_y cx cy = cr ax ay bx b_y cx cy := by
  obtain ⟨a1, a2⟩ := goodB_b ha
  obtain ⟨b1, b2⟩ := goodB_b hb
  obtain ⟨c1, c2⟩ := goodB_b hc
  have p := small_mul (x := bx - ax) (y := cy - ay) (by omega) (by omega)
  have q := small_mul (x := b_y - ay) (y := cx - ax) (by omega) (by omega)
  unfold crossW cr
  rw [wrap_in (x := bx - ax) (by omega) (by omega), wrap_in (x := cy - ay) (by omega) (by omega), wrap_in (x := b_y - ay) (by omega) (by omega), wrap_in (x := cx - ax) (by omega) (by omega)]
  rw [wrap_in (x := (bx - ax) * (cy - ay)) (by omega) (by omega), wrap_in (x := (b_y - ay) * (cx - ax)) (by omega) (by omega)]
  exact wrap_in (by omega) (by omega)
theorem sideOk_b {ax ay bx b_y cx cy : Int} (h : sideOk ax ay bx b_y cx cy = true) : goodB ax ay = true ∧ goodB bx b_y = true ∧ goodB cx cy = true := by
  obtain ⟨h1, h2⟩ := Bool.and_eq_true_iff.1 h
  obtain ⟨h3, h4⟩ := Bool.and_eq_true_iff.1 h1
  exact ⟨h3, h4, h2⟩
theorem sideN_true {ax ay bx b_y cx cy : Int} (h : sideOk ax ay bx b_y cx cy = true) : sideN ax ay bx b_y cx cy = sg (cr ax ay bx b_y cx cy) := by
  obtain ⟨ha, hb, hc⟩ := sideOk_b h
  unfold sideN
  rw [if_pos h, crossW_eq ha hb hc]
theorem sideN_range (ax ay bx b_y cx cy : Int) : -1 ≤ sideN ax ay bx b_y cx cy ∧ sideN ax ay bx b_y cx cy ≤ 1 := by
  unfold sideN
  split
  · exact sg_range _
  · omega
theorem side_swap {ax ay bx b_y cx cy : Int} (h : sideOk ax ay bx b_y cx cy = true) : sideOk bx b_y ax ay cx cy = true ∧ sideN bx b_y ax ay cx cy = -sideN ax ay bx b_y cx cy := by
  obtain ⟨ha, hb, hc⟩ := sideOk_b h
  have k : sideOk bx b_y ax ay cx cy = true := by unfold sideOk; rw [ha, hb, hc]; rfl
  exact ⟨k, by rw [sideN_true k, sideN_true h, cr_swap, sg_neg]⟩
theorem side_turn {ax ay bx b_y cx cy : Int} (h : sideOk ax ay bx b_y cx cy = true) : sideOk bx b_y cx cy ax ay = true ∧ sideN bx b_y cx cy ax ay = sideN ax ay bx b_y cx cy := by
  obtain ⟨ha, hb, hc⟩ := sideOk_b h
  have k : sideOk bx b_y cx cy ax ay = true := by unfold sideOk; rw [ha, hb, hc]; rfl
  exact ⟨k, by rw [sideN_true k, sideN_true h, cr_turn]⟩
theorem sgP_sub {P Q : Int} (p0 : -19342813113834066795298816 ≤ P) (p1 : P ≤ 19342813113834066795298816) (q0 : -19342813113834066795298816 ≤ Q) (q1 : Q ≤ 19342813113834066795298816) :
    sgP (subHi (wrap64 (P / 18446744073709551616)) (P % 18446744073709551616) (wrap64 (Q / 18446744073709551616)) (Q % 18446744073709551616)) (subLo (P % 18446744073709551616) (Q % 18446744073709551616)) = sg (P - Q) := by
  have e : wrap64 (P / 18446744073709551616) = P / 18446744073709551616 := by unfold wrap64; omega
  have f : wrap64 (Q / 18446744073709551616) = Q / 18446744073709551616 := by unfold wrap64; omega
  rw [e, f]
  have g : subLo (P % 18446744073709551616) (Q % 18446744073709551616) = (P - Q) % 18446744073709551616 := by unfold subLo; omega
  have k : subHi (P / 18446744073709551616) (P % 18446744073709551616) (Q / 18446744073709551616) (Q % 18446744073709551616) = (P - Q) / 18446744073709551616 := by
    unfold subHi
    simp only [wrap64]
    split <;> omega
  rw [g, k]
  unfold sgP sg
  by_cases h2 : P - Q < 0
  · rw [if_pos h2, if_pos (by omega)]
  · by_cases h3 : 0 < P - Q
    · rw [if_neg h2, if_pos h3, if_neg (by omega), if_pos (by omega)]
    · rw [if_neg h2, if_neg h3, if_neg (by omega), if_neg (by omega)]
theorem swS_eq {ax ay bx b_y cx cy : Int} (h : swOk ax ay bx b_y cx cy = true) : swS ax ay bx b_y cx cy = sg (cr ax ay bx b_y cx cy) := by
  obtain ⟨h1, h2⟩ := Bool.and_eq_true_iff.1 h
  obtain ⟨h3, h4⟩ := Bool.and_eq_true_iff.1 h1
  obtain ⟨a1, a2⟩ := Bool.and_eq_true_iff.1 h3
  obtain ⟨b1, b2⟩ := Bool.and_eq_true_iff.1 h4
  obtain ⟨c1, c2⟩ := Bool.and_eq_true_iff.1 h2
  have a1 := inW_b a1
  have a2 := inW_b a2
  have b1 := inW_b b1
  have b2 := inW_b b2
  have c1 := inW_b c1
  have c2 := inW_b c2
  have p := mul_bound (x := bx - ax) (y := cy - ay) (by omega) (by omega)
  have q := mul_bound (x := b_y - ay) (y := cx - ax) (by omega) (by omega)
  exact sgP_sub p.1 p.2 q.1 q.2
theorem swN_true {ax ay bx b_y cx cy : Int} (h : swOk ax ay bx b_y cx cy = true) : swN ax ay bx b_y cx cy = sg (cr ax ay bx b_y cx cy) := by
  unfold swN
  rw [if_pos h, swS_eq h]
theorem swN_false {ax ay bx b_y cx cy : Int} (h : swOk ax ay bx b_y cx cy = false) : swN ax ay bx b_y cx cy = 0 := by
  unfold swN
  rw [h]
  rfl
theorem swOk_swap (ax ay bx b_y cx cy : Int) : swOk bx b_y ax ay cx cy = swOk ax ay bx b_y cx cy := by
  unfold swOk
  rw [Bool.and_comm (inW bx && inW b_y)]
theorem swN_swap (ax ay bx b_y cx cy : Int) : swN bx b_y ax ay cx cy = -swN ax ay bx b_y cx cy := by
  cases h : swOk ax ay bx b_y cx cy
  · rw [swN_false h, swN_false ((swOk_swap ax ay bx b_y cx cy).trans h)]; rfl
  · rw [swN_true h, swN_true ((swOk_swap ax ay bx b_y cx cy).trans h), cr_swap, sg_neg]
theorem swN_range (ax ay bx b_y cx cy : Int) : -1 ≤ swN ax ay bx b_y cx cy ∧ swN ax ay bx b_y cx cy ≤ 1 := by
  cases h : swOk ax ay bx b_y cx cy
  · rw [swN_false h]; omega
  · rw [swN_true h]; exact sg_range _
theorem inW_good {x y : Int} (h : goodB x y = true) : (inW x && inW y) = true := by
  obtain ⟨a, b⟩ := goodB_b h
  have e : inW x = true := decide_eq_true (by omega)
  have f : inW y = true := decide_eq_true (by omega)
  rw [e, f]
  rfl
theorem sw_side {ax ay bx b_y cx cy : Int} (h : sideOk ax ay bx b_y cx cy = true) : swOk ax ay bx b_y cx cy = true ∧ swN ax ay bx b_y cx cy = sideN ax ay bx b_y cx cy := by
  obtain ⟨ha, hb, hc⟩ := sideOk_b h
  have k : swOk ax ay bx b_y cx cy = true := by unfold swOk; rw [inW_good ha, inW_good hb, inW_good hc]; rfl
  exact ⟨k, by rw [swN_true k, sideN_true h]⟩
theorem less_not {x0 y0 x1 y1 : Int} (h : lessB x0 y0 x1 y1 = true) : lessB x1 y1 x0 y0 = false := by
  have := of_decide_eq_true h
  exact decide_eq_false (by omega)
theorem less_or {x0 y0 x1 y1 : Int} (h : lessB x0 y0 x1 y1 = false) (k : ¬ (x0 = x1 ∧ y0 = y1)) : lessB x1 y1 x0 y0 = true := by
  have := of_decide_eq_false h
  exact decide_eq_true (by omega)
theorem less_self (x y : Int) : lessB x y x y = false := decide_eq_false (by omega)
end Go.Proofs.YtgnlkjpnkbpbjaaDoor
