/-
  Plain arithmetic of pairs: signs of products, what is taken off and put back (no walk in it).
  Conditions: the numbers' bounds, as each theorem states them.
-/
import Derived.Test.YtgnlkjpnkbpbjaaDoorDraws2
namespace Go.Proofs.YtgnlkjpnkbpbjaaDoor
open Go.RowKit
set_option linter.unusedVariables false
theorem mwOk_comm (x y : Int) : mwOk y x = mwOk x y := by unfold mwOk; exact Bool.and_comm _ _
theorem mwHi_comm (x y : Int) : mwHi y x = mwHi x y := by unfold mwHi mulHi; rw [mwOk_comm, Int.mul_comm]
theorem mwLo_comm (x y : Int) : mwLo y x = mwLo x y := by unfold mwLo mulLo; rw [mwOk_comm, Int.mul_comm]
theorem wideB_neg (x : Int) : wideB (-x) = wideB x := by
  unfold wideB
  apply decide_eq_decide.2
  omega
theorem mwOk_neg (x y : Int) : mwOk (-x) y = mwOk x y := by unfold mwOk; rw [wideB_neg]
theorem mw_true {x y : Int} (h : mwOk x y = true) : mwHi x y = mulHi x y ∧ mwLo x y = mulLo x y := by
  unfold mwHi mwLo
  rw [h]
  exact ⟨rfl, rfl⟩
theorem sub_neg {x y : Int} (h : mwOk x y = true) : subHi 0 0 (mwHi (-x) y) (mwLo (-x) y) = mwHi x y ∧ subLo 0 (mwLo (-x) y) = mwLo x y := by
  obtain ⟨e1, e2⟩ := mw_true h
  obtain ⟨e3, e4⟩ := mw_true ((mwOk_neg x y).trans h)
  rw [e1, e2, e3, e4]
  unfold subHi subLo mulHi mulLo
  rw [Int.neg_mul]
  generalize x * y = P
  simp only [wrap64]
  constructor
  · split <;> omega
  · omega
theorem mul_bound {x y : Int} (hx : -4398046511104 ≤ x ∧ x ≤ 4398046511104) (hy : -4398046511104 ≤ y ∧ y ≤ 4398046511104) : -19342813113834066795298816 ≤ x * y ∧ x * y ≤ 19342813113834066795298816 := by
  have h := Nat.mul_le_mul (show x.natAbs ≤ 4398046511104 by omega) (show y.natAbs ≤ 4398046511104 by omega)
  rw [← Int.natAbs_mul] at h
  omega
theorem sgP_mul {P : Int} (h0 : -19342813113834066795298816 ≤ P) (h1 : P ≤ 19342813113834066795298816) : sgP (wrap64 (P / 18446744073709551616)) (P % 18446744073709551616) = sg P := by
  have e : wrap64 (P / 18446744073709551616) = P / 18446744073709551616 := by unfold wrap64; omega
  rw [e]
  unfold sgP sg
  by_cases h2 : P < 0
  · rw [if_pos h2, if_pos (by omega)]
  · by_cases h3 : 0 < P
    · rw [if_neg h2, if_pos h3, if_neg (by omega), if_pos (by omega)]
    · rw [if_neg h2, if_neg h3, if_neg (by omega), if_neg (by omega)]
theorem sgP_mw {x y : Int} (h : mwOk x y = true) : sgP (mwHi x y) (mwLo x y) = sg (x * y) := by
  obtain ⟨e1, e2⟩ := mw_true h
  obtain ⟨hx, hy⟩ := Bool.and_eq_true_iff.1 h
  have hb := mul_bound (wideB_b hx) (wideB_b hy)
  rw [e1, e2]
  exact sgP_mul hb.1 hb.2
theorem sg_zero_l (y : Int) : sg (0 * y) = 0 := by rw [Int.zero_mul]; rfl
theorem sg_zero_r (x : Int) : sg (x * 0) = 0 := by rw [Int.mul_zero]; rfl
theorem sg_pp {x y : Int} (hx : 0 < x) (hy : 0 < y) : sg (x * y) = 1 := by
  have := Int.mul_pos hx hy
  unfold sg
  rw [if_neg (by omega), if_pos this]
theorem sg_nn {x y : Int} (hx : x < 0) (hy : y < 0) : sg (x * y) = 1 := by
  have := Int.mul_pos_of_neg_of_neg hx hy
  unfold sg
  rw [if_neg (by omega), if_pos this]
theorem sg_np {x y : Int} (hx : x < 0) (hy : 0 < y) : sg (x * y) = -1 := by
  have := Int.mul_neg_of_neg_of_pos hx hy
  unfold sg
  rw [if_pos this]
theorem sg_pn {x y : Int} (hx : 0 < x) (hy : y < 0) : sg (x * y) = -1 := by
  have := Int.mul_neg_of_pos_of_neg hx hy
  unfold sg
  rw [if_pos this]
theorem sub_back {x0 y0 x1 y1 : Int} (h0 : PairB x0 y0) (h1 : PairB x1 y1) : subHi x0 y0 (subHi x0 y0 x1 y1) (subLo y0 y1) = x1 ∧ subLo y0 (subLo y0 y1) = y1 := by
  obtain ⟨⟨a, b⟩, c, d⟩ := h0
  obtain ⟨⟨e, f⟩, g, h⟩ := h1
  unfold subHi subLo
  simp only [wrap64]
  refine ⟨?_, by omega⟩
  by_cases k : y0 < y1
  · rw [if_pos k, if_pos (by omega)]
    omega
  · rw [if_neg k, if_neg (by omega)]
    omega
theorem sub_self (x y : Int) : subHi x y x y = 0 ∧ subLo y y = 0 := by
  unfold subHi subLo
  rw [if_neg (by omega)]
  simp [wrap64]
theorem sgP_range (x y : Int) : -1 ≤ sgP x y ∧ sgP x y ≤ 1 := by unfold sgP; split <;> (try split) <;> omega
end Go.Proofs.YtgnlkjpnkbpbjaaDoor
