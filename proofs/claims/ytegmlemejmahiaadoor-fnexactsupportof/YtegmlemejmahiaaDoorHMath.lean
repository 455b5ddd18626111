/-
  Plain arithmetic of sides, and of directions within a half plane (no walk in it).
  Conditions: as each theorem states them.
-/
namespace Go.Proofs.YtegmlemejmahiaaDoor
set_option linter.unusedVariables false
/-- The cross product. -/
def cx (u v : Int × Int) : Int := u.1 * v.2 - u.2 * v.1
def dt (u v : Int × Int) : Int := u.1 * v.1 + u.2 * v.2
def vec (a b : Int × Int) : Int × Int := (b.1 - a.1, b.2 - a.2)
/-- Twice the area that three points turn round. -/
def sd (a b c : Int × Int) : Int := (b.1 - a.1) * (c.2 - a.2) - (b.2 - a.2) * (c.1 - a.1)
theorem sd_cx (a b c : Int × Int) : sd a b c = cx (vec a b) (vec a c) := rfl
/-- v lies ahead, in the half plane that d bounds. -/
def Pos (d v : Int × Int) : Prop := 0 < cx d v ∨ (cx d v = 0 ∧ dt d v < 0)
theorem plucker (d u v w : Int × Int) : cx u w * cx d v = cx u v * cx d w + cx v w * cx d u := by unfold cx; grind
theorem sd_swap (a b c : Int × Int) : sd b a c = - sd a b c := by unfold sd; grind
theorem sd_turn (a b c : Int × Int) : sd b c a = sd a b c := by unfold sd; grind
theorem sd_end (a b : Int × Int) : sd a b b = 0 := by unfold sd; grind
theorem sd_start (a b : Int × Int) : sd a b a = 0 := by unfold sd; grind
theorem sd_step (a b c : Int × Int) : sd a b c = cx (vec a b) (vec b c) := by unfold sd cx vec; grind
theorem cx_anti (u v : Int × Int) : cx v u = - cx u v := by unfold cx; grind
theorem cx_self (u : Int × Int) : cx u u = 0 := by unfold cx; grind
/-- On the line of d. -/
theorem ray (d u v : Int × Int) (h : cx d v = 0) : cx u v * dt d d = dt d v * cx u d := by unfold cx dt at *; grind
theorem rayd (d u v : Int × Int) (h : cx d v = 0) : dt u v * dt d d = dt d v * dt u d := by unfold cx dt at *; grind
theorem lagr (u v : Int × Int) : dt u u * dt v v = dt u v * dt u v + cx u v * cx u v := by unfold cx dt; grind
theorem sq_nn (x : Int) : 0 ≤ x * x := by
  rcases Int.le_total 0 x with h | h
  · exact Int.mul_nonneg h h
  · have := Int.mul_nonneg (Int.neg_nonneg_of_nonpos h) (Int.neg_nonneg_of_nonpos h)
    rwa [Int.neg_mul_neg] at this
theorem sq_pos {x : Int} (h : x ≠ 0) : 0 < x * x := by
  have h1 := sq_nn x
  have h2 : x * x ≠ 0 := fun e => by rcases Int.mul_eq_zero.1 e with e | e <;> exact h e
  omega
theorem dd_nn (d : Int × Int) : 0 ≤ dt d d := by
  have h1 := sq_nn d.1
  have h2 := sq_nn d.2
  unfold dt
  omega
theorem dd_pos {d : Int × Int} (h : d ≠ (0, 0)) : 0 < dt d d := by
  have h1 := sq_nn d.1
  have h2 := sq_nn d.2
  unfold dt
  by_cases h3 : d.1 = 0
  · have h4 : d.2 ≠ 0 := fun e => h (Prod.ext h3 e)
    have := sq_pos h4
    omega
  · have := sq_pos h3
    omega
theorem dd_zero {d : Int × Int} (h : dt d d = 0) : d = (0, 0) := Classical.byContradiction fun hn => by have := dd_pos hn; omega
theorem nn_of_mul {a b : Int} (h : 0 ≤ a * b) (hb : 0 < b) : 0 ≤ a := by
  apply Classical.byContradiction
  intro hn
  have := Int.mul_neg_of_neg_of_pos (by omega : a < 0) hb
  omega
theorem pos_of_mul {a b : Int} (h : 0 < a * b) (hb : 0 < b) : 0 < a := by
  apply Classical.byContradiction
  intro hn
  rcases Int.lt_or_eq_of_le (show a ≤ 0 by omega) with ha | ha
  · have := Int.mul_neg_of_neg_of_pos ha hb
    omega
  · subst ha
    simp at h
theorem pos_of_mul_neg {a b : Int} (h : a * b < 0) (hb : b < 0) : 0 < a := by
  have : 0 < a * (-b) := by rw [Int.mul_neg]; omega
  exact pos_of_mul this (by omega)
theorem Pos.nn {d v : Int × Int} (h : Pos d v) : 0 ≤ cx d v := by rcases h with h | h <;> omega
theorem Pos.ne {d v : Int × Int} (h : Pos d v) : v ≠ (0, 0) := by
  rintro rfl
  simp [Pos, cx, dt] at h
theorem Pos.base {d v : Int × Int} (h : Pos d v) : d ≠ (0, 0) := by
  rintro rfl
  simp [Pos, cx, dt] at h
/-- To the left of one another, within a half plane. -/
theorem tri {d u v w : Int × Int} (hu : Pos d u) (hv : Pos d v) (hw : Pos d w) (h1 : 0 ≤ cx u v) (h2 : 0 ≤ cx v w) : 0 ≤ cx u w := by
  have hd := dd_pos hu.base
  have hun := hu.nn
  have hwn := hw.nn
  rcases hv with hv | ⟨hv, hv2⟩
  · have hp := plucker d u v w
    have p1 := Int.mul_nonneg h1 hwn
    have p2 := Int.mul_nonneg h2 hun
    exact nn_of_mul (by omega) hv
  · have r1 := ray d w v hv
    rw [cx_anti v w, cx_anti d w, Int.neg_mul, Int.mul_neg] at r1
    have q1 := Int.mul_nonneg h2 (Int.le_of_lt hd)
    have hw0 : cx d w = 0 := by
      apply Classical.byContradiction
      intro hn
      have := Int.mul_neg_of_neg_of_pos hv2 (by omega : 0 < cx d w)
      omega
    have hw2 : dt d w < 0 := by
      rcases hw with hw | ⟨_, hw⟩
      · omega
      · exact hw
    have r2 := ray d u w hw0
    rw [cx_anti d u, Int.mul_neg] at r2
    have q2 : 0 ≤ -dt d w * cx d u := Int.mul_nonneg (by omega) hun
    rw [Int.neg_mul] at q2
    exact nn_of_mul (by omega) hd
theorem tri_l {d u v w : Int × Int} (hu : Pos d u) (hv : Pos d v) (hw : Pos d w) (h1 : 0 < cx u v) (h2 : 0 ≤ cx v w) : 0 < cx u w := by
  apply Classical.byContradiction
  intro hn
  have h3 : 0 ≤ cx w u := by rw [cx_anti u w]; omega
  have h4 := tri hv hw hu h2 h3
  rw [cx_anti u v] at h4
  omega
theorem tri_r {d u v w : Int × Int} (hu : Pos d u) (hv : Pos d v) (hw : Pos d w) (h1 : 0 ≤ cx u v) (h2 : 0 < cx v w) : 0 < cx u w := by
  apply Classical.byContradiction
  intro hn
  have h3 : 0 ≤ cx w u := by rw [cx_anti u w]; omega
  have h4 := tri hw hu hv h3 h1
  rw [cx_anti v w] at h4
  omega
/-- In one line, within a half plane: in one direction. -/
theorem same_ray {d u v : Int × Int} (hu : Pos d u) (hv : Pos d v) (h : cx u v = 0) : 0 < dt u v := by
  have huu := dd_pos hu.ne
  have hvv := dd_pos hv.ne
  have r1 := ray u d v h
  have r2 := rayd u d v h
  have hl := lagr u v
  rw [h] at hl
  have hne : dt u v ≠ 0 := by
    intro e
    rw [e] at hl
    have := Int.mul_pos huu hvv
    simp only [Int.mul_zero, Int.add_zero] at hl
    omega
  rcases hu with hu | ⟨hu, hu2⟩
  · have h0 := Int.mul_nonneg hv.nn (Int.le_of_lt huu)
    have := nn_of_mul (a := dt u v) (b := cx d u) (by omega) hu
    omega
  · rw [hu, Int.mul_zero] at r1
    have hv0 : cx d v = 0 := by rcases Int.mul_eq_zero.1 r1 with e | e <;> omega
    have hv2 : dt d v < 0 := by
      rcases hv with hv | ⟨_, hv⟩
      · omega
      · exact hv
    have := Int.mul_neg_of_neg_of_pos hv2 huu
    exact pos_of_mul_neg (b := dt d u) (by omega) hu2
end Go.Proofs.YtegmlemejmahiaaDoor
