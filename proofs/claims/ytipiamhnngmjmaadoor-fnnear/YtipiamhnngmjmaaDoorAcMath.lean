/-
  Points of a hull across from one another, in plain words: the sides that meet at a corner, the ways that are held there, four ways are enough.
  Conditions: as each theorem states them.
-/
import Derived.Test.YtipiamhnngmjmaaDoorB2
import Derived.Test.YtipiamhnngmjmaaDoorHOwnHull
namespace Go.Proofs.YtipiamhnngmjmaaDoor
open Go.RowKit
set_option linter.unusedVariables false
/-- The side that begins at the k-th corner. -/
def sid (h : List (Int × Int)) (k : Nat) : Int × Int := vec (pt h k) (pt h ((k + 1) % h.length))
/-- The side that ends there. -/
def sidE (h : List (Int × Int)) (k : Nat) : Int × Int := sid h ((k + h.length - 1) % h.length)
def ng (d : Int × Int) : Int × Int := (0 - d.1, 0 - d.2)
/-- Held between two sides, as the program asks it. -/
def hldI (e b d : Int × Int) : Bool := !decide (cx e d < 0) && !decide (cx d b < 0)
/-- Held between two sides, as the specification asks it. -/
def hldS (e b d : Int × Int) : Bool := (decide (0 ≤ cx e d) && decide (0 ≤ cx d b)) && (decide (0 < cx e d) || decide (0 < dt e d)) && (decide (0 < cx d b) || decide (0 < dt b d))
def acI (e b e' b' d : Int × Int) : Bool := hldI e b d && hldI e' b' (ng d)
def acS (e b e' b' d : Int × Int) : Bool := hldS e b d && hldS e' b' (ng d) || hldS e b (ng d) && hldS e' b' d
def fourI (e b e' b' : Int × Int) : Bool := acI e b e' b' e || acI e b e' b' b || acI e b e' b' (ng e') || acI e b e' b' (ng b')
def fourS (e b e' b' : Int × Int) : Bool := acS e b e' b' e || acS e b e' b' b || acS e b e' b' e' || acS e b e' b' b'
theorem hldI_iff (e b d : Int × Int) : hldI e b d = true ↔ 0 ≤ cx e d ∧ 0 ≤ cx d b := by
  unfold hldI; simp
theorem ng_ng (d : Int × Int) : ng (ng d) = d := by unfold ng; simp
theorem ng_ne {d : Int × Int} (h : d ≠ (0, 0)) : ng d ≠ (0, 0) := fun e => h (by
  have e1 := congrArg Prod.fst e
  have e2 := congrArg Prod.snd e
  simp [ng] at e1 e2
  exact Prod.ext (by simpa using e1) (by simpa using e2))
theorem cx_ng (a d : Int × Int) : cx a (ng d) = - cx a d := by unfold cx ng; grind
theorem ng_cx (a d : Int × Int) : cx (ng a) d = - cx a d := by unfold cx ng; grind
theorem cx_left {e b : Int × Int} (h : 0 < cx e b) : e ≠ (0, 0) := by rintro rfl; simp [cx] at h
theorem cx_right {e b : Int × Int} (h : 0 < cx e b) : b ≠ (0, 0) := by rintro rfl; simp [cx] at h
/-- In line with the first side: in its direction. -/
theorem ray_first {e b d : Int × Int} (h : 0 < cx e b) (hd : d ≠ (0, 0)) (h1 : cx e d = 0) (h2 : 0 ≤ cx d b) : 0 < dt e d := by
  have r := ray e b d h1
  have hee := dd_pos (cx_left h)
  have hl := lagr e d
  have hdd := dd_pos hd
  rw [cx_anti d b, cx_anti e b, Int.neg_mul, Int.mul_neg] at r
  have k1 : 0 ≤ dt e d * cx e b := by
    have := Int.mul_nonneg h2 (Int.le_of_lt hee)
    omega
  have k2 := nn_of_mul k1 h
  have k3 := Int.mul_pos hee hdd
  rcases Int.lt_or_eq_of_le k2 with k | k
  · exact k
  · rw [← k, h1] at hl; omega
theorem ray_last {e b d : Int × Int} (h : 0 < cx e b) (hd : d ≠ (0, 0)) (h1 : 0 ≤ cx e d) (h2 : cx d b = 0) : 0 < dt b d := by
  have h3 : cx b d = 0 := by rw [cx_anti]; omega
  have r := ray b e d h3
  have hbb := dd_pos (cx_right h)
  have hl := lagr b d
  have hdd := dd_pos hd
  have k1 : 0 ≤ dt b d * cx e b := by
    have := Int.mul_nonneg h1 (Int.le_of_lt hbb)
    omega
  have k2 := nn_of_mul k1 h
  have k3 := Int.mul_pos hbb hdd
  rcases Int.lt_or_eq_of_le k2 with k | k
  · exact k
  · rw [← k, h3] at hl; omega
theorem hld_eq {e b d : Int × Int} (h : 0 < cx e b) (hd : d ≠ (0, 0)) : hldS e b d = hldI e b d := by
  cases hI : hldI e b d with
  | true =>
    obtain ⟨h1, h2⟩ := (hldI_iff _ _ _).1 hI
    have a1 : 0 < cx e d ∨ 0 < dt e d := by
      rcases Int.lt_or_eq_of_le h1 with k | k
      · exact .inl k
      · exact .inr (ray_first h hd k.symm h2)
    have a2 : 0 < cx d b ∨ 0 < dt b d := by
      rcases Int.lt_or_eq_of_le h2 with k | k
      · exact .inl k
      · exact .inr (ray_last h hd h1 k.symm)
    unfold hldS
    simp [h1, h2, a1, a2]
  | false =>
    have : ¬ (0 ≤ cx e d ∧ 0 ≤ cx d b) := fun k => by rw [(hldI_iff _ _ _).2 k] at hI; cases hI
    unfold hldS
    simp only [← Bool.decide_and]
    rw [decide_eq_false this]; rfl
theorem hld_neg_first {e b : Int × Int} (h : 0 < cx e b) : hldI e b (ng e) = false := by
  cases hI : hldI e b (ng e) with
  | false => rfl
  | true => have := ((hldI_iff _ _ _).1 hI).2; rw [ng_cx] at this; omega
theorem hld_neg_last {e b : Int × Int} (h : 0 < cx e b) : hldI e b (ng b) = false := by
  cases hI : hldI e b (ng b) with
  | false => rfl
  | true => have := ((hldI_iff _ _ _).1 hI).1; rw [cx_ng] at this; omega
/-- The program and the specification look for the same. -/
theorem four_eq {e b e' b' : Int × Int} (h : 0 < cx e b) (h' : 0 < cx e' b') : fourS e b e' b' = fourI e b e' b' := by
  have ne := cx_left h
  have nb := cx_right h
  have ne' := cx_left h'
  have nb' := cx_right h'
  unfold fourS fourI acS acI
  rw [hld_eq h ne, hld_eq h nb, hld_eq h ne', hld_eq h nb', hld_eq h' ne, hld_eq h' nb, hld_eq h' ne', hld_eq h' nb',
    hld_eq h (ng_ne ne), hld_eq h (ng_ne nb), hld_eq h (ng_ne ne'), hld_eq h (ng_ne nb'), hld_eq h' (ng_ne ne), hld_eq h' (ng_ne nb), hld_eq h' (ng_ne ne'), hld_eq h' (ng_ne nb'),
    hld_neg_first h, hld_neg_last h, hld_neg_first h', hld_neg_last h', ng_ng, ng_ng]
  simp
/-- A way that is held at the one and its opposite at the other: one of the four is, too. -/
theorem between_first {e x u b : Int × Int} (hh : 0 < cx e b) (hx : x ≠ (0, 0)) (hu0 : u ≠ (0, 0)) (h1 : 0 ≤ cx e x) (h2 : 0 ≤ cx x u) (h3 : 0 ≤ cx e u) (h4 : 0 ≤ cx u b) (h5 : 0 < cx x u ∨ 0 < dt x u) : 0 ≤ cx x b := by
  have p := plucker e x u b
  have q1 := Int.mul_nonneg h2 (Int.le_of_lt hh)
  have q2 := Int.mul_nonneg h4 h1
  rcases Int.lt_or_eq_of_le h3 with k | k
  · exact nn_of_mul (by omega) k
  · have k0 : cx e u = 0 := k.symm
    have s1 := ray_first hh hu0 k0 h4
    have r := ray e x u k0
    rw [cx_anti e x, Int.mul_neg] at r
    have hee := dd_pos (cx_left hh)
    have q3 := Int.mul_nonneg h2 (Int.le_of_lt hee)
    have q4 := Int.mul_nonneg (Int.le_of_lt s1) h1
    have z1 : cx x u * dt e e = 0 := by omega
    have z2 : cx x u = 0 := by
      rcases Int.mul_eq_zero.1 z1 with z | z
      · exact z
      · omega
    have s2 : 0 < dt x u := by
      rcases h5 with h5 | h5
      · omega
      · exact h5
    have r2 := ray x b u z2
    rw [cx_anti u b, cx_anti x b, Int.neg_mul, Int.mul_neg] at r2
    have q5 := Int.mul_nonneg h4 (dd_nn x)
    have q6 : 0 ≤ cx x b * dt x u := by rw [Int.mul_comm]; omega
    exact nn_of_mul q6 s2
theorem four_of {e b e' b' u : Int × Int} (h : 0 < cx e b) (h' : 0 < cx e' b') (hu : u ≠ (0, 0)) (h1 : hldI e b u = true) (h2 : hldI e' b' (ng u) = true) : fourI e b e' b' = true := by
  obtain ⟨a1, a2⟩ := (hldI_iff _ _ _).1 h1
  obtain ⟨b1, b2⟩ := (hldI_iff _ _ _).1 h2
  have ne := cx_left h
  have ne' := cx_left h'
  have c1 : 0 ≤ cx (ng e') u := by rw [ng_cx]; rw [cx_ng] at b1; omega
  have c2 : 0 ≤ cx u (ng b') := by rw [cx_ng]; rw [ng_cx] at b2; omega
  have hh : 0 < cx (ng e') (ng b') := by rw [cx_ng, ng_cx]; omega
  rcases Int.le_total 0 (cx e (ng e')) with k | k
  · -- the side that ends at the other one, turned, is held here
    have hx : hldI e b (ng e') = true := (hldI_iff _ _ _).2 ⟨k, between_first h (ng_ne ne') hu k c1 a1 a2 (by
      rcases Int.lt_or_eq_of_le c1 with z | z
      · exact .inl z
      · exact .inr (ray_first hh hu z.symm c2))⟩
    have hy : hldI e' b' (ng (ng e')) = true := by rw [ng_ng]; exact (hldI_iff _ _ _).2 ⟨by rw [cx_self]; omega, by omega⟩
    unfold fourI acI; simp [hx, hy]
  · have k2 : 0 ≤ cx (ng e') e := by rw [cx_anti]; omega
    have hx : 0 ≤ cx e (ng b') := between_first hh ne hu k2 a1 c1 c2 (by
      rcases Int.lt_or_eq_of_le a1 with z | z
      · exact .inl z
      · exact .inr (ray_first h hu z.symm a2))
    have hy : hldI e b e = true := (hldI_iff _ _ _).2 ⟨by rw [cx_self]; omega, by omega⟩
    have hz : hldI e' b' (ng e) = true := (hldI_iff _ _ _).2 ⟨by rw [cx_ng]; rw [ng_cx] at k2; omega, by rw [ng_cx]; rw [cx_ng] at hx; omega⟩
    unfold fourI acI; simp [hy, hz]
/-- Across from one another. -/
def acB (h : List (Int × Int)) (i j : Nat) : Bool := fourI (sidE h i) (sid h i) (sidE h j) (sid h j)
def acBS (h : List (Int × Int)) (i j : Nat) : Bool := fourS (sidE h i) (sid h i) (sidE h j) (sid h j)
def acRow (h : List (Int × Int)) (i : Nat) : Nat → List (List Int)
  | 0 => []
  | m + 1 => acRow h i m ++ (if acB h i (i + 1 + m) then [[(i : Int), ((i + 1 + m : Nat) : Int)]] else [])
def acTo (h : List (Int × Int)) : Nat → List (List Int)
  | 0 => []
  | i + 1 => acTo h i ++ acRow h i (h.length - (i + 1))
theorem acRow_yes {h : List (Int × Int)} {i m : Nat} (e : acB h i (i + 1 + m) = true) : acRow h i (m + 1) = acRow h i m ++ [[(i : Int), ((i + 1 + m : Nat) : Int)]] := by
  rw [acRow, if_pos e]
theorem acRow_no {h : List (Int × Int)} {i m : Nat} (e : acB h i (i + 1 + m) = false) : acRow h i (m + 1) = acRow h i m := by
  rw [acRow, e]; simp
theorem acRow_len (h : List (Int × Int)) (i : Nat) : ∀ m, (acRow h i m).length ≤ m
  | 0 => Nat.le_refl _
  | m + 1 => by
    have := acRow_len h i m
    rw [acRow, List.length_append]
    split <;> simp <;> omega
theorem acTo_len (h : List (Int × Int)) : ∀ i, (acTo h i).length ≤ i * h.length
  | 0 => Nat.zero_le _
  | i + 1 => by
    have h1 := acTo_len h i
    have h2 := acRow_len h i (h.length - (i + 1))
    rw [acTo, List.length_append, Nat.succ_mul]
    omega
theorem acRow_two (h : List (Int × Int)) (i : Nat) : ∀ m, ∀ x, x ∈ acRow h i m → x.length = 2
  | 0 => fun x hx => by cases hx
  | m + 1 => fun x hx => by
    rw [acRow, List.mem_append] at hx
    rcases hx with hx | hx
    · exact acRow_two h i m x hx
    · split at hx
      · simp at hx; subst hx; rfl
      · cases hx
theorem acTo_two (h : List (Int × Int)) : ∀ i, ∀ x, x ∈ acTo h i → x.length = 2
  | 0 => fun x hx => by cases hx
  | i + 1 => fun x hx => by
    rw [acTo, List.mem_append] at hx
    rcases hx with hx | hx
    · exact acTo_two h i x hx
    · exact acRow_two h i _ x hx
end Go.Proofs.YtipiamhnngmjmaaDoor
