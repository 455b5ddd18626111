/-
  How much is inside, in plain words: twice the area by the fan, steps on a side, points of the rim, counts by rows and columns, the box, the middle.
  Conditions: as each theorem states them.
-/
import Derived.Test.YtohcllojjmhbcaaDoorB2
namespace Go.Proofs.YtohcllojjmhbcaaDoor
open Go.RowKit
set_option linter.unusedVariables false
/-- Twice the area of the first k triangles of the fan. -/
def fanA (l : List (Int × Int)) : Nat → Int
  | 0 => 0
  | k + 1 => fanA l k + sd (pt l 0) (pt l (k + 1)) (pt l (k + 2))
def area8 (l : List (Int × Int)) : Int := fanA l (l.length - 2)
theorem sd_small {a b c : Int × Int} (ha : gp a) (hb : gp b) (hc : gp c) : -32000000000000 ≤ sd a b c ∧ sd a b c ≤ 32000000000000 := by
  have h1 := goodB_r ha
  have h2 := goodB_r hb
  have h3 := goodB_r hc
  have m1 := small_mul (x := b.1 - a.1) (y := c.2 - a.2) (by omega) (by omega)
  have m2 := small_mul (x := b.2 - a.2) (y := c.1 - a.1) (by omega) (by omega)
  unfold sd
  omega
theorem fanA_small {l : List (Int × Int)} (H : allG l) : ∀ k : Nat, k + 2 ≤ l.length → -(k * 32000000000000 : Int) ≤ fanA l k ∧ fanA l k ≤ (k * 32000000000000 : Int)
  | 0, _ => by simp [fanA]
  | k + 1, h => by
    have h1 := fanA_small H k (by omega)
    have h2 := sd_small (H _ (pt_mem (l := l) (i := 0) (by omega))) (H _ (pt_mem (l := l) (i := k + 1) (by omega))) (H _ (pt_mem (l := l) (i := k + 2) (by omega)))
    unfold fanA
    push_cast
    omega
/-- Into how many parts whole numbers cut the way. -/
def stp (a b : Int × Int) : Int := (Int.gcd (b.1 - a.1) (b.2 - a.2) : Nat)
theorem stp_nn (a b : Int × Int) : 0 ≤ stp a b := by unfold stp; omega
theorem gcd_le_add (x y : Int) : Int.gcd x y ≤ x.natAbs + y.natAbs := by
  by_cases hx : x = 0
  · subst hx; simp
  · have := Nat.gcd_le_left y.natAbs (show 0 < x.natAbs by omega)
    unfold Int.gcd
    omega
theorem stp_small {a b : Int × Int} (ha : gp a) (hb : gp b) : stp a b ≤ 4000000 := by
  have h1 := goodB_r ha
  have h2 := goodB_r hb
  have := gcd_le_add (b.1 - a.1) (b.2 - a.2)
  unfold stp
  omega
theorem stp_self (a : Int × Int) : stp a a = 0 := by unfold stp; simp
/-- One step of dividing on and on, with signs. -/
theorem gcd_step (x y : Int) (hy : y ≠ 0) : Int.gcd y (Int.tmod x y) = Int.gcd x y := by
  unfold Int.gcd
  rw [Int.natAbs_tmod, Nat.gcd_comm y.natAbs, ← Nat.gcd_rec, Nat.gcd_comm]
theorem gcd_nstep (x y : Nat) (hy : 0 < y) : Nat.gcd y (x % y) = Nat.gcd x y := by
  rw [Nat.gcd_comm y, ← Nat.gcd_rec, Nat.gcd_comm]
def rimT (l : List (Int × Int)) : Nat → Int
  | 0 => 0
  | k + 1 => rimT l k + stp (pt l k) (pt l ((k + 1) % l.length))
/-- How many points with whole numbers are on the rim. -/
def rim8 (l : List (Int × Int)) : Int := if l.length = 0 then 0 else if l.length = 1 then 1 else if l.length = 2 then stp (pt l 0) (pt l 1) + 1 else rimT l l.length
theorem rimT_small {l : List (Int × Int)} (H : allG l) : ∀ k : Nat, k ≤ l.length → 0 ≤ rimT l k ∧ rimT l k ≤ (k * 4000000 : Int)
  | 0, _ => by simp [rimT]
  | k + 1, h => by
    have h1 := rimT_small H k (by omega)
    have h2 := stp_small (H _ (pt_mem (l := l) (i := k) (by omega))) (H _ (pt_mem (l := l) (i := (k + 1) % l.length) (Nat.mod_lt _ (by omega))))
    have h3 := stp_nn (pt l k) (pt l ((k + 1) % l.length))
    unfold rimT
    push_cast
    omega
theorem rim8_small {l : List (Int × Int)} (H : allG l) (h60 : l.length ≤ 60) : 0 ≤ rim8 l ∧ rim8 l ≤ 240000000 := by
  unfold rim8
  split
  · omega
  · split
    · omega
    · split
      · rename_i h0 h1 h2
        have h3 := stp_small (H _ (pt_mem (l := l) (i := 0) (by omega))) (H _ (pt_mem (l := l) (i := 1) (by omega)))
        have h4 := stp_nn (pt l 0) (pt l 1)
        omega
      · have := rimT_small H l.length (Nat.le_refl _)
        omega
theorem area8_small {l : List (Int × Int)} (H : allG l) (h60 : l.length ≤ 60) : -1856000000000000 ≤ area8 l ∧ area8 l ≤ 1856000000000000 := by
  unfold area8
  by_cases h : 2 ≤ l.length
  · have := fanA_small H (l.length - 2) (by omega)
    omega
  · rw [show l.length - 2 = 0 by omega]
    simp [fanA]
/-- How many of the first k rows of the column x have f = v. -/
def cntR (f : Int × Int → Int) (v : Int) (x : Int) : Nat → Int
  | 0 => 0
  | k + 1 => cntR f v x k + if f (x, (k : Int) - 40) = v then 1 else 0
/-- How many of the first k columns. -/
def cntC (f : Int × Int → Int) (v : Int) : Nat → Int
  | 0 => 0
  | k + 1 => cntC f v k + cntR f v ((k : Int) - 40) 81
theorem cntR_small (f : Int × Int → Int) (v x : Int) : ∀ k : Nat, 0 ≤ cntR f v x k ∧ cntR f v x k ≤ (k : Int)
  | 0 => by simp [cntR]
  | k + 1 => by
    have h1 := cntR_small f v x k
    unfold cntR
    push_cast
    split <;> omega
theorem cntC_small (f : Int × Int → Int) (v : Int) : ∀ k : Nat, 0 ≤ cntC f v k ∧ cntC f v k ≤ (k * 81 : Int)
  | 0 => by simp [cntC]
  | k + 1 => by
    have h1 := cntC_small f v k
    have h2 := cntR_small f v ((k : Int) - 40) 81
    unfold cntC
    push_cast
    omega
theorem cntR_congr {f g : Int × Int → Int} {v x : Int} : ∀ k : Nat, (∀ i : Nat, i < k → f (x, (i : Int) - 40) = g (x, (i : Int) - 40)) → cntR f v x k = cntR g v x k
  | 0, _ => rfl
  | k + 1, h => by
    unfold cntR
    rw [cntR_congr k (fun i hi => h i (by omega)), h k (by omega)]
theorem cntC_congr {f g : Int × Int → Int} {v : Int} (h : ∀ i j : Nat, i < 81 → j < 81 → f ((i : Int) - 40, (j : Int) - 40) = g ((i : Int) - 40, (j : Int) - 40)) : ∀ k : Nat, k ≤ 81 → cntC f v k = cntC g v k
  | 0, _ => rfl
  | k + 1, hk => by
    unfold cntC
    rw [cntC_congr h k (by omega), cntR_congr 81 (fun j hj => h k j (by omega) hj)]
/-- The least and the greatest numbers of the first k points (of one at least). -/
def boxL (l : List (Int × Int)) : Nat → Int × Int
  | 0 => pt l 0
  | k + 1 => (min (boxL l k).1 (px l k), min (boxL l k).2 (py l k))
def boxH (l : List (Int × Int)) : Nat → Int × Int
  | 0 => pt l 0
  | k + 1 => (max (boxH l k).1 (px l k), max (boxH l k).2 (py l k))
/-- Three points added, times what their triangle brings. -/
def wgt (a b c : Int × Int) : Int × Int := (sd a b c * (a.1 + b.1 + c.1), sd a b c * (a.2 + b.2 + c.2))
def midT (l : List (Int × Int)) : Nat → Int × Int
  | 0 => (0, 0)
  | k + 1 => ((midT l k).1 + (wgt (pt l 0) (pt l (k + 1)) (pt l (k + 2))).1, (midT l k).2 + (wgt (pt l 0) (pt l (k + 1)) (pt l (k + 2))).2)
/-- Whether a number is within MaxCount. -/
def smB (x y : Int) : Bool := decide (-40 ≤ x ∧ x ≤ 40 ∧ -40 ≤ y ∧ y ≤ 40)
def allSm (l : List (Int × Int)) : Bool := (List.range l.length).all fun i => smB (px l i) (py l i)
def sp8 (p : Int × Int) : Prop := smB p.1 p.2 = true
theorem smB_r {x y : Int} (h : smB x y = true) : (-40 ≤ x ∧ x ≤ 40) ∧ (-40 ≤ y ∧ y ≤ 40) := by
  have := of_decide_eq_true h
  omega
theorem mul_in {x y : Int} {n m : Nat} (hx : -(n : Int) ≤ x ∧ x ≤ n) (hy : -(m : Int) ≤ y ∧ y ≤ m) : -((n * m : Nat) : Int) ≤ x * y ∧ x * y ≤ ((n * m : Nat) : Int) := by
  have h1 : (x * y).natAbs ≤ n * m := by rw [Int.natAbs_mul]; exact Nat.mul_le_mul (by omega) (by omega)
  omega
theorem sd_tiny {a b c : Int × Int} (ha : sp8 a) (hb : sp8 b) (hc : sp8 c) : -12800 ≤ sd a b c ∧ sd a b c ≤ 12800 := by
  have h1 := smB_r ha
  have h2 := smB_r hb
  have h3 := smB_r hc
  have m1 := mul_in (n := 80) (m := 80) (x := b.1 - a.1) (y := c.2 - a.2) (by omega) (by omega)
  have m2 := mul_in (n := 80) (m := 80) (x := b.2 - a.2) (y := c.1 - a.1) (by omega) (by omega)
  unfold sd
  omega
theorem wgt_tiny {a b c : Int × Int} (ha : sp8 a) (hb : sp8 b) (hc : sp8 c) : (-1536000 ≤ (wgt a b c).1 ∧ (wgt a b c).1 ≤ 1536000) ∧ (-1536000 ≤ (wgt a b c).2 ∧ (wgt a b c).2 ≤ 1536000) := by
  have h1 := smB_r ha
  have h2 := smB_r hb
  have h3 := smB_r hc
  have hs := sd_tiny ha hb hc
  have m1 := mul_in (n := 12800) (m := 120) (x := sd a b c) (y := a.1 + b.1 + c.1) (by omega) (by omega)
  have m2 := mul_in (n := 12800) (m := 120) (x := sd a b c) (y := a.2 + b.2 + c.2) (by omega) (by omega)
  unfold wgt
  omega
theorem midT_small {l : List (Int × Int)} (H : ∀ p, p ∈ l → sp8 p) : ∀ k : Nat, k + 2 ≤ l.length → (-(k * 1536000 : Int) ≤ (midT l k).1 ∧ (midT l k).1 ≤ (k * 1536000 : Int)) ∧ (-(k * 1536000 : Int) ≤ (midT l k).2 ∧ (midT l k).2 ≤ (k * 1536000 : Int))
  | 0, _ => by simp [midT]
  | k + 1, h => by
    have h1 := midT_small H k (by omega)
    have h2 := wgt_tiny (H _ (pt_mem (l := l) (i := 0) (by omega))) (H _ (pt_mem (l := l) (i := k + 1) (by omega))) (H _ (pt_mem (l := l) (i := k + 2) (by omega)))
    unfold midT
    push_cast
    omega
end Go.Proofs.YtohcllojjmhbcaaDoor
