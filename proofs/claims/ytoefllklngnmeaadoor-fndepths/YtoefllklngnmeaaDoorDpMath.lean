/-
  The depth of a point, in plain words: what the specification counts in half planes is what the program counts by where the points are seen.
  Conditions: as each theorem states them.
-/
import Derived.Test.YtoefllklngnmeaaDoorEqv
namespace Go.Proofs.YtoefllklngnmeaaDoor
open Go.RowKit Go.Shelf
set_option linter.unusedVariables false
/-- x is in the half plane, as the specification has it. -/
def hvB (q p : Int × Int) (on : Int) (x : Int × Int) : Bool :=
  decide (x = q) || (decide (0 < sg (crossW q.1 q.2 p.1 p.2 x.1 x.2)) || (decide (sg (crossW q.1 q.2 p.1 p.2 x.1 x.2) = 0) && decide (sg (dotW (wrap64 (p.1 - q.1)) (wrap64 (p.2 - q.2)) q.1 q.2 x.1 x.2) = on)))
def halfN (l : List (Int × Int)) (q p : Int × Int) (on : Int) : Nat := l.countP (hvB q p on)
/-- Where x is, seen from q looking at p: here, left, right, ahead, behind. -/
def clsN (q p x : Int × Int) : Nat :=
  if x = q then 0 else if sideN q.1 q.2 p.1 p.2 x.1 x.2 = 1 then 1 else if sideN q.1 q.2 p.1 p.2 x.1 x.2 = -1 then 2 else if lessB q.1 q.2 x.1 x.2 = lessB q.1 q.2 p.1 p.2 then 3 else 4
def cnt (l : List (Int × Int)) (q p : Int × Int) (c : Nat) : Nat := l.countP fun x => clsN q p x == c
def fewN (l : List (Int × Int)) (q p : Int × Int) : Nat := cnt l q p 0 + min (cnt l q p 1) (cnt l q p 2) + min (cnt l q p 3) (cnt l q p 4)
/-- The point on the other side of q. -/
def backP (q p : Int × Int) : Int × Int := (wrap64 (wrap64 (2 * q.1) - p.1), wrap64 (wrap64 (2 * q.2) - p.2))
theorem crossW_w {a b c : Int × Int} (h1 : -2000000 ≤ b.1 - a.1 ∧ b.1 - a.1 ≤ 2000000) (h2 : -2000000 ≤ b.2 - a.2 ∧ b.2 - a.2 ≤ 2000000) (h3 : -2000000 ≤ c.1 - a.1 ∧ c.1 - a.1 ≤ 2000000) (h4 : -2000000 ≤ c.2 - a.2 ∧ c.2 - a.2 ≤ 2000000) :
    crossW a.1 a.2 b.1 b.2 c.1 c.2 = sd a b c := by
  unfold crossW sd
  have m1 := small_mul (x := b.1 - a.1) (y := c.2 - a.2) (by omega) (by omega)
  have m2 := small_mul (x := b.2 - a.2) (y := c.1 - a.1) (by omega) (by omega)
  rw [wrap_in (x := b.1 - a.1) (by omega) (by omega), wrap_in (x := c.2 - a.2) (by omega) (by omega), wrap_in (x := b.2 - a.2) (by omega) (by omega), wrap_in (x := c.1 - a.1) (by omega) (by omega)]
  generalize (b.1 - a.1) * (c.2 - a.2) = u at *
  generalize (b.2 - a.2) * (c.1 - a.1) = v at *
  rw [wrap_in (x := u) (by omega) (by omega), wrap_in (x := v) (by omega) (by omega), wrap_in (x := u - v) (by omega) (by omega)]
theorem dotW_w {a b c : Int × Int} (h1 : -2000000 ≤ b.1 - a.1 ∧ b.1 - a.1 ≤ 2000000) (h2 : -2000000 ≤ b.2 - a.2 ∧ b.2 - a.2 ≤ 2000000) (h3 : -2000000 ≤ c.1 - a.1 ∧ c.1 - a.1 ≤ 2000000) (h4 : -2000000 ≤ c.2 - a.2 ∧ c.2 - a.2 ≤ 2000000) :
    dotW (wrap64 (b.1 - a.1)) (wrap64 (b.2 - a.2)) a.1 a.2 c.1 c.2 = dt (vec a b) (vec a c) := by
  unfold dotW dt vec
  have m1 := small_mul (x := b.1 - a.1) (y := c.1 - a.1) (by omega) (by omega)
  have m2 := small_mul (x := b.2 - a.2) (y := c.2 - a.2) (by omega) (by omega)
  rw [wrap_in (x := b.1 - a.1) (by omega) (by omega), wrap_in (x := c.2 - a.2) (by omega) (by omega), wrap_in (x := b.2 - a.2) (by omega) (by omega), wrap_in (x := c.1 - a.1) (by omega) (by omega)]
  show wrap64 (wrap64 ((b.1 - a.1) * (c.1 - a.1)) + wrap64 ((b.2 - a.2) * (c.2 - a.2))) = (b.1 - a.1) * (c.1 - a.1) + (b.2 - a.2) * (c.2 - a.2)
  generalize (b.1 - a.1) * (c.1 - a.1) = u at *
  generalize (b.2 - a.2) * (c.2 - a.2) = v at *
  rw [wrap_in (x := u) (by omega) (by omega), wrap_in (x := v) (by omega) (by omega), wrap_in (x := u + v) (by omega) (by omega)]
theorem less_lex (a b : Int × Int) : lessB a.1 a.2 b.1 b.2 = true ↔ Lex a b := by unfold lessB Lex; simp
theorem lex_cases {a b : Int × Int} (h : a ≠ b) : Lex a b ∨ Lex b a := by
  unfold Lex
  by_cases h1 : a.1 = b.1
  · by_cases h2 : a.2 = b.2
    · exact absurd (Prod.ext h1 h2) h
    · omega
  · omega
theorem lex_not {a b : Int × Int} (h : Lex a b) : ¬ Lex b a := by unfold Lex at *; omega
/-- In one line: to the same side just where the dot is above 0. -/
theorem dot_side {q p x : Int × Int} (hp : p ≠ q) (hx : x ≠ q) (h : sd q p x = 0) : (lessB q.1 q.2 x.1 x.2 = lessB q.1 q.2 p.1 p.2 → 0 < dt (vec q p) (vec q x)) ∧ (lessB q.1 q.2 x.1 x.2 ≠ lessB q.1 q.2 p.1 p.2 → dt (vec q p) (vec q x) < 0) := by
  have hd : dt (vec q p) (vec q x) ≠ 0 := by
    intro h0
    have hl := lagr (vec q p) (vec q x)
    have hc : cx (vec q p) (vec q x) = 0 := h
    rw [h0, hc] at hl
    have a1 : vec q p ≠ (0, 0) := fun e => hp (by unfold vec at e; simp at e; exact Prod.ext (by omega) (by omega))
    have a2 : vec q x ≠ (0, 0) := fun e => hx (by unfold vec at e; simp at e; exact Prod.ext (by omega) (by omega))
    have b1 := dd_pos a1
    have b2 := dd_pos a2
    have := Int.mul_pos b1 b2
    omega
  have hpar := par_dot (a := (vec q p).1) (b := (vec q p).2) (c := (vec q x).1) (d := (vec q x).2) (by have : cx (vec q p) (vec q x) = 0 := h; unfold cx at this; omega)
  have hdt : dt (vec q p) (vec q x) = (vec q p).1 * (vec q x).1 + (vec q p).2 * (vec q x).2 := rfl
  rw [← hdt] at hpar
  have ep : ∀ y : Int × Int, y ≠ q → (lessB q.1 q.2 y.1 y.2 = true ∧ (0 < (vec q y).1 ∨ (vec q y).1 = 0 ∧ 0 ≤ (vec q y).2) ∧ ¬ ((vec q y).1 < 0 ∨ (vec q y).1 = 0 ∧ (vec q y).2 ≤ 0)) ∨ (lessB q.1 q.2 y.1 y.2 = false ∧ ¬ (0 < (vec q y).1 ∨ (vec q y).1 = 0 ∧ 0 ≤ (vec q y).2) ∧ ((vec q y).1 < 0 ∨ (vec q y).1 = 0 ∧ (vec q y).2 ≤ 0)) := by
    intro y hy
    rcases lex_cases hy with hl | hl
    · refine .inr ⟨?_, ?_⟩
      · cases e : lessB q.1 q.2 y.1 y.2
        · rfl
        · exact absurd ((less_lex q y).1 e) (lex_not hl)
      · unfold Lex at hl
        unfold vec
        omega
    · refine .inl ⟨(less_lex q y).2 hl, ?_⟩
      unfold Lex at hl
      unfold vec
      omega
  rcases ep p hp with ⟨e1, f1, g1⟩ | ⟨e1, f1, g1⟩ <;> rcases ep x hx with ⟨e2, f2, g2⟩ | ⟨e2, f2, g2⟩ <;> rw [e1, e2] <;> refine ⟨fun hq => ?_, fun hq => ?_⟩
  · have := hpar.1 (.inl ⟨f1, f2⟩); omega
  · exact absurd rfl hq
  · cases hq
  · have : ¬ 0 ≤ dt (vec q p) (vec q x) := fun k => by
      rcases hpar.2 k with h1 | h1
      · exact f2 h1.2
      · exact g1 h1.1
    omega
  · cases hq
  · have : ¬ 0 ≤ dt (vec q p) (vec q x) := fun k => by
      rcases hpar.2 k with h1 | h1
      · exact f1 h1.1
      · exact g2 h1.2
    omega
  · have := hpar.1 (.inr ⟨g1, g2⟩); omega
  · exact absurd rfl hq
theorem sg_cases (n : Int) : (0 < n ∧ sg n = 1) ∨ (n = 0 ∧ sg n = 0) ∨ (n < 0 ∧ sg n = -1) := by unfold sg; repeat (first | split | omega)
theorem gp_r {p : Int × Int} (h : gp p) : (-1000000 ≤ p.1 ∧ p.1 ≤ 1000000) ∧ (-1000000 ≤ p.2 ∧ p.2 ≤ 1000000) := goodB_r h
theorem backP_eq {q p : Int × Int} (hq : gp q) (hp : gp p) : backP q p = (2 * q.1 - p.1, 2 * q.2 - p.2) := by
  have h1 := gp_r hq
  have h2 := gp_r hp
  unfold backP
  rw [wrap_in (x := 2 * q.1) (by omega) (by omega), wrap_in (x := 2 * q.2) (by omega) (by omega), wrap_in (by omega) (by omega), wrap_in (by omega) (by omega)]
/-- What is counted, in one line per half plane. -/
theorem hv_ahead {q p x : Int × Int} (hq : gp q) (hp : gp p) (hx : gp x) (hne : p ≠ q) :
    hvB q p 1 x = (clsN q p x == 0 || (clsN q p x == 1 || clsN q p x == 3)) ∧ hvB q p (-1) x = (clsN q p x == 0 || (clsN q p x == 1 || clsN q p x == 4)) ∧
    hvB q (backP q p) 1 x = (clsN q p x == 0 || (clsN q p x == 2 || clsN q p x == 4)) ∧ hvB q (backP q p) (-1) x = (clsN q p x == 0 || (clsN q p x == 2 || clsN q p x == 3)) := by
  have r1 := gp_r hq
  have r2 := gp_r hp
  have r3 := gp_r hx
  have hb := backP_eq hq hp
  obtain ⟨b, hbe⟩ : ∃ b, backP q p = b := ⟨_, rfl⟩
  rw [hbe] at hb ⊢
  have b1 : b.1 = 2 * q.1 - p.1 := by rw [hb]
  have b2 : b.2 = 2 * q.2 - p.2 := by rw [hb]
  by_cases hxq : x = q
  · have hc : clsN q p x = 0 := by unfold clsN; rw [if_pos hxq]
    rw [hc]
    unfold hvB
    rw [decide_eq_true hxq]
    simp
  · have c1 : crossW q.1 q.2 p.1 p.2 x.1 x.2 = sd q p x := crossW_w (by omega) (by omega) (by omega) (by omega)
    have c2 : crossW q.1 q.2 b.1 b.2 x.1 x.2 = sd q b x := crossW_w (by omega) (by omega) (by omega) (by omega)
    have d1 : dotW (wrap64 (p.1 - q.1)) (wrap64 (p.2 - q.2)) q.1 q.2 x.1 x.2 = dt (vec q p) (vec q x) := dotW_w (by omega) (by omega) (by omega) (by omega)
    have d2 : dotW (wrap64 (b.1 - q.1)) (wrap64 (b.2 - q.2)) q.1 q.2 x.1 x.2 = dt (vec q b) (vec q x) := dotW_w (by omega) (by omega) (by omega) (by omega)
    have s2 : sd q b x = - sd q p x := by unfold sd; rw [b1, b2]; grind
    have e2 : dt (vec q b) (vec q x) = - dt (vec q p) (vec q x) := by
      show (b.1 - q.1) * (x.1 - q.1) + (b.2 - q.2) * (x.2 - q.2) = - ((p.1 - q.1) * (x.1 - q.1) + (p.2 - q.2) * (x.2 - q.2))
      rw [b1, b2]; grind
    have sn := sideN_eq hq hp hx
    unfold hvB clsN
    rw [c1, c2, d1, d2, s2, e2, sn, if_neg hxq, decide_eq_false hxq]
    rcases sg_cases (sd q p x) with ⟨h, e⟩ | ⟨h, e⟩ | ⟨h, e⟩
    · have e' : sg (- sd q p x) = -1 := by rcases sg_cases (- sd q p x) with ⟨h', e'⟩ | ⟨h', e'⟩ | ⟨h', e'⟩ <;> omega
      rw [e, e']; simp
    · have e' : sg (- sd q p x) = 0 := by rcases sg_cases (- sd q p x) with ⟨h', e'⟩ | ⟨h', e'⟩ | ⟨h', e'⟩ <;> omega
      have hs := dot_side hne hxq h
      rw [e, e']
      by_cases hl : lessB q.1 q.2 x.1 x.2 = lessB q.1 q.2 p.1 p.2
      · have h0 := hs.1 hl
        have f1 : sg (dt (vec q p) (vec q x)) = 1 := by rcases sg_cases (dt (vec q p) (vec q x)) with ⟨h', e'⟩ | ⟨h', e'⟩ | ⟨h', e'⟩ <;> omega
        have f2 : sg (- dt (vec q p) (vec q x)) = -1 := by rcases sg_cases (- dt (vec q p) (vec q x)) with ⟨h', e'⟩ | ⟨h', e'⟩ | ⟨h', e'⟩ <;> omega
        rw [f1, f2, if_pos hl]; simp
      · have h0 := hs.2 hl
        have f1 : sg (dt (vec q p) (vec q x)) = -1 := by rcases sg_cases (dt (vec q p) (vec q x)) with ⟨h', e'⟩ | ⟨h', e'⟩ | ⟨h', e'⟩ <;> omega
        have f2 : sg (- dt (vec q p) (vec q x)) = 1 := by rcases sg_cases (- dt (vec q p) (vec q x)) with ⟨h', e'⟩ | ⟨h', e'⟩ | ⟨h', e'⟩ <;> omega
        rw [f1, f2, if_neg hl]; simp
    · have e' : sg (- sd q p x) = 1 := by rcases sg_cases (- sd q p x) with ⟨h', e'⟩ | ⟨h', e'⟩ | ⟨h', e'⟩ <;> omega
      rw [e, e']; simp
theorem count_three {α : Type} {f : α → Bool} {g : α → Nat} {a b c : Nat} (hab : a ≠ b) (hac : a ≠ c) (hbc : b ≠ c) : ∀ l : List α, (∀ x ∈ l, f x = (g x == a || (g x == b || g x == c))) → l.countP f = (l.countP fun x => g x == a) + (l.countP fun x => g x == b) + (l.countP fun x => g x == c)
  | [], _ => rfl
  | x :: r, h => by
    have ih := count_three (f := f) (g := g) hab hac hbc r (fun y hy => h y (List.mem_cons_of_mem _ hy))
    have hx := h x List.mem_cons_self
    simp only [List.countP_cons]
    rw [ih, hx]
    by_cases h1 : g x = a
    · have h2 : (g x == b) = false := by simp; omega
      have h3 : (g x == c) = false := by simp; omega
      simp [h1, hab, hac]; omega
    · have h1' : (g x == a) = false := by simpa using h1
      by_cases h2 : g x = b
      · have h3 : (g x == c) = false := by simp; omega
        simp [h2, hab.symm, hbc]; omega
      · have h2' : (g x == b) = false := by simpa using h2
        simp [h1', h2']; split <;> omega
theorem few_half {l : List (Int × Int)} {q p : Int × Int} (hl : allG l) (hq : gp q) (hp : gp p) (hne : p ≠ q) (d : Nat) :
    min (min (min (min d (halfN l q p 1)) (halfN l q (backP q p) 1)) (halfN l q p (-1))) (halfN l q (backP q p) (-1)) = min d (fewN l q p) := by
  have e1 : halfN l q p 1 = cnt l q p 0 + cnt l q p 1 + cnt l q p 3 := count_three (by omega) (by omega) (by omega) l fun x hx => (hv_ahead hq hp (hl x hx) hne).1
  have e2 : halfN l q p (-1) = cnt l q p 0 + cnt l q p 1 + cnt l q p 4 := count_three (by omega) (by omega) (by omega) l fun x hx => (hv_ahead hq hp (hl x hx) hne).2.1
  have e3 : halfN l q (backP q p) 1 = cnt l q p 0 + cnt l q p 2 + cnt l q p 4 := count_three (by omega) (by omega) (by omega) l fun x hx => (hv_ahead hq hp (hl x hx) hne).2.2.1
  have e4 : halfN l q (backP q p) (-1) = cnt l q p 0 + cnt l q p 2 + cnt l q p 3 := count_three (by omega) (by omega) (by omega) l fun x hx => (hv_ahead hq hp (hl x hx) hne).2.2.2
  rw [e1, e2, e3, e4]
  unfold fewN
  omega
/-- The least so far, behind k points. -/
def dpN (l : List (Int × Int)) (q : Int × Int) : Nat → Nat
  | 0 => l.length
  | k + 1 => if (px l k, py l k) = q then dpN l q k else min (dpN l q k) (fewN l q (px l k, py l k))
theorem dpN_here {l : List (Int × Int)} {q : Int × Int} {k : Nat} (h : (px l k, py l k) = q) : dpN l q (k + 1) = dpN l q k := by
  show (if _ then _ else _) = _
  rw [if_pos h]
theorem dpN_more {l : List (Int × Int)} {q : Int × Int} {k : Nat} (h : ¬ (px l k, py l k) = q) : dpN l q (k + 1) = min (dpN l q k) (fewN l q (px l k, py l k)) := by
  show (if _ then _ else _) = _
  rw [if_neg h]
theorem dpN_le (l : List (Int × Int)) (q : Int × Int) : ∀ k, dpN l q k ≤ l.length
  | 0 => Nat.le_refl _
  | k + 1 => by
    have := dpN_le l q k
    by_cases h : (px l k, py l k) = q
    · rw [dpN_here h]; exact this
    · rw [dpN_more h]; omega
def dpOk (l : List (Int × Int)) (x y : Int) : Bool := goodL l && goodB x y
def dpV (l : List (Int × Int)) (x y : Int) : Nat := if dpOk l x y = true then dpN l (x, y) l.length else 0
end Go.Proofs.YtoefllklngnmeaaDoor
