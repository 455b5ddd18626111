/-
  Lower chains and what lies over a way, in plain words: the program's test and the specification's are one.
  Conditions: as each theorem states them.
-/
import Derived.Test.YtibmgoaildhclaaDoorHWrapP
import Derived.Test.YtibmgoaildhclaaDoorHConv
import Derived.Test.YtibmgoaildhclaaDoorHGood
namespace Go.Proofs.YtibmgoaildhclaaDoor
open Go.RowKit
set_option linter.unusedVariables false
/-- All of the first n. -/
def aT (f : Nat → Bool) (n : Nat) : Bool := (List.range n).all f
theorem aT_iff {f : Nat → Bool} {n : Nat} : aT f n = true ↔ ∀ i, i < n → f i = true := by simp [aT]
theorem aT_no {f : Nat → Bool} {n k : Nat} (hk : k < n) (h : f k = false) : aT f n = false := by
  cases e : aT f n
  · rfl
  · rw [aT_iff.1 e k hk] at h; cases h
theorem aT_congr {f g : Nat → Bool} {n : Nat} (h : ∀ i, i < n → f i = g i) : aT f n = aT g n := by
  cases e : aT g n
  · cases e2 : aT f n
    · rfl
    · have : aT g n = true := aT_iff.2 fun i hi => by rw [← h i hi]; exact aT_iff.1 e2 i hi
      rw [e] at this; cases this
  · exact aT_iff.2 fun i hi => by rw [h i hi]; exact aT_iff.1 e i hi
theorem gpt8 {h : List (Int × Int)} (H : allG h) {i : Nat} (hi : i < h.length) : gp (pt h i) := H _ (pt_mem hi)
theorem tl_sl8 {a b q : Int × Int} (ha : gp a) (hb : gp b) (hq : gp q) : tlB a b q = slB a b q := by rw [tlB_eq ha hb hq, slB_eq ha hb hq]
/-- Whether the i-th point of a list and the next two turn left. -/
def trT (t : Int × Int → Int × Int → Int × Int → Bool) (l : List (Int × Int)) (i : Nat) : Bool := t (pt l i) (pt l (i + 1)) (pt l (i + 2))
/-- A lower chain. -/
def chI (l : List (Int × Int)) : Bool := goodL l && (decide (0 < l.length) && aT (trT tlB l) (l.length - 2))
def twI (a b : List (Int × Int)) : Bool := chI a && (chI b && lessB (pt a (a.length - 1)).1 (pt a (a.length - 1)).2 (pt b 0).1 (pt b 0).2)
/-- What the program asks of a point. -/
def ovT (f t p : Int × Int) : Bool := !(sideN f.1 f.2 t.1 t.2 p.1 p.2 == -1) && !(byB f t p || byB t f p)
def ovI (f t : Int × Int) (l : List (Int × Int)) : Bool := aT (fun i => ovT f t (pt l i)) l.length
/-- What the specification asks of the k-th point of a, of b. -/
def sdA (f t : Int × Int) (a : List (Int × Int)) (i k : Nat) : Bool := !(decide (sg (crossW f.1 f.2 t.1 t.2 (px a k) (py a k)) < 0) || (decide (sg (crossW f.1 f.2 t.1 t.2 (px a k) (py a k)) = 0) && decide (k < i)))
def sdB (f t : Int × Int) (b : List (Int × Int)) (j k : Nat) : Bool := !(decide (sg (crossW f.1 f.2 t.1 t.2 (px b k) (py b k)) < 0) || (decide (sg (crossW f.1 f.2 t.1 t.2 (px b k) (py b k)) = 0) && decide (j < k)))
def brS (a b : List (Int × Int)) (i j : Nat) : Bool := aT (sdA (pt a i) (pt b j) a i) a.length && aT (sdB (pt a i) (pt b j) b j) b.length
theorem chI_good {l : List (Int × Int)} (h : chI l = true) : goodL l = true := by
  unfold chI at h; rw [Bool.and_eq_true] at h; exact h.1
theorem chI_pos {l : List (Int × Int)} (h : chI l = true) : 0 < l.length := by
  unfold chI at h; simp only [Bool.and_eq_true, decide_eq_true_eq] at h; exact h.2.1
theorem sg_cases (n : Int) : (sg n = 1 ∧ 0 < n) ∨ (sg n = 0 ∧ n = 0) ∨ (sg n = -1 ∧ n < 0) := by
  unfold sg
  split
  · exact .inr (.inr ⟨rfl, by assumption⟩)
  · split
    · exact .inl ⟨rfl, by assumption⟩
    · exact .inr (.inl ⟨rfl, by omega⟩)
theorem ov_one {f t p : Int × Int} (hf : gp f) (ht : gp t) (hp : gp p) (hft : lessB f.1 f.2 t.1 t.2 = true) :
    ovT f t p = !(decide (sg (crossW f.1 f.2 t.1 t.2 p.1 p.2) < 0) || (decide (sg (crossW f.1 f.2 t.1 t.2 p.1 p.2) = 0) && (lessB t.1 t.2 p.1 p.2 || lessB p.1 p.2 f.1 f.2))) := by
  have htf : lessB t.1 t.2 f.1 f.2 = false := by
    cases h : lessB t.1 t.2 f.1 f.2
    · rfl
    · have := less_trans hft h; rw [less_irrefl] at this; cases this
  unfold ovT byB lt2
  rw [sideN_eq hf ht hp, sideN_eq ht hf hp, crossW_eq hf ht hp, sd_swap f t p, hft, htf]
  rcases sg_cases (sd f t p) with ⟨h1, h2⟩ | ⟨h1, h2⟩ | ⟨h1, h2⟩
  · have h3 : sg (-sd f t p) = -1 := by unfold sg; rw [if_pos (by omega)]
    rw [h1, h3]; simp
  · have h3 : sg (-sd f t p) = 0 := by rw [h2]; rfl
    rw [h1, h3]; simp
  · rw [h1]; simp
theorem less_no {l : List (Int × Int)} (h : RisesTo l (l.length - 1)) {i j : Nat} (hij : i ≤ j) (hj : j < l.length) : lessB (pt l j).1 (pt l j).2 (pt l i).1 (pt l i).2 = false := by
  cases e : lessB (pt l j).1 (pt l j).2 (pt l i).1 (pt l i).2
  · rfl
  · by_cases hE : i = j
    · subst hE; rw [less_irrefl] at e; cases e
    · have := less_trans (less_at h (show i < j by omega) hj) e
      rw [less_irrefl] at this
      cases this
theorem less_iff_at {l : List (Int × Int)} (h : RisesTo l (l.length - 1)) {i j : Nat} (hi : i < l.length) (hj : j < l.length) : lessB (pt l i).1 (pt l i).2 (pt l j).1 (pt l j).2 = decide (i < j) := by
  by_cases hij : i < j
  · rw [less_at h hij hj, decide_eq_true hij]
  · rw [less_no h (by omega) hi, decide_eq_false hij]
/-- All of a come before all of b. -/
theorem two_less {a b : List (Int × Int)} (h : twI a b = true) {i j : Nat} (hi : i < a.length) (hj : j < b.length) : lessB (pt a i).1 (pt a i).2 (pt b j).1 (pt b j).2 = true := by
  unfold twI at h
  simp only [Bool.and_eq_true] at h
  have ra := goodL_rises (chI_good h.1)
  have rb := goodL_rises (chI_good h.2.1)
  have h1 : i = a.length - 1 ∨ lessB (pt a i).1 (pt a i).2 (pt a (a.length - 1)).1 (pt a (a.length - 1)).2 = true := by
    by_cases e : i = a.length - 1
    · exact .inl e
    · exact .inr (less_at ra (by omega) (by omega))
  have h2 : lessB (pt a i).1 (pt a i).2 (pt b 0).1 (pt b 0).2 = true := by
    rcases h1 with rfl | h1
    · exact h.2.2
    · exact less_trans h1 h.2.2
  by_cases e : j = 0
  · subst e; exact h2
  · exact less_trans h2 (less_at rb (by omega) hj)
theorem less_asym8 {p q : Int × Int} (h : lessB p.1 p.2 q.1 q.2 = true) : lessB q.1 q.2 p.1 p.2 = false := by
  cases e : lessB q.1 q.2 p.1 p.2
  · rfl
  · have := less_trans h e; rw [less_irrefl] at this; cases this
theorem two_good {a b : List (Int × Int)} (h : twI a b = true) : allG a ∧ allG b := by
  unfold twI at h
  simp only [Bool.and_eq_true] at h
  exact ⟨allG_of (goodL_good (chI_good h.1)), allG_of (goodL_good (chI_good h.2.1))⟩
/-- The program's test of a bridge and the specification's. -/
theorem br_eq {a b : List (Int × Int)} (h : twI a b = true) {i j : Nat} (hi : i < a.length) (hj : j < b.length) : (ovI (pt a i) (pt b j) a && ovI (pt a i) (pt b j) b) = brS a b i j := by
  obtain ⟨ga, gb⟩ := two_good h
  have hft := two_less h hi hj
  have h' := h
  unfold twI at h'
  simp only [Bool.and_eq_true] at h'
  have ra := goodL_rises (chI_good h'.1)
  have rb := goodL_rises (chI_good h'.2.1)
  unfold brS ovI
  congr 1
  · refine aT_congr fun k hk => ?_
    rw [ov_one (gpt8 ga hi) (gpt8 gb hj) (gpt8 ga hk) hft, less_asym8 (two_less h hk hj), less_iff_at ra hk hi, Bool.false_or]
    rfl
  · refine aT_congr fun k hk => ?_
    rw [ov_one (gpt8 ga hi) (gpt8 gb hj) (gpt8 gb hk) hft, less_asym8 (two_less h hi hk), less_iff_at rb hj hk, Bool.or_false]
    rfl
end Go.Proofs.YtibmgoaildhclaaDoor
