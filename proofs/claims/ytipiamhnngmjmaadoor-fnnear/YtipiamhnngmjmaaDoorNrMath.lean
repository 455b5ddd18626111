/-
  Near and far, in plain words: how far two points are apart, the best of all two, the least over both halves and across, the nearest to a point, those within a bound.
  Conditions: as each theorem states them.
-/
import Derived.Test.YtipiamhnngmjmaaDoorB2
namespace Go.Proofs.YtipiamhnngmjmaaDoor
open Go.RowKit
set_option linter.unusedVariables false
/-- The square of how far it is. -/
def apF (p q : Int × Int) : Int := (q.1 - p.1) * (q.1 - p.1) + (q.2 - p.2) * (q.2 - p.2)
theorem apF_nn (p q : Int × Int) : 0 ≤ apF p q := by
  have h1 := sq_nn (q.1 - p.1)
  have h2 := sq_nn (q.2 - p.2)
  unfold apF; omega
theorem apF_comm (p q : Int × Int) : apF p q = apF q p := by unfold apF; grind
theorem sq_small {x : Int} (h : -2000000 ≤ x) (k : x ≤ 2000000) : 0 ≤ x * x ∧ x * x ≤ 4000000000000 := by
  refine ⟨sq_nn x, ?_⟩
  have h1 : 0 ≤ (2000000 - x) * (2000000 + x) := Int.mul_nonneg (by omega) (by omega)
  have h2 : (2000000 - x) * (2000000 + x) = 4000000000000 - x * x := by grind
  omega
theorem apF_small {p q : Int × Int} (hp : gp p) (hq : gp q) : 0 ≤ apF p q ∧ apF p q ≤ 8000000000000 := by
  have h1 := goodB_r hp
  have h2 := goodB_r hq
  have m1 := sq_small (x := q.1 - p.1) (by omega) (by omega)
  have m2 := sq_small (x := q.2 - p.2) (by omega) (by omega)
  unfold apF; omega
/-- All two, the first one's first. -/
def prs : List (Int × Int) → List ((Int × Int) × (Int × Int))
  | [] => []
  | x :: t => t.map (fun y => (x, y)) ++ prs t
def bstep (k : Int) (s c : (Int × Int) × (Int × Int)) : (Int × Int) × (Int × Int) := if k * (apF c.1 c.2 - apF s.1 s.2) < 0 then c else s
/-- The best two: nearest for 1, farthest for -1; of several the first ones. -/
def bst (k : Int) (l : List (Int × Int)) : (Int × Int) × (Int × Int) := (prs l).foldl (bstep k) (pt l 0, pt l 1)
theorem prs_drop {l : List (Int × Int)} {i : Nat} (h : i < l.length) : prs (l.drop i) = (l.drop (i + 1)).map (fun y => (pt l i, y)) ++ prs (l.drop (i + 1)) := by
  rw [List.drop_eq_getElem_cons h, pt_get h]; rfl
theorem map_drop_step {l : List (Int × Int)} {i : Nat} (h : i < l.length) (a : Int × Int) : (l.drop i).map (fun y => (a, y)) = (a, pt l i) :: (l.drop (i + 1)).map (fun y => (a, y)) := by
  rw [List.drop_eq_getElem_cons h, pt_get h]; rfl
theorem prs_mem {l : List (Int × Int)} {c : (Int × Int) × (Int × Int)} (h : c ∈ prs l) : c.1 ∈ l ∧ c.2 ∈ l := by
  induction l with
  | nil => cases h
  | cons x t ih =>
    rw [prs, List.mem_append, List.mem_map] at h
    rcases h with ⟨y, hy, rfl⟩ | h
    · exact ⟨by simp, by simp [hy]⟩
    · have := ih h; exact ⟨List.mem_cons_of_mem _ this.1, List.mem_cons_of_mem _ this.2⟩
theorem prs_append (l m : List (Int × Int)) (c : (Int × Int) × (Int × Int)) : c ∈ prs (l ++ m) ↔ c ∈ prs l ∨ c ∈ prs m ∨ (c.1 ∈ l ∧ c.2 ∈ m) := by
  induction l with
  | nil => simp [prs]
  | cons x t ih =>
    rw [List.cons_append, prs, prs, List.mem_append, List.mem_append, ih, List.mem_map, List.mem_map]
    constructor
    · rintro (⟨y, hy, rfl⟩ | h | h | h)
      · rw [List.mem_append] at hy
        rcases hy with hy | hy
        · exact .inl (.inl ⟨y, hy, rfl⟩)
        · exact .inr (.inr ⟨by simp, hy⟩)
      · exact .inl (.inr h)
      · exact .inr (.inl h)
      · exact .inr (.inr ⟨List.mem_cons_of_mem _ h.1, h.2⟩)
    · rintro ((⟨y, hy, rfl⟩ | h) | h | ⟨h1, h2⟩)
      · exact .inl ⟨y, List.mem_append.2 (.inl hy), rfl⟩
      · exact .inr (.inl h)
      · exact .inr (.inr (.inl h))
      · rcases List.mem_cons.1 h1 with e | h1
        · exact .inl ⟨c.2, List.mem_append.2 (.inr h2), by rw [← e]⟩
        · exact .inr (.inr (.inr ⟨h1, h2⟩))
/-- The least of a bound and of all numbers. -/
def mn (c : Int) (l : List Int) : Int := l.foldl min c
theorem mn_lo (l : List Int) : ∀ c : Int, mn c l ≤ c ∧ (∀ x, x ∈ l → mn c l ≤ x) ∧ (mn c l = c ∨ mn c l ∈ l) := by
  induction l with
  | nil => intro c; exact ⟨Int.le_refl c, (fun x hx => by cases hx), .inl rfl⟩
  | cons y t ih =>
    intro c
    have h := ih (min c y)
    have e : mn c (y :: t) = mn (min c y) t := rfl
    rw [e]
    refine ⟨Int.le_trans h.1 (Int.min_le_left _ _), fun x hx => ?_, ?_⟩
    · rcases List.mem_cons.1 hx with rfl | hx
      · exact Int.le_trans h.1 (Int.min_le_right _ _)
      · exact h.2.1 x hx
    · rcases h.2.2 with h2 | h2
      · rw [h2]
        rcases Int.le_total c y with h3 | h3
        · exact .inl (Int.min_eq_left h3)
        · exact .inr (by rw [Int.min_eq_right h3]; simp)
      · exact .inr (List.mem_cons_of_mem _ h2)
theorem mn_eq {c m : Int} {l : List Int} (h1 : m ≤ c) (h2 : ∀ x, x ∈ l → m ≤ x) (h3 : m = c ∨ m ∈ l) : mn c l = m := by
  have h := mn_lo l c
  rcases h.2.2 with e | e <;> rcases h3 with e' | e'
  · omega
  · have := h.2.1 m e'; omega
  · have := h2 _ e; omega
  · have := h2 _ e; have := h.2.1 m e'; omega
theorem mn_append (c : Int) (l m : List Int) : mn c (l ++ m) = mn (mn c l) m := by unfold mn; rw [List.foldl_append]
theorem mn_one (c x : Int) (l : List Int) : mn c (x :: l) = mn (min c x) l := rfl
theorem mn_stay {c : Int} {l : List Int} (h : ∀ x, x ∈ l → c ≤ x) : mn c l = c := mn_eq (Int.le_refl _) h (.inl rfl)
def BIG : Int := 8000000000000
def apc (c : (Int × Int) × (Int × Int)) : Int := apF c.1 c.2
/-- The least of all two. -/
def lea (l : List (Int × Int)) : Int := mn BIG ((prs l).map apc)
/-- All two across. -/
def crs (l m : List (Int × Int)) : List Int := l.flatMap fun a => m.map (apF a)
theorem crs_mem {l m : List (Int × Int)} {x : Int} : x ∈ crs l m ↔ ∃ a, a ∈ l ∧ ∃ b, b ∈ m ∧ apF a b = x := by
  unfold crs
  simp only [List.mem_flatMap, List.mem_map]
theorem lea_short {l : List (Int × Int)} (h : l.length < 2) : lea l = BIG := by
  match l, h with
  | [], _ => rfl
  | [a], _ => rfl
theorem lea_lo (l : List (Int × Int)) : lea l ≤ BIG := (mn_lo _ _).1
theorem lea_append (l m : List (Int × Int)) : lea (l ++ m) = mn (min (lea l) (lea m)) (crs l m) := by
  have hl := mn_lo ((prs l).map apc) BIG
  have hm := mn_lo ((prs m).map apc) BIG
  have hc := mn_lo (crs l m) (min (lea l) (lea m))
  have k1 : min (lea l) (lea m) ≤ lea l := Int.min_le_left _ _
  have k2 : min (lea l) (lea m) ≤ lea m := Int.min_le_right _ _
  refine mn_eq ?_ (fun x hx => ?_) ?_
  · exact Int.le_trans hc.1 (Int.le_trans k1 (lea_lo l))
  · rw [List.mem_map] at hx
    obtain ⟨c, hx, rfl⟩ := hx
    rw [prs_append] at hx
    rcases hx with h | h | h
    · exact Int.le_trans hc.1 (Int.le_trans k1 (hl.2.1 _ (List.mem_map.2 ⟨c, h, rfl⟩)))
    · exact Int.le_trans hc.1 (Int.le_trans k2 (hm.2.1 _ (List.mem_map.2 ⟨c, h, rfl⟩)))
    · exact hc.2.1 _ (crs_mem.2 ⟨c.1, h.1, c.2, h.2, rfl⟩)
  · rcases hc.2.2 with e | e
    · rcases Int.le_total (lea l) (lea m) with h | h
      · rw [Int.min_eq_left h] at e ⊢
        rw [e]
        rcases hl.2.2 with h2 | h2
        · exact .inl h2
        · obtain ⟨c, h3, h4⟩ := List.mem_map.1 h2
          exact .inr (List.mem_map.2 ⟨c, (prs_append _ _ _).2 (.inl h3), h4⟩)
      · rw [Int.min_eq_right h] at e ⊢
        rw [e]
        rcases hm.2.2 with h2 | h2
        · exact .inl h2
        · obtain ⟨c, h3, h4⟩ := List.mem_map.1 h2
          exact .inr (List.mem_map.2 ⟨c, (prs_append _ _ _).2 (.inr (.inl h3)), h4⟩)
    · obtain ⟨a, ha, b, hb, e2⟩ := crs_mem.1 e
      exact .inr (List.mem_map.2 ⟨(a, b), (prs_append _ _ _).2 (.inr (.inr ⟨ha, hb⟩)), e2⟩)
theorem lea_halves (l : List (Int × Int)) (k : Nat) : lea l = mn (min (lea (l.take k)) (lea (l.drop k))) (crs (l.take k) (l.drop k)) := by
  rw [← lea_append, List.take_append_drop]
/-- By the first numbers, rising. -/
def XUp (l : List (Int × Int)) : Prop := ∀ i j, i < j → j < l.length → px l i ≤ px l j
theorem XUp.of {l : List (Int × Int)} (h : RisesTo l (l.length - 1)) : XUp l := fun i j hij hj => by
  obtain ⟨d, rfl⟩ : ∃ d, j = i + d + 1 := ⟨j - i - 1, by omega⟩
  have := of_decide_eq_true (rises_lt h d i (by omega))
  omega
theorem px_take {l : List (Int × Int)} {k i : Nat} (h : i < k) : px (l.take k) i = px l i := by simp [px, h]
theorem px_drop (l : List (Int × Int)) (k i : Nat) : px (l.drop k) i = px l (k + i) := by simp [px, List.getElem?_drop]
theorem XUp.take {l : List (Int × Int)} (h : XUp l) (k : Nat) : XUp (l.take k) := fun i j hij hj => by
  rw [List.length_take] at hj
  rw [px_take (by omega), px_take (by omega)]
  exact h i j hij (by omega)
theorem XUp.drop {l : List (Int × Int)} (h : XUp l) (k : Nat) : XUp (l.drop k) := fun i j hij hj => by
  rw [List.length_drop] at hj
  rw [px_drop, px_drop]
  exact h _ _ (by omega) (by omega)
theorem wide_le {a b b' : Int × Int} {m : Int} (h1 : a.1 ≤ b.1) (h2 : b.1 ≤ b'.1) (h3 : m ≤ (b.1 - a.1) * (b.1 - a.1)) : m ≤ apF a b' := by
  have h4 : 0 ≤ (b'.1 - b.1) * (b'.1 - b.1) := sq_nn _
  have h5 : 0 ≤ (b'.1 - b.1) * (b.1 - a.1) := Int.mul_nonneg (by omega) (by omega)
  have h6 : (b'.1 - a.1) * (b'.1 - a.1) = (b.1 - a.1) * (b.1 - a.1) + 2 * ((b'.1 - b.1) * (b.1 - a.1)) + (b'.1 - b.1) * (b'.1 - b.1) := by grind
  have h7 := sq_nn (b'.2 - a.2)
  unfold apF; omega
theorem wide_less {a a' b : Int × Int} {m : Int} (h0 : a'.1 ≤ a.1) (h1 : a.1 ≤ b.1) (h3 : m ≤ (b.1 - a.1) * (b.1 - a.1)) : m ≤ (b.1 - a'.1) * (b.1 - a'.1) := by
  have h4 : 0 ≤ (a.1 - a'.1) * (a.1 - a'.1) := sq_nn _
  have h5 : 0 ≤ (a.1 - a'.1) * (b.1 - a.1) := Int.mul_nonneg (by omega) (by omega)
  have h6 : (b.1 - a'.1) * (b.1 - a'.1) = (b.1 - a.1) * (b.1 - a.1) + 2 * ((a.1 - a'.1) * (b.1 - a.1)) + (a.1 - a'.1) * (a.1 - a'.1) := by grind
  omega
/-- The best two are as far apart as the least tells. -/
theorem bst_apc (cs : List ((Int × Int) × (Int × Int))) : ∀ s, apc (cs.foldl (bstep 1) s) = mn (apc s) (cs.map apc) := by
  induction cs with
  | nil => intro s; rfl
  | cons c t ih =>
    intro s
    rw [List.foldl_cons, ih, List.map_cons, mn_one]
    congr 1
    unfold bstep apc
    rcases Int.le_total (apF s.1 s.2) (apF c.1 c.2) with h | h
    · rw [Int.min_eq_left h, if_neg (by omega)]
    · by_cases e : apF c.1 c.2 = apF s.1 s.2
      · rw [Int.min_eq_right h, if_neg (by omega), e]
      · rw [Int.min_eq_right h, if_pos (by omega)]
theorem bst_in (k : Int) (cs : List ((Int × Int) × (Int × Int))) : ∀ s, cs.foldl (bstep k) s = s ∨ cs.foldl (bstep k) s ∈ cs := by
  induction cs with
  | nil => intro s; exact .inl rfl
  | cons c t ih =>
    intro s
    rw [List.foldl_cons]
    rcases ih (bstep k s c) with h | h
    · rw [h]
      unfold bstep
      split
      · exact .inr (by simp)
      · exact .inl rfl
    · exact .inr (List.mem_cons_of_mem _ h)
theorem prs_first {l : List (Int × Int)} (h : 2 ≤ l.length) : (pt l 0, pt l 1) ∈ prs l := by
  match l, h with
  | x :: y :: t, _ => simp [prs, pt, px, py]
theorem bst_mem {k : Int} {l : List (Int × Int)} (h : 2 ≤ l.length) : bst k l ∈ prs l := by
  rcases bst_in k (prs l) (pt l 0, pt l 1) with e | e
  · unfold bst; rw [e]; exact prs_first h
  · exact e
theorem lea_bst {l : List (Int × Int)} (H : allG l) (h : 2 ≤ l.length) : lea l = apc (bst 1 l) := by
  have e := bst_apc (prs l) (pt l 0, pt l 1)
  have hb := bst_mem (k := 1) h
  have hm := prs_mem hb
  have h0 := mn_lo ((prs l).map apc) (apc (pt l 0, pt l 1))
  refine mn_eq ?_ (fun x hx => ?_) (.inr (List.mem_map.2 ⟨_, hb, rfl⟩))
  · exact (apF_small (H _ hm.1) (H _ hm.2)).2
  · unfold bst; rw [e]; exact h0.2.1 x hx
theorem bst_gp {k : Int} {l : List (Int × Int)} (H : allG l) (h : 2 ≤ l.length) : gp (bst k l).1 ∧ gp (bst k l).2 := by
  have hm := prs_mem (bst_mem (k := k) h)
  exact ⟨H _ hm.1, H _ hm.2⟩
/-- The nearest to a point, of several the first. -/
def nstep (q s p : Int × Int) : Int × Int := if apF p q < apF s q then p else s
def nxT (l : List (Int × Int)) (q : Int × Int) : Int × Int := l.foldl (nstep q) (pt l 0)
def wth (l : List (Int × Int)) (q : Int × Int) (m : Int) : List (Int × Int) := l.filter fun p => decide (apF p q ≤ m)
theorem take_step {l : List (Int × Int)} {k : Nat} (h : k < l.length) : l.take (k + 1) = l.take k ++ [pt l k] := by
  rw [List.take_succ_eq_append_getElem h, pt_get h]
theorem wth_len (l : List (Int × Int)) (q : Int × Int) (m : Int) : (wth l q m).length ≤ l.length := List.length_filter_le _ _
theorem wth_yes {l : List (Int × Int)} {k : Nat} (h : k < l.length) {q : Int × Int} {m : Int} (e : apF (pt l k) q ≤ m) : wth (l.take (k + 1)) q m = wth (l.take k) q m ++ [pt l k] := by
  rw [take_step h]; simp [wth, List.filter_append, e]
theorem wth_no {l : List (Int × Int)} {k : Nat} (h : k < l.length) {q : Int × Int} {m : Int} (e : ¬ apF (pt l k) q ≤ m) : wth (l.take (k + 1)) q m = wth (l.take k) q m := by
  rw [take_step h]; simp [wth, List.filter_append, e]
theorem nx_step {l : List (Int × Int)} {k : Nat} (h : k < l.length) {q : Int × Int} (s : Int × Int) : (l.take (k + 1)).foldl (nstep q) s = nstep q ((l.take k).foldl (nstep q) s) (pt l k) := by
  rw [take_step h, List.foldl_append]; rfl
theorem nx_in (q : Int × Int) (l : List (Int × Int)) : ∀ s, l.foldl (nstep q) s = s ∨ l.foldl (nstep q) s ∈ l := by
  induction l with
  | nil => intro s; exact .inl rfl
  | cons c t ih =>
    intro s
    rw [List.foldl_cons]
    rcases ih (nstep q s c) with h | h
    · rw [h]
      unfold nstep
      split
      · exact .inr (by simp)
      · exact .inl rfl
    · exact .inr (List.mem_cons_of_mem _ h)
theorem nx_mem {l : List (Int × Int)} {q : Int × Int} (h : 1 ≤ l.length) : nxT l q ∈ l := by
  rcases nx_in q l (pt l 0) with e | e
  · unfold nxT; rw [e]; exact pt_mem h
  · exact e
end Go.Proofs.YtipiamhnngmjmaaDoor
