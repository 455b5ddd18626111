/-
  Two sets laid together: the list of both (lists alone).
  Conditions: as each theorem states them.
-/
import Derived.Test.YtfhlgdngmdlakaaDoorSet16
namespace Go.Proofs.YtfhlgdngmdlakaaDoor
open Go.RowKit
set_option linter.unusedVariables false
def ltP (p q : Int × Int) : Prop := lessB p.1 p.2 q.1 q.2 = true
/-- Two rising lists, side by side. -/
def mergeL : List (Int × Int) → List (Int × Int) → List (Int × Int)
  | [], m => m
  | p :: l, [] => p :: l
  | p :: l, q :: m => if lessB p.1 p.2 q.1 q.2 then p :: mergeL l (q :: m) else if lessB q.1 q.2 p.1 p.2 then q :: mergeL (p :: l) m else p :: mergeL l m
termination_by l m => l.length + m.length
theorem merge_nil_right (l : List (Int × Int)) : mergeL l [] = l := by cases l <;> simp [mergeL]
theorem merge_nil_left (l : List (Int × Int)) : mergeL [] l = l := by simp [mergeL]
theorem not_both {p q : Int × Int} (h1 : lessB p.1 p.2 q.1 q.2 = false) (h2 : lessB q.1 q.2 p.1 p.2 = false) : p = q := by
  have a := of_decide_eq_false h1
  have b := of_decide_eq_false h2
  exact Prod.ext (by omega) (by omega)
theorem mem_merge (r : Int × Int) : ∀ n l m, l.length + m.length ≤ n → (r ∈ mergeL l m ↔ r ∈ l ∨ r ∈ m) := by
  intro n
  induction n with
  | zero =>
    intro l m h
    obtain rfl := List.eq_nil_of_length_eq_zero (show l.length = 0 by omega)
    simp [mergeL]
  | succ n ih =>
    intro l m h
    match l, m with
    | [], m => simp [mergeL]
    | p :: l, [] => simp [mergeL]
    | p :: l, q :: m =>
      simp only [List.length_cons] at h
      rw [mergeL]
      cases h1 : lessB p.1 p.2 q.1 q.2
      · cases h2 : lessB q.1 q.2 p.1 p.2
        · obtain rfl := not_both h1 h2
          have := ih l m (by omega)
          simp only [Bool.false_eq_true, if_false, List.mem_cons, this]
          constructor
          · rintro (h | h | h) <;> simp [h]
          · rintro ((h | h) | (h | h)) <;> simp [h]
        · have := ih (p :: l) m (by simp; omega)
          simp only [Bool.false_eq_true, if_false, if_true, List.mem_cons] at this ⊢
          rw [this]
          constructor
          · rintro (h | (h | h) | h) <;> simp [h]
          · rintro ((h | h) | (h | h)) <;> simp [h]
      · have := ih l (q :: m) (by simp; omega)
        simp only [if_true, List.mem_cons] at this ⊢
        rw [this]
        constructor
        · rintro (h | h | h | h) <;> simp [h]
        · rintro ((h | h) | (h | h)) <;> simp [h]
theorem ltP_trans {p q r : Int × Int} (h : ltP p q) (k : ltP q r) : ltP p r := less_trans h k
theorem ltP_irrefl {p : Int × Int} (h : ltP p p) : False := by
  have := less_irrefl p.1 p.2
  rw [ltP, this] at h; cases h
theorem merge_rises : ∀ n (l m : List (Int × Int)), l.length + m.length ≤ n → l.Pairwise ltP → m.Pairwise ltP → (mergeL l m).Pairwise ltP := by
  intro n
  induction n with
  | zero =>
    intro l m h _ _
    obtain rfl := List.eq_nil_of_length_eq_zero (show l.length = 0 by omega)
    obtain rfl := List.eq_nil_of_length_eq_zero (show m.length = 0 by omega)
    simp [mergeL]
  | succ n ih =>
    intro l m h hl hm
    match l, m with
    | [], m => simpa [mergeL] using hm
    | p :: l, [] => simpa [mergeL] using hl
    | p :: l, q :: m =>
      simp only [List.length_cons] at h
      have hl' := List.pairwise_cons.1 hl
      have hm' := List.pairwise_cons.1 hm
      rw [mergeL]
      cases h1 : lessB p.1 p.2 q.1 q.2
      · cases h2 : lessB q.1 q.2 p.1 p.2
        · obtain rfl := not_both h1 h2
          simp only [Bool.false_eq_true, if_false]
          refine List.pairwise_cons.2 ⟨fun r hr => ?_, ih l m (by omega) hl'.2 hm'.2⟩
          rcases (mem_merge r _ l m (Nat.le_refl _)).1 hr with h | h
          · exact hl'.1 r h
          · exact hm'.1 r h
        · simp only [Bool.false_eq_true, if_false, if_true]
          refine List.pairwise_cons.2 ⟨fun r hr => ?_, ih (p :: l) m (by simp; omega) hl hm'.2⟩
          rcases (mem_merge r _ (p :: l) m (Nat.le_refl _)).1 hr with h | h
          · rcases List.mem_cons.1 h with rfl | h
            · exact h2
            · exact ltP_trans h2 (hl'.1 r h)
          · exact hm'.1 r h
      · simp only [if_true]
        refine List.pairwise_cons.2 ⟨fun r hr => ?_, ih l (q :: m) (by simp; omega) hl'.2 hm⟩
        rcases (mem_merge r _ l (q :: m) (Nat.le_refl _)).1 hr with h | h
        · exact hl'.1 r h
        · rcases List.mem_cons.1 h with rfl | h
          · exact h1
          · exact ltP_trans h1 (hm'.1 r h)
theorem same_sets : ∀ (l m : List (Int × Int)), l.Pairwise ltP → m.Pairwise ltP → (∀ r, r ∈ l ↔ r ∈ m) → l = m := by
  intro l
  induction l with
  | nil =>
    intro m _ _ h
    cases m with
    | nil => rfl
    | cons q m => exact absurd ((h q).2 (by simp)) (by simp)
  | cons p l ih =>
    intro m hl hm h
    cases m with
    | nil => exact absurd ((h p).1 (by simp)) (by simp)
    | cons q m =>
      have hl' := List.pairwise_cons.1 hl
      have hm' := List.pairwise_cons.1 hm
      have e : p = q := by
        rcases List.mem_cons.1 ((h p).1 (by simp)) with e | hp
        · exact e
        · rcases List.mem_cons.1 ((h q).2 (by simp)) with e | hq
          · exact e.symm
          · exact (ltP_irrefl (ltP_trans (hm'.1 p hp) (hl'.1 q hq))).elim
      subst e
      congr 1
      refine ih m hl'.2 hm'.2 fun r => ⟨fun hr => ?_, fun hr => ?_⟩
      · rcases List.mem_cons.1 ((h r).1 (List.mem_cons_of_mem _ hr)) with e | hr'
        · subst e; exact (ltP_irrefl (hl'.1 r hr)).elim
        · exact hr'
      · rcases List.mem_cons.1 ((h r).2 (List.mem_cons_of_mem _ hr)) with e | hr'
        · subst e; exact (ltP_irrefl (hm'.1 r hr)).elim
        · exact hr'
theorem pair_of {l : List (Int × Int)} {i : Nat} (h : i < l.length) : (px l i, py l i) = l[i] := by simp [px, py, h]
theorem rises_pair {l : List (Int × Int)} (h : RisesTo l (l.length - 1)) : l.Pairwise ltP := by
  rw [List.pairwise_iff_getElem]
  intro i j hi hj hij
  have := rises_lt h (j - i - 1) i (by omega)
  rw [show i + (j - i - 1) + 1 = j by omega] at this
  rw [← pair_of hi, ← pair_of hj]
  exact this
theorem mem_put1 (l : List (Int × Int)) (x y : Int) (r : Int × Int) : r ∈ put1 l x y ↔ r ∈ l ∨ r = (x, y) := by
  unfold put1
  split
  · rename_i h
    rw [hasB, Bool.and_eq_true] at h
    have hlt := of_decide_eq_true h.1
    have he := of_decide_eq_true h.2
    have hm : (x, y) ∈ l := by
      have e := pair_of hlt
      rw [he.1, he.2] at e
      rw [e]; exact List.getElem_mem hlt
    constructor
    · exact Or.inl
    · rintro (h | rfl)
      · exact h
      · exact hm
  · rw [putR, List.mem_append, List.mem_cons]
    constructor
    · rintro (h | h | h)
      · exact .inl (List.mem_of_mem_take h)
      · exact .inr h
      · exact .inl (List.mem_of_mem_drop h)
    · rintro (h | h)
      · rw [← List.take_append_drop (plc l x y) l, List.mem_append] at h
        rcases h with h | h
        · exact .inl h
        · exact .inr (.inr h)
      · exact .inr (.inl h)
theorem mem_foldl (r : Int × Int) : ∀ (l s : List (Int × Int)), r ∈ l.foldl (fun s p => put1 s p.1 p.2) s ↔ r ∈ s ∨ r ∈ l := by
  intro l
  induction l with
  | nil => intro s; simp
  | cons p l ih =>
    intro s
    rw [List.foldl_cons, ih, mem_put1, List.mem_cons]
    constructor
    · rintro ((h | h) | h)
      · exact .inl h
      · exact .inr (.inl h)
      · exact .inr (.inr h)
    · rintro (h | h | h)
      · exact .inl (.inl h)
      · exact .inl (.inr h)
      · exact .inr h
theorem mem_fromL (l : List (Int × Int)) (r : Int × Int) : r ∈ fromL l ↔ r ∈ l := by
  rw [fromL, mem_foldl]; simp
/-- Two sets side by side are the set of both. -/
theorem merge_from {l m : List (Int × Int)} (hl : RisesTo l (l.length - 1)) (hm : RisesTo m (m.length - 1)) : mergeL l m = fromL (l ++ m) := by
  refine same_sets _ _ (merge_rises _ l m (Nat.le_refl _) (rises_pair hl) (rises_pair hm)) ?_ fun r => ?_
  · have := fromL_rises (l ++ m) (l ++ m).length (Nat.le_refl _)
    rw [List.take_length] at this
    exact rises_pair this
  · rw [mem_merge r _ l m (Nat.le_refl _), mem_fromL, List.mem_append]
theorem drop_one {l : List (Int × Int)} {i : Nat} (h : i < l.length) : l.drop i = (px l i, py l i) :: l.drop (i + 1) := by
  rw [pair_of h]; exact List.drop_eq_getElem_cons h
theorem merge_left {l m : List (Int × Int)} {i j : Nat} (hi : i < l.length) (hj : j < m.length) (h : lessB (px l i) (py l i) (px m j) (py m j) = true) :
    mergeL (l.drop i) (m.drop j) = (px l i, py l i) :: mergeL (l.drop (i + 1)) (m.drop j) := by
  rw [drop_one hi, drop_one hj, mergeL, if_pos h]
theorem merge_right {l m : List (Int × Int)} {i j : Nat} (hi : i < l.length) (hj : j < m.length) (h : lessB (px l i) (py l i) (px m j) (py m j) = false) (k : lessB (px m j) (py m j) (px l i) (py l i) = true) :
    mergeL (l.drop i) (m.drop j) = (px m j, py m j) :: mergeL (l.drop i) (m.drop (j + 1)) := by
  rw [drop_one hi, drop_one hj, mergeL, if_neg (by rw [h]; simp), if_pos k]
theorem merge_same {l m : List (Int × Int)} {i j : Nat} (hi : i < l.length) (hj : j < m.length) (h : lessB (px l i) (py l i) (px m j) (py m j) = false) (k : lessB (px m j) (py m j) (px l i) (py l i) = false) :
    mergeL (l.drop i) (m.drop j) = (px l i, py l i) :: mergeL (l.drop (i + 1)) (m.drop (j + 1)) := by
  rw [drop_one hi, drop_one hj, mergeL, if_neg (by rw [h]; simp), if_neg (by rw [k]; simp)]
end Go.Proofs.YtfhlgdngmdlakaaDoor
