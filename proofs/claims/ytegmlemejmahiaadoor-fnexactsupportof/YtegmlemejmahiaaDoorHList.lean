/-
  Chains of points of which each three that follow one another turn left, and hulls of them, as lists (no walk in it).
  Conditions: as each theorem states them.
-/
import Derived.Test.YtegmlemejmahiaaDoorHOwn
namespace Go.Proofs.YtegmlemejmahiaaDoor
set_option linter.unusedVariables false
/-- The point at a place. -/
def pt (l : List (Int × Int)) (i : Nat) : Int × Int := (px l i, py l i)
theorem pt_get {l : List (Int × Int)} {i : Nat} (h : i < l.length) : pt l i = l[i] := by simp [pt, px, py, h]
theorem pt_mem {l : List (Int × Int)} {i : Nat} (h : i < l.length) : pt l i ∈ l := by rw [pt_get h]; exact List.getElem_mem h
/-- How many of the first n points stay when p comes. -/
def keepB (t : Int × Int → Int × Int → Int × Int → Bool) (l : List (Int × Int)) (p : Int × Int) : Nat → Nat
  | 0 => 0
  | 1 => 1
  | n + 2 => if t (pt l n) (pt l (n + 1)) p then n + 2 else keepB t l p (n + 1)
def stepB (t : Int × Int → Int × Int → Int × Int → Bool) (l : List (Int × Int)) (p : Int × Int) : List (Int × Int) := l.take (keepB t l p l.length) ++ [p]
def chainB (t : Int × Int → Int × Int → Int × Int → Bool) (l : List (Int × Int)) : List (Int × Int) := l.foldl (stepB t) []
def hullB (t : Int × Int → Int × Int → Int × Int → Bool) (s : List (Int × Int)) : List (Int × Int) := if s.length < 2 then s else (chainB t s).dropLast ++ (chainB t s.reverse).dropLast
section
variable {t t' : Int × Int → Int × Int → Int × Int → Bool} {l : List (Int × Int)} {p : Int × Int}
theorem keepB_le : ∀ n, keepB t l p n ≤ n
  | 0 => Nat.le_refl _
  | 1 => Nat.le_refl _
  | n + 2 => by
    unfold keepB
    split
    · exact Nat.le_refl _
    · have := keepB_le (n + 1)
      omega
theorem keepB_pos : ∀ n, 0 < n → 0 < keepB t l p n
  | 0, h => h
  | 1, h => h
  | n + 2, h => by
    unfold keepB
    split
    · exact h
    · exact keepB_pos (n + 1) (by omega)
theorem keepB_stop {n : Nat} (h : t (pt l n) (pt l (n + 1)) p = true) : keepB t l p (n + 2) = n + 2 := by
  rw [keepB, if_pos h]
theorem keepB_go {n : Nat} (h : t (pt l n) (pt l (n + 1)) p = false) : keepB t l p (n + 2) = keepB t l p (n + 1) := by
  rw [keepB, if_neg (by simp [h])]
theorem keepB_one : ∀ n, n ≤ 1 → keepB t l p n = n
  | 0, _ => rfl
  | 1, _ => rfl
theorem stepB_len (l : List (Int × Int)) (p : Int × Int) : (stepB t l p).length = keepB t l p l.length + 1 := by
  have := keepB_le (t := t) (l := l) (p := p) l.length
  unfold stepB
  rw [List.length_append, List.length_take]
  simp
  omega
theorem chainB_snoc (l : List (Int × Int)) (p : Int × Int) : chainB t (l ++ [p]) = stepB t (chainB t l) p := by simp [chainB]
theorem foldB_len (l : List (Int × Int)) : ∀ acc : List (Int × Int), (l.foldl (stepB t) acc).length ≤ acc.length + l.length := by
  induction l with
  | nil => intro acc; simp
  | cons x l ih =>
    intro acc
    have h := ih (stepB t acc x)
    have h2 := keepB_le (t := t) (l := acc) (p := x) acc.length
    rw [stepB_len] at h
    simp only [List.foldl_cons, List.length_cons]
    omega
theorem chainB_len (l : List (Int × Int)) : (chainB t l).length ≤ l.length := by
  have := foldB_len (t := t) l []
  simpa [chainB] using this
theorem stepB_mem {q : Int × Int} (h : q ∈ stepB t l p) : q ∈ l ∨ q = p := by
  unfold stepB at h
  rcases List.mem_append.1 h with h | h
  · exact .inl (List.mem_of_mem_take h)
  · exact .inr (by simpa using h)
theorem foldB_mem (l : List (Int × Int)) : ∀ (acc : List (Int × Int)) (q : Int × Int), q ∈ l.foldl (stepB t) acc → q ∈ acc ∨ q ∈ l := by
  induction l with
  | nil => intro acc q h; exact .inl h
  | cons x l ih =>
    intro acc q h
    rcases ih _ _ h with h | h
    · rcases stepB_mem h with h | h
      · exact .inl h
      · exact .inr (by simp [h])
    · exact .inr (by simp [h])
theorem chainB_mem {q : Int × Int} (h : q ∈ chainB t l) : q ∈ l := by
  rcases foldB_mem l [] q h with h | h
  · cases h
  · exact h
theorem keepB_congr (h : ∀ a ∈ l, ∀ b ∈ l, t a b p = t' a b p) : ∀ n, n ≤ l.length → keepB t l p n = keepB t' l p n
  | 0, _ => rfl
  | 1, _ => rfl
  | n + 2, hn => by
    unfold keepB
    rw [h _ (pt_mem (i := n) (by omega)) _ (pt_mem (i := n + 1) (by omega)), keepB_congr h (n + 1) (by omega)]
theorem foldB_congr (l : List (Int × Int)) : ∀ (acc : List (Int × Int)), (∀ a b c, (a ∈ acc ∨ a ∈ l) → (b ∈ acc ∨ b ∈ l) → (c ∈ acc ∨ c ∈ l) → t a b c = t' a b c) → l.foldl (stepB t) acc = l.foldl (stepB t') acc := by
  induction l with
  | nil => intro acc _; rfl
  | cons x l ih =>
    intro acc h
    have e : stepB t acc x = stepB t' acc x := by
      unfold stepB
      rw [keepB_congr (fun a ha b hb => h a b x (.inl ha) (.inl hb) (.inr (by simp))) _ (Nat.le_refl _)]
    rw [List.foldl_cons, List.foldl_cons, ← e]
    have hm : ∀ a, (a ∈ stepB t acc x ∨ a ∈ l) → (a ∈ acc ∨ a ∈ x :: l) := by
      intro a ha
      rcases ha with ha | ha
      · rcases stepB_mem ha with ha | ha
        · exact .inl ha
        · exact .inr (by simp [ha])
      · exact .inr (by simp [ha])
    exact ih _ fun a b c ha hb hc => h a b c (hm a ha) (hm b hb) (hm c hc)
theorem chainB_congr (h : ∀ a ∈ l, ∀ b ∈ l, ∀ c ∈ l, t a b c = t' a b c) : chainB t l = chainB t' l :=
  foldB_congr l [] fun a b c ha hb hc => by
    have f : ∀ x, (x ∈ ([] : List (Int × Int)) ∨ x ∈ l) → x ∈ l := fun x hx => hx.resolve_left (by simp)
    exact h a (f a ha) b (f b hb) c (f c hc)
theorem hullB_congr (h : ∀ a ∈ l, ∀ b ∈ l, ∀ c ∈ l, t a b c = t' a b c) : hullB t l = hullB t' l := by
  unfold hullB
  rw [chainB_congr h, chainB_congr (l := l.reverse) (fun a ha b hb c hc => h a (by simpa using ha) b (by simpa using hb) c (by simpa using hc))]
theorem chainB_ne {l : List (Int × Int)} (h : l ≠ []) : chainB t l ≠ [] := by
  obtain ⟨l', p, rfl⟩ : ∃ l' p, l = l' ++ [p] := ⟨l.dropLast, l.getLast h, (List.dropLast_concat_getLast h).symm⟩
  rw [chainB_snoc]
  unfold stepB
  simp
theorem chainB_two {l : List (Int × Int)} (h : 2 ≤ l.length) : 2 ≤ (chainB t l).length := by
  have hne : l ≠ [] := by intro e; subst e; simp at h
  obtain ⟨l', p, rfl⟩ : ∃ l' p, l = l' ++ [p] := ⟨l.dropLast, l.getLast hne, (List.dropLast_concat_getLast hne).symm⟩
  have hl' : l' ≠ [] := by intro e; subst e; simp at h
  rw [chainB_snoc, stepB_len]
  have h1 : 0 < (chainB t l').length := List.length_pos_iff.2 (chainB_ne hl')
  have := keepB_pos (t := t) (l := chainB t l') (p := p) _ h1
  omega
theorem hullB_len (l : List (Int × Int)) : (hullB t l).length ≤ 2 * l.length := by
  unfold hullB
  split
  · omega
  · have h1 := chainB_len (t := t) l
    have h2 := chainB_len (t := t) l.reverse
    simp at h2 ⊢
    omega
theorem hullB_mem {q : Int × Int} (h : q ∈ hullB t l) : q ∈ l := by
  unfold hullB at h
  split at h
  · exact h
  · rcases List.mem_append.1 h with h | h
    · exact chainB_mem (List.dropLast_subset _ h)
    · have := chainB_mem (List.dropLast_subset _ h)
      simpa using this
end
end Go.Proofs.YtegmlemejmahiaaDoor
