/-
  Two lower chains laid together by their bridge are the lower chain of both (plain).
  Conditions: as each theorem states them.
-/
import Derived.Test.YtibmgoaildhclaaDoorBr7m
namespace Go.Proofs.YtibmgoaildhclaaDoor
open Go.RowKit Go.Shelf
set_option linter.unusedVariables false
theorem conv_beyond {d : Int × Int} {l c : List (Int × Int)} (h : Conv d l c) (hA : Ahead d l) {i : Nat} (hi : i + 1 < c.length) {r : Int × Int} (hr : r ∈ l) (h0 : sd (pt c i) (pt c (i + 1)) r = 0) (hb : Pos d (vec (pt c (i + 1)) r)) : False := by
  by_cases h2 : i + 2 < c.length
  · have T := h.turn i h2
    have L : 0 ≤ sd (pt c (i + 1)) (pt c (i + 2)) r := h.left (i + 1) h2 r hr
    have P := h.ahead i (i + 1) (by omega) hi
    rw [sd_step] at T h0
    have S := same_ray P hb h0
    have R := ray (vec (pt c i) (pt c (i + 1))) (vec (pt c (i + 1)) (pt c (i + 2))) (vec (pt c (i + 1)) r) h0
    rw [sd_cx] at L
    rw [cx_anti] at T
    have D := dd_pos P.ne
    have m1 := Int.mul_nonneg L (show 0 ≤ dt (vec (pt c i) (pt c (i + 1))) (vec (pt c i) (pt c (i + 1))) by omega)
    have m2 := Int.mul_pos S T
    rw [Int.mul_neg, ← R] at m2
    omega
  · obtain ⟨k, hk, rfl⟩ := mem_pt hr
    have e : pt c (i + 1) = pt l (l.length - 1) := by rw [← h.last, show c.length - 1 = i + 1 by omega]
    rw [e] at hb
    by_cases hk2 : k = l.length - 1
    · rw [hk2] at hb
      exact hb.not hb
    · exact hb.not (hA k (l.length - 1) (by omega) (by omega))
/-- Two such chains of one list are one. -/
theorem conv_at {d : Int × Int} {l c c' : List (Int × Int)} (h : Conv d l c) (h' : Conv d l c') (hA : Ahead d l) : ∀ i, i < c.length → i < c'.length → pt c i = pt c' i
  | 0, _, _ => by rw [h.head, h'.head]
  | i + 1, h1, h2 => by
    have ih := conv_at h h' hA i (by omega) (by omega)
    apply Classical.byContradiction
    intro hne
    have m1 := h.sub _ (pt_mem h1)
    have m2 := h'.sub _ (pt_mem h2)
    have l1 := h.left i h1 _ m2
    have l2 := h'.left i h2 _ m1
    rw [← ih] at l2
    have e : sd (pt c i) (pt c' (i + 1)) (pt c (i + 1)) = - sd (pt c i) (pt c (i + 1)) (pt c' (i + 1)) := by unfold sd; grind
    have z : sd (pt c i) (pt c (i + 1)) (pt c' (i + 1)) = 0 := by omega
    obtain ⟨k, hk, e1⟩ := mem_pt m1
    obtain ⟨k', hk', e2⟩ := mem_pt m2
    rcases Nat.lt_trichotomy k k' with hlt | heq | hlt
    · have := hA k k' hlt hk'
      rw [e1, e2] at this
      exact conv_beyond h hA h1 m2 z this
    · exact hne (by rw [← e1, ← e2, heq])
    · have := hA k' k hlt hk
      rw [e1, e2] at this
      exact conv_beyond h' hA h2 m1 (by rw [← ih]; omega) this
theorem conv_len {d : Int × Int} {l c c' : List (Int × Int)} (h : Conv d l c) (h' : Conv d l c') (hA : Ahead d l) : c'.length ≤ c.length := by
  apply Classical.byContradiction
  intro hh
  have h1 := h.some
  have e := conv_at h h' hA (c.length - 1) (by omega) (by omega)
  have a := h'.ahead (c.length - 1) (c'.length - 1) (by omega) (by omega)
  rw [← e, h.last, h'.last] at a
  exact a.not a
theorem conv_one {d : Int × Int} {l c c' : List (Int × Int)} (h : Conv d l c) (h' : Conv d l c') (hA : Ahead d l) : c = c' := by
  have hl : c.length = c'.length := Nat.le_antisymm (conv_len h' h hA) (conv_len h h' hA)
  refine List.ext_getElem hl fun i h1 h2 => ?_
  have := conv_at h h' hA i h1 h2
  rwa [pt_get h1, pt_get h2] at this
theorem pos_less {p q : Int × Int} (h : lessB p.1 p.2 q.1 q.2 = true) : Pos (0, -1) (vec p q) := by
  unfold lessB at h
  have k := of_decide_eq_true h
  unfold Pos cx dt vec
  simp
  omega
theorem pos_trans {d p q r : Int × Int} (h : Pos d (vec p q)) (k : Pos d (vec q r)) : Pos d (vec p r) := by
  have e1 : cx d (vec p r) = cx d (vec p q) + cx d (vec q r) := by unfold cx vec; grind
  have e2 : dt d (vec p r) = dt d (vec p q) + dt d (vec q r) := by unfold dt vec; grind
  unfold Pos at *
  omega
/-- What is left of a way and ahead of it is left of all earlier ones. -/
theorem back_left {d : Int × Int} {c : List (Int × Int)} (hA : Ahead d c) (hT : ∀ i, i + 2 < c.length → 0 < sd (pt c i) (pt c (i + 1)) (pt c (i + 2))) {q : Int × Int} : ∀ n t, t + n + 1 < c.length → 0 ≤ sd (pt c (t + n)) (pt c (t + n + 1)) q → Pos d (vec (pt c (t + n)) q) → 0 ≤ sd (pt c t) (pt c (t + 1)) q
  | 0, _, _, h, _ => h
  | n + 1, t, hl, h, hq => by
    refine back_left hA hT n t (by omega) ?_ ?_
    · have T := hT (t + n) (by omega)
      rw [sd_step] at T
      rw [sd_step]
      rw [sd_cx] at h
      exact Int.le_of_lt (tri_l (hA (t + n) (t + n + 1) (by omega) (by omega)) (hA (t + n + 1) (t + n + 2) (by omega) (by omega)) hq T h)
    · exact pos_trans (hA (t + n) (t + n + 1) (by omega) (by omega)) hq
/-- What is left of a way and behind it is left of all later ones. -/
theorem forth_left {d : Int × Int} {c : List (Int × Int)} (hA : Ahead d c) (hT : ∀ i, i + 2 < c.length → 0 < sd (pt c i) (pt c (i + 1)) (pt c (i + 2))) {q : Int × Int} : ∀ n t, t + n + 1 < c.length → 0 ≤ sd (pt c t) (pt c (t + 1)) q → Pos d (vec q (pt c (t + 1))) → 0 ≤ sd (pt c (t + n)) (pt c (t + n + 1)) q
  | 0, _, _, h, _ => h
  | n + 1, t, hl, h, hq => by
    have T := hT t (by omega)
    rw [sd_step] at T
    have key : 0 ≤ sd (pt c (t + 1)) (pt c (t + 2)) q := by
      have e1 : sd (pt c t) (pt c (t + 1)) q = cx (vec q (pt c (t + 1))) (vec (pt c t) (pt c (t + 1))) + 0 := by unfold sd cx vec; grind
      have e2 : sd (pt c (t + 1)) (pt c (t + 2)) q = cx (vec q (pt c (t + 1))) (vec (pt c (t + 1)) (pt c (t + 2))) := by unfold sd cx vec; grind
      rw [e2]
      exact Int.le_of_lt (tri_r hq (hA t (t + 1) (by omega) (by omega)) (hA (t + 1) (t + 2) (by omega) (by omega)) (by omega) T)
    have := forth_left hA hT (q := q) n (t + 1) (by omega) key (pos_trans hq (hA (t + 1) (t + 2) (by omega) (by omega)))
    rwa [show t + 1 + n = t + (n + 1) by omega] at this
/-- A chain that turns left has its points to the left of all its ways. -/
theorem self_left {d : Int × Int} {c : List (Int × Int)} (hA : Ahead d c) (hT : ∀ i, i + 2 < c.length → 0 < sd (pt c i) (pt c (i + 1)) (pt c (i + 2))) {t k : Nat} (ht : t + 1 < c.length) (hk : k < c.length) : 0 ≤ sd (pt c t) (pt c (t + 1)) (pt c k) := by
  by_cases h1 : k ≤ t
  · have := forth_left hA hT (q := pt c k) (t - k) k (by omega) (by rw [sd_start]; exact Int.le_refl _) (hA k (k + 1) (by omega) (by omega))
    rwa [show k + (t - k) = t by omega] at this
  · have := back_left hA hT (q := pt c k) (k - 1 - t) t (by omega) (by rw [show t + (k - 1 - t) + 1 = k by omega, sd_end]; exact Int.le_refl _) (hA _ _ (by omega) hk)
    exact this
theorem chI_turn8 {l : List (Int × Int)} (h : chI l = true) (hG : allG l) : ∀ i, i + 2 < l.length → 0 < sd (pt l i) (pt l (i + 1)) (pt l (i + 2)) := fun i hi => by
  unfold chI at h
  simp only [Bool.and_eq_true] at h
  have := (aT_iff.1 h.2.2) i (by omega)
  unfold trT at this
  rw [tlB_eq (hG _ (pt_mem (by omega))) (hG _ (pt_mem (by omega))) (hG _ (pt_mem hi))] at this
  exact of_decide_eq_true this
theorem mg_size {a b : List (Int × Int)} {i j : Nat} (hi : i < a.length) (hj : j < b.length) : (mgL a b i j).length = i + 1 + (b.length - j) := by
  unfold mgL
  rw [List.length_append, List.length_take, List.length_drop]
  omega
theorem mg_lo {a b : List (Int × Int)} {i j t : Nat} (hi : i < a.length) (hj : j < b.length) (ht : t ≤ i) : pt (mgL a b i j) t = pt a t := by
  have hs := mg_size hi hj
  rw [pt_get (show t < (mgL a b i j).length by omega), pt_get (show t < a.length by omega)]
  unfold mgL
  rw [List.getElem_append_left (by rw [List.length_take]; omega), List.getElem_take]
theorem mg_hi {a b : List (Int × Int)} {i j t : Nat} (hi : i < a.length) (ht : j + t < b.length) : pt (mgL a b i j) (i + 1 + t) = pt b (j + t) := by
  have hs := mg_size (a := a) (b := b) (i := i) (j := j) hi (by omega)
  rw [pt_get (show i + 1 + t < (mgL a b i j).length by omega), pt_get ht]
  unfold mgL
  rw [List.getElem_append_right (by rw [List.length_take]; omega), List.getElem_drop]
  congr 1
  rw [List.length_take]
  omega
theorem pt_lo {a b : List (Int × Int)} {t : Nat} (ht : t < a.length) : pt (a ++ b) t = pt a t := by
  rw [pt_get (show t < (a ++ b).length by rw [List.length_append]; omega), pt_get ht, List.getElem_append_left ht]
theorem pt_hi {a b : List (Int × Int)} {t : Nat} (ht : t < b.length) : pt (a ++ b) (a.length + t) = pt b t := by
  rw [pt_get (show a.length + t < (a ++ b).length by rw [List.length_append]; omega), pt_get ht, List.getElem_append_right (by omega)]
  congr 1
  omega
/-- The chain that the bridge makes is the lower one of all points. -/
theorem join_conv {a b : List (Int × Int)} (h : twI a b = true) {i j : Nat} (hi : i < a.length) (hj : j < b.length) (H : Br a b i j) : Conv (0, -1) (a ++ b) (mgL a b i j) := by
  obtain ⟨ga, gb⟩ := two_good h
  have h' := h
  unfold twI at h'
  simp only [Bool.and_eq_true] at h'
  have ra := goodL_rises (chI_good h'.1)
  have rb := goodL_rises (chI_good h'.2.1)
  have Aa := ahead_rises ra
  have Ab := ahead_rises rb
  have Ta := chI_turn8 h'.1 ga
  have Tb := chI_turn8 h'.2.1 gb
  have hs := mg_size hi hj
  have ab : ∀ s t, s < a.length → t < b.length → Pos (0, -1) (vec (pt a s) (pt b t)) := fun s t h1 h2 => pos_less (two_less h h1 h2)
  have hi' : ∀ t, i < t → t < (mgL a b i j).length → pt (mgL a b i j) t = pt b (j + (t - i - 1)) ∧ j + (t - i - 1) < b.length := fun t h1 h2 => by
    have hx : j + (t - i - 1) < b.length := by omega
    have := mg_hi (a := a) (b := b) (i := i) (j := j) (t := t - i - 1) hi hx
    rw [show i + 1 + (t - i - 1) = t by omega] at this
    exact ⟨this, hx⟩
  have hA : Ahead (0, -1) (mgL a b i j) := fun s t hst ht => by
    by_cases h1 : t ≤ i
    · rw [mg_lo hi hj h1, mg_lo hi hj (by omega)]
      exact Aa s t hst (by omega)
    · obtain ⟨e1, l1⟩ := hi' t (by omega) ht
      rw [e1]
      by_cases h2 : s ≤ i
      · rw [mg_lo hi hj h2]
        exact ab s _ (by omega) l1
      · obtain ⟨e2, l2⟩ := hi' s (by omega) (by omega)
        rw [e2]
        exact Ab _ _ (by omega) l1
  have hT : ∀ t, t + 2 < (mgL a b i j).length → 0 < sd (pt (mgL a b i j) t) (pt (mgL a b i j) (t + 1)) (pt (mgL a b i j) (t + 2)) := fun t ht => by
    by_cases h1 : t + 2 ≤ i
    · rw [mg_lo hi hj h1, mg_lo hi hj (show t + 1 ≤ i by omega), mg_lo hi hj (show t ≤ i by omega)]
      exact Ta t (by omega)
    · by_cases h2 : t + 1 ≤ i
      · have e : t + 1 = i := by omega
        obtain ⟨e1, l1⟩ := hi' (t + 2) (by omega) ht
        rw [e1, mg_lo hi hj h2, mg_lo hi hj (show t ≤ i by omega), show j + (t + 2 - i - 1) = j by omega, e]
        have := (H.1 t (by omega)).2 (by omega)
        rw [← sd_turn]
        exact this
      · by_cases h3 : t ≤ i
        · have e : t = i := by omega
          obtain ⟨e1, l1⟩ := hi' (t + 2) (by omega) ht
          obtain ⟨e2, l2⟩ := hi' (t + 1) (by omega) (by omega)
          rw [e1, e2, mg_lo hi hj h3, show j + (t + 2 - i - 1) = j + 1 by omega, show j + (t + 1 - i - 1) = j by omega, e]
          exact (H.2 (j + 1) (by omega)).2 (by omega)
        · obtain ⟨e1, l1⟩ := hi' (t + 2) (by omega) ht
          obtain ⟨e2, l2⟩ := hi' (t + 1) (by omega) (by omega)
          obtain ⟨e3, l3⟩ := hi' t (by omega) (by omega)
          rw [e1, e2, e3, show j + (t + 2 - i - 1) = j + (t - i - 1) + 2 by omega, show j + (t + 1 - i - 1) = j + (t - i - 1) + 1 by omega]
          exact Tb _ (by omega)
  have hb1 : pt (mgL a b i j) (i + 1) = pt b j := by
    have := mg_hi (a := a) (b := b) (i := i) (j := j) (t := 0) hi hj
    exact this
  have hb0 : pt (mgL a b i j) i = pt a i := mg_lo hi hj (Nat.le_refl _)
  refine ⟨by omega, hA, fun q hq => ?_, hT, fun t ht q hq => ?_, ?_, ?_⟩
  · unfold mgL at hq
    rcases List.mem_append.1 hq with h1 | h1
    · exact List.mem_append_left _ (List.mem_of_mem_take h1)
    · exact List.mem_append_right _ (List.mem_of_mem_drop h1)
  · rcases List.mem_append.1 hq with h1 | h1
    · obtain ⟨k, hk, rfl⟩ := mem_pt h1
      by_cases h2 : t + 1 ≤ i
      · rw [mg_lo hi hj h2, mg_lo hi hj (show t ≤ i by omega)]
        exact self_left Aa Ta (by omega) hk
      · have := forth_left hA hT (q := pt a k) (t - i) i (by omega) (by rw [hb0, hb1]; exact (H.1 k hk).1) (by rw [hb1]; exact ab k j hk hj)
        rwa [show i + (t - i) = t by omega] at this
    · obtain ⟨k, hk, rfl⟩ := mem_pt h1
      by_cases h2 : t ≤ i
      · have := back_left hA hT (q := pt b k) (i - t) t (by omega) (by rw [show t + (i - t) = i by omega, hb0, hb1]; exact (H.2 k hk).1) (by rw [show t + (i - t) = i by omega, hb0]; exact ab i k hi hk)
        exact this
      · obtain ⟨e1, l1⟩ := hi' (t + 1) (by omega) ht
        obtain ⟨e2, l2⟩ := hi' t (by omega) (by omega)
        rw [e1, e2, show j + (t + 1 - i - 1) = j + (t - i - 1) + 1 by omega]
        exact self_left Ab Tb (by omega) hk
  · rw [mg_lo hi hj (Nat.zero_le _), pt_lo (by omega)]
  · obtain ⟨e1, l1⟩ := hi' ((mgL a b i j).length - 1) (by omega) (by omega)
    have e2 := pt_hi (a := a) (b := b) (t := b.length - 1) (by omega)
    rw [e1, List.length_append, show a.length + b.length - 1 = a.length + (b.length - 1) by omega, e2]
    congr 1
    omega
/-- Both lists, one behind the other, are a rising list. -/
theorem join_rises {a b : List (Int × Int)} (h : twI a b = true) (hl : a.length + b.length ≤ 60) : goodL (a ++ b) = true := by
  obtain ⟨ga, gb⟩ := two_good h
  have h' := h
  unfold twI at h'
  simp only [Bool.and_eq_true] at h'
  have ra := goodL_rises (chI_good h'.1)
  have rb := goodL_rises (chI_good h'.2.1)
  have hG : GoodTo (a ++ b) (a ++ b).length := fun k hk => by
    have : gp (pt (a ++ b) k) := by
      rcases List.mem_append.1 (pt_mem hk) with h1 | h1
      · exact ga _ h1
      · exact gb _ h1
    exact this
  have hR : RisesTo (a ++ b) ((a ++ b).length - 1) := fun k hk => by
    have key : lessB (pt (a ++ b) k).1 (pt (a ++ b) k).2 (pt (a ++ b) (k + 1)).1 (pt (a ++ b) (k + 1)).2 = true := by
      rw [List.length_append] at hk
      by_cases h1 : k + 1 < a.length
      · rw [pt_lo h1, pt_lo (show k < a.length by omega)]
        exact less_at ra (by omega) h1
      · by_cases h2 : k < a.length
        · have e2 := pt_hi (a := a) (b := b) (t := k + 1 - a.length) (by omega)
          rw [show a.length + (k + 1 - a.length) = k + 1 by omega] at e2
          rw [pt_lo h2, e2]
          exact two_less h h2 (by omega)
        · have e1 := pt_hi (a := a) (b := b) (t := k - a.length) (by omega)
          have e2 := pt_hi (a := a) (b := b) (t := k + 1 - a.length) (by omega)
          rw [show a.length + (k + 1 - a.length) = k + 1 by omega] at e2
          rw [show a.length + (k - a.length) = k by omega] at e1
          rw [e1, e2]
          exact less_at rb (by omega) (by omega)
    exact key
  rw [goodL_len hG hR]
  exact decide_eq_true (by rw [List.length_append]; exact hl)
/-- The merged chain is the lower chain of both lists together. -/
theorem join_lower {a b : List (Int × Int)} (h : twI a b = true) (hl : a.length + b.length ≤ 60) {i j : Nat} (hi : i < a.length) (hj : j < b.length) (H : Br a b i j) : mgL a b i j = chainB tlB (a ++ b) := by
  have hG := join_rises h hl
  exact conv_one (join_conv h hi hj H) (lower_conv hG (by rw [List.length_append]; omega)) (ahead_rises (goodL_rises hG))
end Go.Proofs.YtibmgoaildhclaaDoor
