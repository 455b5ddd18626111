/-
  There is just one bridge between two lower chains, and the walk outwards ends at it.
  Conditions: as each theorem states them.
-/
import Derived.Test.YtibmgoaildhclaaDoorBrMath
namespace Go.Proofs.YtibmgoaildhclaaDoor
open Go.RowKit
set_option linter.unusedVariables false
/-- A bridge, in plain words. -/
def Br (a b : List (Int × Int)) (i j : Nat) : Prop :=
  (∀ k, k < a.length → 0 ≤ sd (pt a i) (pt b j) (pt a k) ∧ (k < i → 0 < sd (pt a i) (pt b j) (pt a k))) ∧
  (∀ k, k < b.length → 0 ≤ sd (pt a i) (pt b j) (pt b k) ∧ (j < k → 0 < sd (pt a i) (pt b j) (pt b k)))
theorem side_iff {s : Int} {c : Prop} [Decidable c] : (!(decide (sg s < 0) || (decide (sg s = 0) && decide c))) = true ↔ (0 ≤ s ∧ (c → 0 < s)) := by
  rcases sg_cases s with ⟨h1, h2⟩ | ⟨h1, h2⟩ | ⟨h1, h2⟩ <;> rw [h1] <;> simp <;> (try omega)
  · constructor
    · exact fun h => ⟨by omega, fun hc => absurd hc h⟩
    · rintro ⟨_, h⟩ hc
      have := h hc
      omega
theorem br_iff {a b : List (Int × Int)} (h : twI a b = true) {i j : Nat} (hi : i < a.length) (hj : j < b.length) : brS a b i j = true ↔ Br a b i j := by
  obtain ⟨ga, gb⟩ := two_good h
  unfold brS Br
  rw [Bool.and_eq_true, aT_iff, aT_iff]
  refine and_congr ?_ ?_
  · refine forall_congr' fun k => forall_congr' fun hk => ?_
    unfold sdA
    rw [show crossW (pt a i).1 (pt a i).2 (pt b j).1 (pt b j).2 (px a k) (py a k) = sd (pt a i) (pt b j) (pt a k) from crossW_eq (gpt8 ga hi) (gpt8 gb hj) (gpt8 ga hk)]
    exact side_iff
  · refine forall_congr' fun k => forall_congr' fun hk => ?_
    unfold sdB
    rw [show crossW (pt a i).1 (pt a i).2 (pt b j).1 (pt b j).2 (px b k) (py b k) = sd (pt a i) (pt b j) (pt b k) from crossW_eq (gpt8 ga hi) (gpt8 gb hj) (gpt8 gb hk)]
    exact side_iff
theorem lex_pos {p q : Int × Int} (h : lessB p.1 p.2 q.1 q.2 = true) : Pos (0, -1) (vec p q) := (lt2_pos p q).1 h
/-- Sides by the ways to the last point, from the first point. -/
theorem sd_to (p q t : Int × Int) : sd p q t = cx (vec p t) (vec q t) := by unfold sd cx vec; grind
theorem sd_from (f p q : Int × Int) : sd f p q = cx (vec f p) (vec f q) := sd_cx f p q
theorem br_one {f g t s : Int × Int} (h1 : lessB f.1 f.2 g.1 g.2 = true) (h2 : lessB g.1 g.2 t.1 t.2 = true) (h3 : lessB g.1 g.2 s.1 s.2 = true) (a1 : 0 ≤ sd f t g) (a2 : 0 ≤ sd g s t) (a3 : 0 < sd g s f) : False := by
  have b1 : 0 < cx (vec f g) (vec g s) := by rw [← sd_step, ← sd_turn]; exact a3
  have b2 : 0 ≤ cx (vec g s) (vec g t) := by rw [← sd_cx]; exact a2
  have b3 := tri_l (lex_pos h1) (lex_pos h3) (lex_pos h2) b1 b2
  rw [← sd_step] at b3
  have : sd f t g = - sd f g t := by unfold sd; grind
  omega
theorem br_unique {a b : List (Int × Int)} (h : twI a b = true) {i j i' j' : Nat} (hi : i < a.length) (hj : j < b.length) (hi' : i' < a.length) (hj' : j' < b.length) (H : Br a b i j) (H' : Br a b i' j') : i = i' ∧ j = j' := by
  have h' := h
  unfold twI at h'
  simp only [Bool.and_eq_true] at h'
  have ra := goodL_rises (chI_good h'.1)
  have e1 : i = i' := by
    by_cases e : i < i'
    · exact (br_one (less_at ra e hi') (two_less h hi' hj) (two_less h hi' hj') (H.1 i' hi').1 (H'.2 j hj).1 ((H'.1 i hi).2 e)).elim
    · by_cases e2 : i' < i
      · exact (br_one (less_at ra e2 hi) (two_less h hi hj') (two_less h hi hj) (H'.1 i hi).1 (H.2 j' hj').1 ((H.1 i' hi').2 e2)).elim
      · omega
  subst e1
  refine ⟨rfl, ?_⟩
  have sw : ∀ p q r : Int × Int, sd p r q = - sd p q r := fun p q r => by unfold sd; grind
  by_cases e : j < j'
  · have x1 := (H.2 j' hj').2 e
    have x2 := (H'.2 j hj).1
    rw [sw] at x2
    omega
  · by_cases e2 : j' < j
    · have x1 := (H'.2 j hj).2 e2
      have x2 := (H.2 j' hj').1
      rw [sw] at x2
      omega
    · omega
/-- What holds on the walk outwards: what was gone by lies over the way. -/
def Wk (a b : List (Int × Int)) (i j : Nat) : Prop := (∀ k, i < k → k < a.length → 0 ≤ sd (pt a i) (pt b j) (pt a k)) ∧ (∀ k, k < j → 0 ≤ sd (pt a i) (pt b j) (pt b k))
theorem Wk.start {a b : List (Int × Int)} : Wk a b (a.length - 1) 0 := ⟨fun k h1 h2 => by omega, fun k h => absurd h (Nat.not_lt_zero _)⟩
theorem over_i {f g t p : Int × Int} (hf : lessB f.1 f.2 t.1 t.2 = true) (hg : lessB g.1 g.2 t.1 t.2 = true) (hp : lessB p.1 p.2 t.1 t.2 = true) (h1 : ¬ 0 < sd f g t) (h2 : 0 ≤ sd g t p) : 0 ≤ sd f t p := by
  have b1 : 0 ≤ cx (vec p t) (vec g t) := by rw [← sd_to, ← sd_turn p g t, ]; exact h2
  have b2 : 0 ≤ cx (vec g t) (vec f t) := by
    rw [← sd_to]
    have : sd g f t = - sd f g t := sd_swap f g t
    omega
  have b3 := tri (lex_pos hp) (lex_pos hg) (lex_pos hf) b1 b2
  rw [← sd_to, ← sd_turn p f t] at b3
  exact b3
theorem Wk.left {a b : List (Int × Int)} (h : twI a b = true) {i j : Nat} (hi : i + 1 < a.length) (hj : j < b.length) (H : Wk a b (i + 1) j) (ht : ¬ 0 < sd (pt a i) (pt a (i + 1)) (pt b j)) : Wk a b i j := by
  have h' := h
  unfold twI at h'
  simp only [Bool.and_eq_true] at h'
  have rb := goodL_rises (chI_good h'.2.1)
  refine ⟨fun k h1 h2 => ?_, fun k hk => ?_⟩
  · by_cases e : k = i + 1
    · subst e
      have : sd (pt a i) (pt b j) (pt a (i + 1)) = - sd (pt a i) (pt a (i + 1)) (pt b j) := by unfold sd; grind
      omega
    · exact over_i (two_less h (by omega) hj) (two_less h hi hj) (two_less h h2 hj) ht (H.1 k (by omega) h2)
  · exact over_i (two_less h (by omega) hj) (two_less h hi hj) (less_at rb hk hj) ht (H.2 k hk)
theorem over_j {f s t p : Int × Int} (hs : lessB f.1 f.2 s.1 s.2 = true) (ht : lessB f.1 f.2 t.1 t.2 = true) (hp : lessB f.1 f.2 p.1 p.2 = true) (h1 : ¬ 0 < sd f s t) (h2 : 0 ≤ sd f s p) : 0 ≤ sd f t p := by
  rw [sd_from] at h2 ⊢
  have b1 : 0 ≤ cx (vec f t) (vec f s) := by
    rw [cx_anti, ← sd_from]
    omega
  exact tri (lex_pos ht) (lex_pos hs) (lex_pos hp) b1 h2
theorem Wk.right {a b : List (Int × Int)} (h : twI a b = true) {i j : Nat} (hi : i < a.length) (hj : j + 1 < b.length) (H : Wk a b i j) (ht : ¬ 0 < sd (pt a i) (pt b j) (pt b (j + 1))) : Wk a b i (j + 1) := by
  have h' := h
  unfold twI at h'
  simp only [Bool.and_eq_true] at h'
  have ra := goodL_rises (chI_good h'.1)
  refine ⟨fun k h1 h2 => ?_, fun k hk => ?_⟩
  · exact over_j (two_less h hi (by omega)) (two_less h hi hj) (less_at ra h1 h2) ht (H.1 k h1 h2)
  · by_cases e : k = j
    · subst e
      have : sd (pt a i) (pt b (k + 1)) (pt b k) = - sd (pt a i) (pt b k) (pt b (k + 1)) := by unfold sd; grind
      omega
    · exact over_j (two_less h hi (by omega)) (two_less h hi hj) (two_less h hi (by omega)) ht (H.2 k (by omega))
theorem chI_turn {l : List (Int × Int)} (h : chI l = true) {k : Nat} (hk : k + 2 < l.length) : 0 < sd (pt l k) (pt l (k + 1)) (pt l (k + 2)) := by
  have hG : allG l := allG_of (goodL_good (chI_good h))
  unfold chI at h
  simp only [Bool.and_eq_true] at h
  have := aT_iff.1 h.2.2 k (by omega)
  unfold trT at this
  rw [tlB_eq (gpt8 hG (by omega)) (gpt8 hG (by omega)) (gpt8 hG hk)] at this
  exact of_decide_eq_true this
/-- Behind the last step to the left all further ones turn left, too. -/
theorem far_left {a : List (Int × Int)} {t : Int × Int} (ha : chI a = true) (hl : ∀ k, k < a.length → lessB (pt a k).1 (pt a k).2 t.1 t.2 = true) {i : Nat} (hi : i + 1 < a.length) (ht : 0 < sd (pt a i) (pt a (i + 1)) t) :
    ∀ m, m ≤ i → 0 < sd (pt a (i - m)) (pt a (i - m + 1)) t ∧ 0 < sd (pt a (i - m)) (pt a (i + 1)) t
  | 0, _ => ⟨ht, ht⟩
  | m + 1, hm => by
    obtain ⟨h1, h2⟩ := far_left ha hl hi ht m (by omega)
    have ra := goodL_rises (chI_good ha)
    obtain ⟨k, hk⟩ : ∃ k, i - (m + 1) = k := ⟨_, rfl⟩
    rw [hk]
    rw [show i - m = k + 1 by omega] at h1 h2
    have hturn := chI_turn ha (k := k) (by omega)
    have p1 := lex_pos (less_at ra (show k < k + 1 by omega) (by omega))
    have p2 := lex_pos (less_at ra (show k + 1 < k + 2 by omega) (by omega))
    have p3 := lex_pos (hl (k + 1) (by omega))
    have x1 : 0 < sd (pt a k) (pt a (k + 1)) t := by
      have h1' : 0 < sd (pt a (k + 1)) (pt a (k + 2)) t := h1
      rw [sd_step] at hturn ⊢
      rw [sd_cx] at h1'
      exact tri_l p1 p2 p3 hturn (by omega)
    refine ⟨x1, ?_⟩
    rw [sd_to] at x1 h2 ⊢
    exact tri_l (lex_pos (hl k (by omega))) p3 (lex_pos (hl (i + 1) hi)) x1 (by omega)
theorem far_right {b : List (Int × Int)} {f : Int × Int} (hb : chI b = true) (hl : ∀ k, k < b.length → lessB f.1 f.2 (pt b k).1 (pt b k).2 = true) {j : Nat} (ht : 0 < sd f (pt b j) (pt b (j + 1))) :
    ∀ m, j + m + 1 < b.length → 0 < sd f (pt b (j + m)) (pt b (j + m + 1)) ∧ 0 < sd f (pt b j) (pt b (j + m + 1))
  | 0, _ => ⟨ht, ht⟩
  | m + 1, hm => by
    obtain ⟨h1, h2⟩ := far_right hb hl ht m (by omega)
    have rb := goodL_rises (chI_good hb)
    obtain ⟨k, hk⟩ : ∃ k, j + m = k := ⟨_, rfl⟩
    rw [hk] at h1 h2
    rw [show j + (m + 1) = k + 1 by omega] at hm ⊢
    have hturn := chI_turn hb (k := k) (by omega)
    have p1 := lex_pos (less_at rb (show k < k + 1 by omega) (by omega))
    have p2 := lex_pos (less_at rb (show k + 1 < k + 2 by omega) (by omega))
    have p3 := lex_pos (hl k (by omega))
    have x1 : 0 < sd f (pt b (k + 1)) (pt b (k + 1 + 1)) := by
      rw [sd_step] at hturn h1 ⊢
      have y := tri_l p3 p1 p2 h1 (by omega)
      have e : cx (vec f (pt b (k + 1))) (vec (pt b (k + 1)) (pt b (k + 2))) = cx (vec f (pt b k)) (vec (pt b (k + 1)) (pt b (k + 2))) + cx (vec (pt b k) (pt b (k + 1))) (vec (pt b (k + 1)) (pt b (k + 2))) := by unfold cx vec; grind
      rw [show k + 1 + 1 = k + 2 by omega, e]
      omega
    refine ⟨x1, ?_⟩
    rw [sd_from] at x1 h2 ⊢
    exact tri_l (lex_pos (hl j (by omega))) (lex_pos (hl (k + 1) (by omega))) (lex_pos (hl (k + 1 + 1) hm)) h2 (by omega)
/-- The end of the walk is the bridge. -/
theorem Wk.stop {a b : List (Int × Int)} (h : twI a b = true) {i j : Nat} (hi : i < a.length) (hj : j < b.length) (H : Wk a b i j) (hl : i = 0 ∨ 0 < sd (pt a (i - 1)) (pt a i) (pt b j)) (hr : ¬ j + 1 < b.length ∨ 0 < sd (pt a i) (pt b j) (pt b (j + 1))) : Br a b i j := by
  have h' := h
  unfold twI at h'
  simp only [Bool.and_eq_true] at h'
  refine ⟨fun k hk => ?_, fun k hk => ?_⟩
  · by_cases e : k < i
    · have : 0 < sd (pt a i) (pt b j) (pt a k) := by
        rcases hl with rfl | hl
        · omega
        · obtain ⟨n, rfl⟩ : ∃ n, i = n + 1 := ⟨i - 1, by omega⟩
          have := (far_left (t := pt b j) h'.1 (fun k hk => two_less h hk hj) hi hl (n - k) (by omega)).2
          rw [show n - (n - k) = k by omega] at this
          rw [← sd_turn, ← sd_turn, sd_turn, sd_turn]
          rw [sd_turn (pt a k) (pt a (n + 1)) (pt b j)]
          exact this
      exact ⟨by omega, fun _ => this⟩
    · refine ⟨?_, fun hc => absurd hc e⟩
      by_cases e2 : k = i
      · subst e2; rw [sd_start]; omega
      · exact H.1 k (by omega) hk
  · by_cases e : j < k
    · have : 0 < sd (pt a i) (pt b j) (pt b k) := by
        rcases hr with hr | hr
        · omega
        · have := (far_right (f := pt a i) h'.2.1 (fun k hk => two_less h hi hk) hr (k - j - 1) (by omega)).2
          rwa [show j + (k - j - 1) + 1 = k by omega] at this
      exact ⟨by omega, fun _ => this⟩
    · refine ⟨?_, fun hc => absurd hc e⟩
      by_cases e2 : k = j
      · subst e2; rw [sd_end]; omega
      · exact H.2 k (by omega)
end Go.Proofs.YtibmgoaildhclaaDoor
