/-
  The hull of a set is the ring that is gone round from corner to corner; its corners are just the points with all others within a half plane; so the hull of fewer points, all corners among them, is the same (no walk in it).
  Conditions: as each theorem states them.
-/
import Derived.Test.YtipiamhnngmjmaaDoorHWrapP
import Derived.Test.YtipiamhnngmjmaaDoorHConv
namespace Go.Proofs.YtipiamhnngmjmaaDoor
set_option linter.unusedVariables false
set_option maxRecDepth 8000
/-- Strictly rising. -/
def Rise (s : List (Int × Int)) : Prop := RisesTo s (s.length - 1)
theorem dom_unique {s : List (Int × Int)} {a b b' : Int × Int} (hE : Ext s a) (hb : b ∈ s) (hb' : b' ∈ s) (h1 : b ≠ a) (h2 : b' ≠ a) (d1 : Dom a b b') (d2 : Dom a b' b) : b = b' := by
  obtain ⟨d, hd⟩ := hE
  have e : sd a b' b = - sd a b b' := by unfold sd; grind
  have z1 : sd a b b' = 0 := by have := d1.1; have := d2.1; omega
  have z2 : sd a b' b = 0 := by omega
  have f1 := d1.2 z1
  have f2 := d2.2 z2
  have s1 := same_ray (hd b hb h1) (hd b' hb' h2) z1
  have g1 : dt (vec a b) (vec b b') = dt (vec a b) (vec a b') - dt (vec a b) (vec a b) := dt_vec _ _ _ _
  have g2 : dt (vec a b') (vec b' b) = dt (vec a b) (vec a b') - dt (vec a b') (vec a b') := by unfold dt vec; grind
  have hl := lagr (vec a b) (vec a b')
  have zc : cx (vec a b) (vec a b') = 0 := z1
  rw [zc] at hl
  have hA := dd_nn (vec a b)
  have hB := dd_nn (vec a b')
  have key : dt (vec b b') (vec b b') = dt (vec a b) (vec a b) - 2 * dt (vec a b) (vec a b') + dt (vec a b') (vec a b') := by unfold dt vec; grind
  rw [g1] at f1
  rw [g2] at f2
  obtain ⟨A, eA⟩ : ∃ A, dt (vec a b) (vec a b) = A := ⟨_, rfl⟩
  obtain ⟨B, eB⟩ : ∃ B, dt (vec a b') (vec a b') = B := ⟨_, rfl⟩
  obtain ⟨t, et⟩ : ∃ t, dt (vec a b) (vec a b') = t := ⟨_, rfl⟩
  rw [eA, eB, et] at hl key
  rw [eA, et] at f1
  rw [eB, et] at f2
  rw [et] at s1
  have hAt : A = t := by
    apply Classical.byContradiction
    intro hn
    have m1 : t * B < A * B := Int.mul_lt_mul_of_pos_right (by omega) (by omega)
    have m2 : t * t ≤ t * B := Int.mul_le_mul_of_nonneg_left (by omega) (by omega)
    omega
  have hBt : B = t := by
    apply Classical.byContradiction
    intro hn
    have m1 : A * t < A * B := Int.mul_lt_mul_of_pos_left (by omega) (by omega)
    rw [hAt] at m1 hl
    omega
  have hz := dd_zero (show dt (vec b b') (vec b b') = 0 by omega)
  unfold vec at hz
  have e1 := congrArg Prod.fst hz
  have e2 := congrArg Prod.snd hz
  simp at e1 e2
  exact Prod.ext (by omega) (by omega)
theorem nx_unique {s : List (Int × Int)} {a b : Int × Int} (hE : Ext s a) (hb : b ∈ s) (h1 : b ≠ a) (hd : ∀ q, q ∈ s → q ≠ a → Dom a b q) : nx s a = b := by
  obtain ⟨n1, n2, n3⟩ := nx_spec hE ⟨b, hb, h1⟩
  exact dom_unique hE n1 hb n2 h1 (n3 b hb h1) (hd _ n1 n2)
theorem Ext.sub {s s' : List (Int × Int)} {a : Int × Int} (h : Ext s a) (hs : ∀ q, q ∈ s' → q ∈ s) : Ext s' a := by
  obtain ⟨d, hd⟩ := h
  exact ⟨d, fun q hq hqa => hd q (hs q hq) hqa⟩
theorem nx_sub {s s' : List (Int × Int)} {a : Int × Int} (hs : ∀ q, q ∈ s' → q ∈ s) (hE : Ext s a) (hn : nx s a ∈ s') : nx s' a = nx s a := by
  by_cases h : ∃ q, q ∈ s ∧ q ≠ a
  · obtain ⟨n1, n2, n3⟩ := nx_spec hE h
    exact nx_unique (hE.sub hs) hn n2 fun q hq hqa => n3 q (hs q hq) hqa
  · have h1 : ∀ q, q ∈ s → q = a := fun q hq => Classical.byContradiction fun hqa => h ⟨q, hq, hqa⟩
    rw [show nx s a = a from fold_same s h1, show nx s' a = a from fold_same s' fun q hq => h1 q (hs q hq)]
/-- Along a chain, the next one dominates. -/
theorem Conv.dom {d : Int × Int} {l c : List (Int × Int)} (h : Conv d l c) (hA : Ahead d l) (hl : 1 ≤ l.length) {i : Nat} (hi : i + 1 < c.length) {q : Int × Int} (hq : q ∈ l) : Dom (pt c i) (pt c (i + 1)) q := by
  refine ⟨h.left i hi q hq, fun e => ?_⟩
  rw [sd_step] at e
  have p1 := h.ahead i (i + 1) (by omega) hi
  have hpos := dd_pos p1.ne
  apply Classical.byContradiction
  intro hn
  by_cases h2 : i + 2 < c.length
  · have t1 := h.turn i h2
    rw [sd_step] at t1
    have l2 := h.left (i + 1) h2 q hq
    have l2' : 0 ≤ cx (vec (pt c (i + 1)) (pt c (i + 2))) (vec (pt c (i + 1)) q) := l2
    have r := ray (vec (pt c i) (pt c (i + 1))) (vec (pt c (i + 1)) (pt c (i + 2))) (vec (pt c (i + 1)) q) e
    rw [cx_anti (vec (pt c i) (pt c (i + 1))) (vec (pt c (i + 1)) (pt c (i + 2)))] at r
    have m1 := Int.mul_nonneg l2' (Int.le_of_lt hpos)
    have m2 := Int.mul_pos (show 0 < dt (vec (pt c i) (pt c (i + 1))) (vec (pt c (i + 1)) q) by omega) t1
    rw [Int.mul_neg] at r
    omega
  · have hla := h.last
    rw [show c.length - 1 = i + 1 by omega] at hla
    obtain ⟨j, hj, rfl⟩ := mem_pt hq
    by_cases ej : j = l.length - 1
    · rw [ej, ← hla] at hn
      have : dt (vec (pt c i) (pt c (i + 1))) (vec (pt c (i + 1)) (pt c (i + 1))) = 0 := by unfold dt vec; grind
      omega
    · have p2 := hA j (l.length - 1) (by omega) (by omega)
      rw [← hla] at p2
      have e2 : cx (vec (pt c i) (pt c (i + 1))) (vec (pt l j) (pt c (i + 1))) = 0 := by
        have : cx (vec (pt c i) (pt c (i + 1))) (vec (pt l j) (pt c (i + 1))) = - cx (vec (pt c i) (pt c (i + 1))) (vec (pt c (i + 1)) (pt l j)) := by unfold cx vec; grind
        omega
      have s1 := same_ray p1 p2 e2
      have : dt (vec (pt c i) (pt c (i + 1))) (vec (pt l j) (pt c (i + 1))) = - dt (vec (pt c i) (pt c (i + 1))) (vec (pt c (i + 1)) (pt l j)) := by unfold dt vec; grind
      omega
/-- Gone round as far as r, from f to a, each the next one of the one ahead. -/
structure Round (s : List (Int × Int)) (f : Int × Int) (r : List (Int × Int)) (a : Int × Int) : Prop where
  went : Went s f r a
  one : 1 ≤ r.length
  chain : ∀ i, i + 1 < r.length → nx s (pt r i) = pt r (i + 1)
  last : pt r (r.length - 1) = a
  head : pt r 0 = f
theorem Round.start {s : List (Int × Int)} {f : Int × Int} (hf : f ∈ s) (hE : Ext s f) : Round s f [f] f :=
  ⟨Went.start hf hE, by simp, fun i hi => by simp at hi, rfl, rfl⟩
theorem Round.step {s : List (Int × Int)} {f : Int × Int} {r : List (Int × Int)} {a : Int × Int} (h : Round s f r a) (hp : nx s a ≠ f) : Round s f (r ++ [nx s a]) (nx s a) := by
  have h1 := h.one
  refine ⟨(h.went.step hp).1, by simp, fun i hi => ?_, ?_, ?_⟩
  · rw [List.length_append] at hi
    simp at hi
    by_cases e : i + 1 = r.length
    · rw [pt_app_l hi, e, pt_app_r, ← h.last]
      rw [show r.length - 1 = i by omega]
    · rw [pt_app_l hi, pt_app_l (by omega)]
      exact h.chain i (by omega)
  · rw [show (r ++ [nx s a]).length - 1 = r.length by simp, pt_app_r]
  · rw [pt_app_l (by omega)]; exact h.head
theorem Round.len {s : List (Int × Int)} {f : Int × Int} {r : List (Int × Int)} {a : Int × Int} (h : Round s f r a) : r.length ≤ s.length := nodup_le _ _ h.went.nodup h.went.sub
/-- With steps enough it comes back, and how many they are does not matter. -/
theorem wrapGo_back {s : List (Int × Int)} {f : Int × Int} : ∀ (m : Nat) (r : List (Int × Int)) (a : Int × Int), Round s f r a → s.length - r.length ≤ m → ∀ n, s.length + 1 - r.length ≤ n →
    (∃ z, Round s f (wrapGo s f n r (nx s a)) z ∧ nx s z = f) ∧ wrapGo s f n r (nx s a) = wrapGo s f (s.length + 1 - r.length) r (nx s a) := by
  intro m
  induction m with
  | zero =>
    intro r a h hm n hn
    have hl := h.len
    by_cases hp : nx s a = f
    · rw [hp, wrapGo_end, wrapGo_end]
      exact ⟨⟨a, h, hp⟩, rfl⟩
    · have := (h.went.step hp).2
      omega
  | succ m ih =>
    intro r a h hm n hn
    have hl := h.len
    by_cases hp : nx s a = f
    · rw [hp, wrapGo_end, wrapGo_end]
      exact ⟨⟨a, h, hp⟩, rfl⟩
    · have h2 := (h.went.step hp).2
      obtain ⟨n', rfl⟩ : ∃ n', n = n' + 1 := ⟨n - 1, by omega⟩
      have hlen : (r ++ [nx s a]).length = r.length + 1 := by simp
      rw [wrapGo_step hp, show s.length + 1 - r.length = (s.length - r.length) + 1 by omega, wrapGo_step hp]
      have i1 := ih (r ++ [nx s a]) (nx s a) (h.step hp) (by omega) n' (by omega)
      rw [hlen, show s.length + 1 - (r.length + 1) = s.length - r.length by omega] at i1
      exact i1
theorem wrapGo_has {s : List (Int × Int)} {f : Int × Int} : ∀ (n : Nat) (r : List (Int × Int)) (p q : Int × Int), q ∈ r → q ∈ wrapGo s f n r p
  | 0, _, _, _, h => h
  | n + 1, r, p, q, h => by
    by_cases hp : p = f
    · rw [hp, wrapGo_end]; exact h
    · rw [wrapGo_step hp]
      exact wrapGo_has n _ _ _ (by simp [h])
theorem wrapGo_sub {s s' : List (Int × Int)} {f : Int × Int} (hs : ∀ q, q ∈ s' → q ∈ s) (hf : f ∈ s') : ∀ (n : Nat) (r : List (Int × Int)) (a : Int × Int), Round s f r a → (∀ q, q ∈ wrapGo s f n r (nx s a) → q ∈ s') → wrapGo s' f n r (nx s' a) = wrapGo s f n r (nx s a) := by
  intro n
  induction n with
  | zero => intro r a _ _; rfl
  | succ n ih =>
    intro r a h hq
    have hE := h.went.ext a h.went.last
    by_cases hp : nx s a = f
    · rw [nx_sub hs hE (by rw [hp]; exact hf), hp, wrapGo_end, wrapGo_end]
    · rw [wrapGo_step hp] at hq
      have hin : nx s a ∈ s' := hq _ (wrapGo_has _ _ _ _ (by simp))
      rw [nx_sub hs hE hin, wrapGo_step hp, wrapGo_step hp]
      exact ih _ _ (h.step hp) hq
theorem Rise.ext {f : Int × Int} {t : List (Int × Int)} (h : Rise (f :: t)) : Ext (f :: t) f := first_ext h
/-- The ring of a rising list. -/
theorem wrapR_ring {f : Int × Int} {t : List (Int × Int)} (h : Rise (f :: t)) : ∃ z, Round (f :: t) f (wrapR (f :: t)) z ∧ nx (f :: t) z = f := by
  have := (wrapGo_back (s := f :: t) (f := f) _ [f] f (Round.start (by simp) h.ext) (Nat.le_refl _) (f :: t).length (by simp)).1
  exact this
theorem less_irr {a : Int × Int} : lessB a.1 a.2 a.1 a.2 = false := by unfold lessB; refine decide_eq_false ?_; omega
theorem less_asym {a b : Int × Int} (h : lessB a.1 a.2 b.1 b.2 = true) (k : lessB b.1 b.2 a.1 a.2 = true) : False := by
  have := less_trans2 h k
  rw [less_irr] at this
  cases this
theorem Rise.least {f : Int × Int} {t : List (Int × Int)} (h : Rise (f :: t)) {q : Int × Int} (hq : q ∈ f :: t) (hqf : q ≠ f) : lessB f.1 f.2 q.1 q.2 = true := by
  obtain ⟨i, hi, rfl⟩ := mem_pt hq
  have hi0 : i ≠ 0 := fun e => hqf (by rw [e]; rfl)
  exact less_at h (i := 0) (j := i) (by omega) hi
theorem wrap_sub {s s' : List (Int × Int)} (h : Rise s) (h' : Rise s') (hs : ∀ q, q ∈ s' → q ∈ s) (hc : ∀ q, q ∈ wrapR s → q ∈ s') : wrapR s' = wrapR s := by
  match s, s', h, h', hs, hc with
  | [], [], _, _, _, _ => rfl
  | [], q :: t', _, _, hs, _ => exact absurd (hs q (by simp)) (by simp)
  | f :: t, [], h, _, _, hc =>
    obtain ⟨z, hz, _⟩ := wrapR_ring h
    exact absurd (hc _ hz.went.last) (by simp)
  | f :: t, f' :: t', h, h', hs, hc =>
    obtain ⟨z, hz, _⟩ := wrapR_ring h
    have hf0 : pt (wrapR (f :: t)) 0 ∈ wrapR (f :: t) := pt_mem (by have := hz.one; omega)
    rw [hz.head] at hf0
    have hfm : f ∈ f' :: t' := hc f hf0
    obtain rfl : f' = f := by
      apply Classical.byContradiction
      intro hn
      exact less_asym (h.least (hs f' (by simp)) hn) (h'.least hfm (fun e => hn e.symm))
    have hsub := wrapGo_sub (s := f' :: t) (s' := f' :: t') hs hfm (f' :: t).length [f'] f' (Round.start (by simp) h.ext) hc
    have hl : (f' :: t').length ≤ (f' :: t).length := by
      refine nodup_le _ _ ?_ hs
      rw [List.nodup_iff_pairwise_ne, List.pairwise_iff_getElem]
      intro i j hi hj hij e
      have := less_at h' hij hj
      rw [pt_get hi, pt_get hj, e, less_irr] at this
      cases this
    have hb := (wrapGo_back (s := f' :: t') (f := f') _ [f'] f' (Round.start (by simp) h'.ext) (Nat.le_refl _) (f' :: t).length (by simp at hl ⊢; omega)).2
    rw [show (f' :: t').length + 1 - [f'].length = (f' :: t').length by simp] at hb
    show wrapGo (f' :: t') f' (f' :: t').length [f'] (nx (f' :: t') f') = wrapGo (f' :: t) f' (f' :: t).length [f'] (nx (f' :: t) f')
    rw [← hb, hsub]
end Go.Proofs.YtipiamhnngmjmaaDoor
