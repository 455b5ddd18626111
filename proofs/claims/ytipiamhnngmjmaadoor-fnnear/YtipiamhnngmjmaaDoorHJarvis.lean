/-
  A set gone round from corner to corner (Jarvis): which point is next, and that the first one comes again (no walk in it).
  Conditions: as each theorem states them.
-/
import Derived.Test.YtipiamhnngmjmaaDoorHHalP
namespace Go.Proofs.YtipiamhnngmjmaaDoor
set_option linter.unusedVariables false
set_option maxRecDepth 8000
/-- Which of two points is next from a. -/
def wstep (a best p : Int × Int) : Int × Int := if p = a then best else if best = a then p else if sd a best p < 0 ∨ (sd a best p = 0 ∧ 0 < dt (vec a best) (vec best p)) then p else best
/-- Which point of a list is next from a. -/
def nx (s : List (Int × Int)) (a : Int × Int) : Int × Int := s.foldl (wstep a) a
/-- All others lie within a half plane round a. -/
def Ext (s : List (Int × Int)) (a : Int × Int) : Prop := ∃ d, ∀ q, q ∈ s → q ≠ a → Pos d (vec a q)
/-- No way from a to q goes to the right of the one to b, or farther. -/
def Dom (a b q : Int × Int) : Prop := 0 ≤ sd a b q ∧ (sd a b q = 0 → dt (vec a b) (vec b q) ≤ 0)
theorem dt_vec (u a b c : Int × Int) : dt u (vec b c) = dt u (vec a c) - dt u (vec a b) := by unfold dt vec; grind
theorem dt_comm (u v : Int × Int) : dt u v = dt v u := by unfold dt; grind
theorem vec_ne {a b : Int × Int} (h : b ≠ a) : vec a b ≠ (0, 0) := by
  intro e
  apply h
  unfold vec at e
  have e1 := congrArg Prod.fst e
  have e2 := congrArg Prod.snd e
  simp at e1 e2
  exact Prod.ext (by omega) (by omega)
theorem dom_self (a p : Int × Int) : Dom a p p := by
  refine ⟨by rw [sd_end]; omega, fun _ => ?_⟩
  have : dt (vec a p) (vec p p) = 0 := by unfold dt vec; grind
  omega
theorem dom_change {d a b p q : Int × Int} (hb : Pos d (vec a b)) (hp : Pos d (vec a p)) (hq : Pos d (vec a q)) (hc : sd a b p < 0 ∨ (sd a b p = 0 ∧ 0 < dt (vec a b) (vec b p))) (h : Dom a b q) : Dom a p q := by
  have hbq : 0 ≤ cx (vec a b) (vec a q) := h.1
  rcases hc with hc | ⟨hc, hf⟩
  · have h1 : 0 < cx (vec a p) (vec a b) := by rw [cx_anti (vec a b)]; have : cx (vec a b) (vec a p) < 0 := hc; omega
    have h2 : 0 < sd a p q := tri_l hp hb hq h1 hbq
    exact ⟨Int.le_of_lt h2, fun e => by omega⟩
  · have hc0 : cx (vec a b) (vec a p) = 0 := hc
    have h1 : 0 ≤ cx (vec a p) (vec a b) := by rw [cx_anti (vec a b)]; omega
    have h2 : 0 ≤ sd a p q := tri hp hb hq h1 hbq
    refine ⟨h2, fun e => ?_⟩
    have e0 : cx (vec a p) (vec a q) = 0 := e
    have h3 : cx (vec a b) (vec a q) = 0 := by
      apply Classical.byContradiction
      intro hn
      have := tri_r hp hb hq h1 (by omega : 0 < cx (vec a b) (vec a q))
      omega
    have h4 := h.2 h3
    have hA := dd_pos hb.ne
    rw [dt_vec (vec a b) a b q] at h4
    rw [dt_vec (vec a b) a b p] at hf
    have hx : dt (vec a b) (vec p q) < 0 := by rw [dt_vec (vec a b) a p q]; omega
    have r := rayd (vec a b) (vec p q) (vec a p) hc0
    have hB : 0 < dt (vec a b) (vec a p) := by omega
    have hC : dt (vec p q) (vec a b) < 0 := by rw [dt_comm]; exact hx
    have hm := Int.mul_neg_of_pos_of_neg hB hC
    rw [dt_comm (vec a p)]
    apply Classical.byContradiction
    intro hn
    have := Int.mul_nonneg (show 0 ≤ dt (vec p q) (vec a p) by omega) (Int.le_of_lt hA)
    omega
section
variable {s : List (Int × Int)} {a : Int × Int}
theorem fold_dom (hE : ∃ d, ∀ q, q ∈ s → q ≠ a → Pos d (vec a q)) : ∀ (l : List (Int × Int)) (best : Int × Int), (∀ q, q ∈ l → q ∈ s) → best ∈ s → best ≠ a →
    l.foldl (wstep a) best ∈ s ∧ l.foldl (wstep a) best ≠ a ∧ (∀ q, q ∈ s → q ≠ a → (Dom a best q ∨ q ∈ l) → Dom a (l.foldl (wstep a) best) q) := by
  obtain ⟨d, hd⟩ := hE
  intro l
  induction l with
  | nil => intro best _ h1 h2; exact ⟨h1, h2, fun q _ _ h => h.resolve_right (by simp)⟩
  | cons p l ih =>
    intro best hl h1 h2
    rw [List.foldl_cons]
    have hps : p ∈ s := hl p (by simp)
    have hl' : ∀ q, q ∈ l → q ∈ s := fun q hq => hl q (by simp [hq])
    by_cases hpa : p = a
    · have e : wstep a best p = best := by unfold wstep; rw [if_pos hpa]
      rw [e]
      obtain ⟨i1, i2, i3⟩ := ih best hl' h1 h2
      refine ⟨i1, i2, fun q hq hqa h => i3 q hq hqa ?_⟩
      rcases h with h | h
      · exact .inl h
      · rcases List.mem_cons.1 h with h | h
        · exact absurd (h.trans hpa) hqa
        · exact .inr h
    · by_cases hc : sd a best p < 0 ∨ (sd a best p = 0 ∧ 0 < dt (vec a best) (vec best p))
      · have e : wstep a best p = p := by unfold wstep; rw [if_neg hpa, if_neg h2, if_pos hc]
        rw [e]
        obtain ⟨i1, i2, i3⟩ := ih p hl' hps hpa
        refine ⟨i1, i2, fun q hq hqa h => i3 q hq hqa ?_⟩
        rcases h with h | h
        · exact .inl (dom_change (hd best h1 h2) (hd p hps hpa) (hd q hq hqa) hc h)
        · rcases List.mem_cons.1 h with h | h
          · rw [h]; exact .inl (dom_self a p)
          · exact .inr h
      · have e : wstep a best p = best := by unfold wstep; rw [if_neg hpa, if_neg h2, if_neg hc]
        rw [e]
        obtain ⟨i1, i2, i3⟩ := ih best hl' h1 h2
        refine ⟨i1, i2, fun q hq hqa h => i3 q hq hqa ?_⟩
        rcases h with h | h
        · exact .inl h
        · rcases List.mem_cons.1 h with h | h
          · rw [h]
            refine .inl ⟨?_, fun e => ?_⟩
            · apply Classical.byContradiction
              intro hn
              exact hc (.inl (by omega))
            · apply Classical.byContradiction
              intro hn
              exact hc (.inr ⟨e, by omega⟩)
          · exact .inr h
theorem fold_start (hE : ∃ d, ∀ q, q ∈ s → q ≠ a → Pos d (vec a q)) : ∀ (l : List (Int × Int)), (∀ q, q ∈ l → q ∈ s) → (∃ q, q ∈ l ∧ q ≠ a) →
    l.foldl (wstep a) a ∈ s ∧ l.foldl (wstep a) a ≠ a ∧ (∀ q, q ∈ l → q ≠ a → Dom a (l.foldl (wstep a) a) q) := by
  intro l
  induction l with
  | nil => intro _ ⟨q, hq, _⟩; cases hq
  | cons p l ih =>
    intro hl ⟨q, hq, hqa⟩
    rw [List.foldl_cons]
    have hps : p ∈ s := hl p (by simp)
    have hl' : ∀ q, q ∈ l → q ∈ s := fun q hq => hl q (by simp [hq])
    by_cases hpa : p = a
    · have e : wstep a a p = a := by unfold wstep; rw [if_pos hpa]
      rw [e]
      obtain ⟨i1, i2, i3⟩ := ih hl' ⟨q, (List.mem_cons.1 hq).resolve_left (fun h => hqa (h.trans hpa)), hqa⟩
      exact ⟨i1, i2, fun q hq hqa => i3 q ((List.mem_cons.1 hq).resolve_left (fun h => hqa (h.trans hpa))) hqa⟩
    · have e : wstep a a p = p := by unfold wstep; rw [if_neg hpa, if_pos rfl]
      rw [e]
      obtain ⟨i1, i2, i3⟩ := fold_dom hE l p hl' hps hpa
      refine ⟨i1, i2, fun q hq hqa => i3 q (hl q hq) hqa ?_⟩
      rcases List.mem_cons.1 hq with h | h
      · rw [h]; exact .inl (dom_self a p)
      · exact .inr h
theorem nx_spec (hE : Ext s a) (h : ∃ q, q ∈ s ∧ q ≠ a) : nx s a ∈ s ∧ nx s a ≠ a ∧ ∀ q, q ∈ s → q ≠ a → Dom a (nx s a) q := fold_start hE s (fun _ h => h) h
theorem fold_same : ∀ (l : List (Int × Int)), (∀ q, q ∈ l → q = a) → l.foldl (wstep a) a = a := by
  intro l
  induction l with
  | nil => intro _; rfl
  | cons p l ih =>
    intro h
    rw [List.foldl_cons]
    have e : wstep a a p = a := by unfold wstep; rw [if_pos (h p (by simp))]
    rw [e]
    exact ih fun q hq => h q (by simp [hq])
theorem nx_ext (hE : Ext s a) (h : ∃ q, q ∈ s ∧ q ≠ a) : Ext s (nx s a) := by
  obtain ⟨h1, h2, h3⟩ := nx_spec hE h
  obtain ⟨b, hb⟩ : ∃ b, nx s a = b := ⟨_, rfl⟩
  rw [hb] at h1 h2 h3 ⊢
  have hu := dd_pos (vec_ne h2)
  refine ⟨vec a b, fun q hq hqb => ?_⟩
  by_cases hqa : q = a
  · subst hqa
    right
    refine ⟨by unfold cx vec; grind, ?_⟩
    have : dt (vec q b) (vec b q) = - dt (vec q b) (vec q b) := by unfold dt vec; grind
    omega
  · obtain ⟨d1, d2⟩ := h3 q hq hqa
    rw [sd_step] at d1 d2
    by_cases h0 : cx (vec a b) (vec b q) = 0
    · right
      refine ⟨h0, ?_⟩
      have d3 := d2 h0
      apply Classical.byContradiction
      intro hn
      have e0 : dt (vec a b) (vec b q) = 0 := by omega
      have hl := lagr (vec a b) (vec b q)
      rw [h0, e0] at hl
      have hv := dd_pos (vec_ne hqb)
      have := Int.mul_pos hu hv
      omega
    · left
      omega
/-- Only one point has another one for its next. -/
theorem nx_inj {a' : Int × Int} (hE : Ext s a) (hE' : Ext s a') (ha : a ∈ s) (ha' : a' ∈ s) (h : nx s a = nx s a') : a = a' := by
  apply Classical.byContradiction
  intro hne
  obtain ⟨h1, h2, h3⟩ := nx_spec hE ⟨a', ha', fun e => hne e.symm⟩
  obtain ⟨_, h2', h3'⟩ := nx_spec hE' ⟨a, ha, hne⟩
  rw [← h] at h2' h3'
  obtain ⟨b, hb⟩ : ∃ b, nx s a = b := ⟨_, rfl⟩
  rw [hb] at h1 h2 h3 h2' h3'
  obtain ⟨d1, d2⟩ := h3 a' ha' (fun e => hne e.symm)
  obtain ⟨d1', d2'⟩ := h3' a ha hne
  have hsw : sd a' b a = - sd a b a' := by unfold sd; grind
  have e1 : sd a b a' = 0 := by omega
  have e1' : sd a' b a = 0 := by omega
  have f1 := d2 e1
  have f1' := d2' e1'
  obtain ⟨d, hd⟩ := hE
  obtain ⟨d', hd'⟩ := hE'
  have p1 := hd b h1 h2
  have p2 := hd a' ha' (fun e => hne e.symm)
  have p1' := hd' b h1 h2'
  have p2' := hd' a ha hne
  have c1 : cx (vec a b) (vec a a') = 0 := by rw [← sd_cx]; exact e1
  have c1' : cx (vec a' b) (vec a' a) = 0 := by rw [← sd_cx]; exact e1'
  have s1 := same_ray p1 p2 c1
  have s1' := same_ray p1' p2' c1'
  have hl := lagr (vec b a) (vec b a')
  have c2 : cx (vec b a) (vec b a') = 0 := by
    have : cx (vec b a) (vec b a') = - sd a b a' := by unfold cx sd vec; grind
    omega
  rw [c2] at hl
  have g1 : dt (vec a b) (vec a a') = dt (vec b a) (vec b a) - dt (vec b a) (vec b a') := by unfold dt vec; grind
  have g1' : dt (vec a' b) (vec a' a) = dt (vec b a') (vec b a') - dt (vec b a) (vec b a') := by unfold dt vec; grind
  have g2 : dt (vec a b) (vec b a') = - dt (vec b a) (vec b a') := by unfold dt vec; grind
  have hA := dd_nn (vec b a)
  have hB := dd_nn (vec b a')
  obtain ⟨A, eA⟩ : ∃ A, dt (vec b a) (vec b a) = A := ⟨_, rfl⟩
  obtain ⟨B, eB⟩ : ∃ B, dt (vec b a') (vec b a') = B := ⟨_, rfl⟩
  obtain ⟨t, et⟩ : ∃ t, dt (vec b a) (vec b a') = t := ⟨_, rfl⟩
  rw [eA, eB, et] at hl
  rw [g1, eA, et] at s1
  rw [g1', eB, et] at s1'
  rw [g2, et] at f1
  have m1 : t * t ≤ t * B := Int.mul_le_mul_of_nonneg_left (by omega) (by omega)
  have m2 : t * B < A * B := Int.mul_lt_mul_of_pos_right (by omega) (by omega)
  omega
end
theorem nodup_le : ∀ (r s : List (Int × Int)), r.Nodup → (∀ q, q ∈ r → q ∈ s) → r.length ≤ s.length
  | [], _, _, _ => Nat.zero_le _
  | x :: r, s, hn, hs => by
    have hx : x ∈ s := hs x (by simp)
    have h1 := nodup_le r (s.erase x) (List.nodup_cons.1 hn).2 (fun q hq => by
      have hne : q ≠ x := fun e => (List.nodup_cons.1 hn).1 (e ▸ hq)
      exact (List.mem_erase_of_ne hne).2 (hs q (by simp [hq])))
    rw [List.length_erase_of_mem hx] at h1
    have : 0 < s.length := List.length_pos_of_mem hx
    simp
    omega
/-- How far it has been gone round: the last corner is a. -/
structure Went (s : List (Int × Int)) (f : Int × Int) (r : List (Int × Int)) (a : Int × Int) : Prop where
  nodup : r.Nodup
  sub : ∀ q, q ∈ r → q ∈ s
  last : a ∈ r
  first : f ∈ s
  ext : ∀ q, q ∈ r → Ext s q
  prev : ∀ c, c ∈ r → c ≠ f → ∃ c', c' ∈ r ∧ c' ≠ a ∧ nx s c' = c
theorem Went.start {s : List (Int × Int)} {f : Int × Int} (hf : f ∈ s) (hE : Ext s f) : Went s f [f] f :=
  ⟨by simp, fun q hq => by simp at hq; rw [hq]; exact hf, by simp, hf, fun q hq => by simp at hq; rw [hq]; exact hE, fun c hc hcf => absurd (by simpa using hc) hcf⟩
theorem Went.step {s : List (Int × Int)} {f : Int × Int} {r : List (Int × Int)} {a : Int × Int} (h : Went s f r a) (hp : nx s a ≠ f) : Went s f (r ++ [nx s a]) (nx s a) ∧ r.length + 1 ≤ s.length := by
  have hex : ∃ q, q ∈ s ∧ q ≠ a := by
    apply Classical.byContradiction
    intro hn
    have hall : ∀ q, q ∈ s → q = a := fun q hq => Classical.byContradiction fun hqa => hn ⟨q, hq, hqa⟩
    apply hp
    rw [show nx s a = a from fold_same s hall]
    exact (hall f h.first).symm
  have hE := h.ext a h.last
  obtain ⟨h1, h2, _⟩ := nx_spec hE hex
  have hnot : nx s a ∉ r := by
    intro hm
    obtain ⟨c', hc', hca, hnx⟩ := h.prev _ hm hp
    exact hca (nx_inj (h.ext c' hc') hE (h.sub c' hc') (h.sub a h.last) hnx)
  have hW : Went s f (r ++ [nx s a]) (nx s a) := by
    refine ⟨?_, ?_, by simp, h.first, ?_, ?_⟩
    · rw [List.nodup_append]
      refine ⟨h.nodup, by simp, fun x hx y hy e => ?_⟩
      simp at hy
      subst hy
      subst e
      exact hnot hx
    · intro q hq
      rcases List.mem_append.1 hq with hq | hq
      · exact h.sub q hq
      · simp at hq; rw [hq]; exact h1
    · intro q hq
      rcases List.mem_append.1 hq with hq | hq
      · exact h.ext q hq
      · simp at hq; rw [hq]; exact nx_ext hE hex
    · intro c hc hcf
      rcases List.mem_append.1 hc with hc | hc
      · obtain ⟨c', hc', _, hnx⟩ := h.prev c hc hcf
        exact ⟨c', by simp [hc'], fun e => hnot (e ▸ hc'), hnx⟩
      · simp at hc
        exact ⟨a, by simp [h.last], fun e => h2 e.symm, hc.symm⟩
  refine ⟨hW, ?_⟩
  have := nodup_le _ _ hW.nodup hW.sub
  rw [List.length_append] at this
  exact this
/-- Gone round, n steps at most: r has been met, p is next. -/
def wrapGo (s : List (Int × Int)) (f : Int × Int) : Nat → List (Int × Int) → Int × Int → List (Int × Int)
  | 0, r, _ => r
  | n + 1, r, p => if p = f then r else wrapGo s f n (r ++ [p]) (nx s p)
def wrapR (s : List (Int × Int)) : List (Int × Int) := match s with
  | [] => []
  | f :: t => wrapGo (f :: t) f (f :: t).length [f] (nx (f :: t) f)
theorem wrapGo_end {s : List (Int × Int)} {f : Int × Int} {n : Nat} {r : List (Int × Int)} : wrapGo s f n r f = r := by
  cases n with
  | zero => rfl
  | succ n => rw [wrapGo, if_pos rfl]
theorem wrapGo_step {s : List (Int × Int)} {f p : Int × Int} {n : Nat} {r : List (Int × Int)} (h : p ≠ f) : wrapGo s f (n + 1) r p = wrapGo s f n (r ++ [p]) (nx s p) := by rw [wrapGo, if_neg h]
theorem wrapGo_len (s : List (Int × Int)) (f : Int × Int) : ∀ (n : Nat) (r : List (Int × Int)) (p : Int × Int), (wrapGo s f n r p).length ≤ r.length + n
  | 0, r, _ => Nat.le_refl _
  | n + 1, r, p => by
    rw [wrapGo]
    split
    · omega
    · have := wrapGo_len s f n (r ++ [p]) (nx s p)
      rw [List.length_append] at this
      simp at this
      omega
theorem wrapR_len (s : List (Int × Int)) : (wrapR s).length ≤ s.length + 1 := by
  unfold wrapR
  split
  · simp
  · rename_i f t
    have := wrapGo_len (f :: t) f (f :: t).length [f] (nx (f :: t) f)
    simp at this ⊢
    omega
theorem wrapR_short {s : List (Int × Int)} (h : s.length < 2) : wrapR s = s := by
  match s, h with
  | [], _ => rfl
  | [p], _ =>
    show wrapGo [p] p 1 [p] (nx [p] p) = [p]
    rw [show nx [p] p = p from fold_same [p] (by simp)]
    exact wrapGo_end
end Go.Proofs.YtipiamhnngmjmaaDoor
