/-
  What the program and the specification ask, going round a set from corner to corner, is the same (no walk in it).
  Conditions: as each theorem states them.
-/
import Derived.Test.YtipiamhnngmjmaaDoorHJarvis
namespace Go.Proofs.YtipiamhnngmjmaaDoor
set_option linter.unusedVariables false
set_option maxRecDepth 8000
/-- Less, by the first number, then by the second. -/
def lt2 (a b : Int × Int) : Bool := lessB a.1 a.2 b.1 b.2
theorem lt2_pos (a b : Int × Int) : lt2 a b = true ↔ Pos (0, -1) (vec a b) := by
  unfold lt2 lessB Pos cx dt vec
  simp
  omega
/-- In one line behind b, as the program asks it. -/
def byB (a b p : Int × Int) : Bool := (sideN a.1 a.2 b.1 b.2 p.1 p.2 == 0) && ((lt2 a b && lt2 b p) || (lt2 p b && lt2 b a))
/-- One step of the program's way round. -/
def istep (a best p : Int × Int) : Int × Int := if best = a ∨ tlB a p best = true ∨ byB a best p = true then p else best
theorem vec_neg (a b : Int × Int) : vec b a = (-(vec a b).1, -(vec a b).2) := by unfold vec; simp; omega
theorem cx_neg (u v : Int × Int) : cx (-u.1, -u.2) (-v.1, -v.2) = cx u v := by unfold cx; grind
theorem dt_neg (u v : Int × Int) : dt (-u.1, -u.2) (-v.1, -v.2) = dt u v := by unfold dt; grind
theorem lt2_tri {a b : Int × Int} (h : a ≠ b) : lt2 a b = true ∨ lt2 b a = true := by
  unfold lt2 lessB
  simp
  have : a.1 ≠ b.1 ∨ a.2 ≠ b.2 := by
    apply Classical.byContradiction
    intro hn
    exact h (Prod.ext (by omega) (by omega))
  omega
theorem beyond_dt {a b p : Int × Int} (hs : sd a b p = 0) (hab : b ≠ a) : ((lt2 a b && lt2 b p) || (lt2 p b && lt2 b a)) = decide (0 < dt (vec a b) (vec b p)) := by
  have hc : cx (vec a b) (vec b p) = 0 := by rw [← sd_step]; exact hs
  have hc' : cx (vec b a) (vec p b) = 0 := by rw [vec_neg a b, vec_neg b p, cx_neg]; exact hc
  have hd' : dt (vec b a) (vec p b) = dt (vec a b) (vec b p) := by rw [vec_neg a b, vec_neg b p, dt_neg]
  have imp1 : lt2 a b = true → lt2 b p = true → 0 < dt (vec a b) (vec b p) := fun h1 h2 => same_ray ((lt2_pos a b).1 h1) ((lt2_pos b p).1 h2) hc
  have imp2 : lt2 p b = true → lt2 b a = true → 0 < dt (vec a b) (vec b p) := fun h1 h2 => by rw [← hd']; exact same_ray ((lt2_pos b a).1 h2) ((lt2_pos p b).1 h1) hc'
  by_cases h : 0 < dt (vec a b) (vec b p)
  · rw [decide_eq_true h]
    have hbp : b ≠ p := by
      intro e
      subst e
      have : dt (vec a b) (vec b b) = 0 := by unfold dt vec; grind
      omega
    have x1 : lt2 a b = true → lt2 p b = true → False := fun h1 h2 => by
      have k := same_ray ((lt2_pos a b).1 h1) ((lt2_pos p b).1 h2) (by have : cx (vec a b) (vec p b) = - cx (vec a b) (vec b p) := by unfold cx vec; grind
                                                                       omega)
      have : dt (vec a b) (vec p b) = - dt (vec a b) (vec b p) := by unfold dt vec; grind
      omega
    have x2 : lt2 b a = true → lt2 b p = true → False := fun h1 h2 => by
      have k := same_ray ((lt2_pos b a).1 h1) ((lt2_pos b p).1 h2) (by have : cx (vec b a) (vec b p) = - cx (vec a b) (vec b p) := by unfold cx vec; grind
                                                                       omega)
      have : dt (vec b a) (vec b p) = - dt (vec a b) (vec b p) := by unfold dt vec; grind
      omega
    rcases lt2_tri hab with h1 | h1
    · rcases lt2_tri hbp with h2 | h2
      · exact (x2 h1 h2).elim
      · rw [h1, h2]; simp
    · rcases lt2_tri hbp with h2 | h2
      · rw [h1, h2]; simp
      · exact (x1 h1 h2).elim
  · rw [decide_eq_false h]
    cases h1 : lt2 a b
    · cases h3 : lt2 p b
      · rfl
      · cases h4 : lt2 b a
        · rfl
        · exact absurd (imp2 h3 h4) h
    · cases h2 : lt2 b p
      · cases h3 : lt2 p b
        · rfl
        · cases h4 : lt2 b a
          · rfl
          · exact absurd (imp2 h3 h4) h
      · exact absurd (imp1 h1 h2) h
theorem sideN_zero {a b p : Int × Int} (ha : gp a) (hb : gp b) (hp : gp p) : (sideN a.1 a.2 b.1 b.2 p.1 p.2 == 0) = decide (sd a b p = 0) := by
  rw [sideN_eq ha hb hp]
  by_cases h : sd a b p = 0
  · rw [(sg_pos _).2.2.2.2 h, decide_eq_true h]; rfl
  · have := mt (sg_pos (sd a b p)).2.2.2.1 h
    rw [decide_eq_false h]
    simpa using this
theorem byB_eq {a b p : Int × Int} (ha : gp a) (hb : gp b) (hp : gp p) (hab : b ≠ a) : byB a b p = decide (sd a b p = 0 ∧ 0 < dt (vec a b) (vec b p)) := by
  unfold byB
  rw [sideN_zero ha hb hp]
  by_cases h : sd a b p = 0
  · rw [decide_eq_true h, beyond_dt h hab]
    simp [h]
  · simp [h]
theorem step_eq {a best p : Int × Int} (ha : gp a) (hb : gp best) (hp : gp p) : istep a best p = wstep a best p := by
  unfold istep wstep
  by_cases hpa : p = a
  · rw [if_pos hpa]
    subst hpa
    by_cases hba : best = p
    · subst hba; simp
    · rw [if_neg]
      rintro (h | h | h)
      · exact hba h
      · rw [tlB_eq hp hp hb] at h
        have := of_decide_eq_true h
        have e : sd p p best = 0 := by unfold sd; grind
        omega
      · rw [byB_eq hp hb hp hba] at h
        have := (of_decide_eq_true h).2
        have e : dt (vec p best) (vec best p) = - dt (vec p best) (vec p best) := by unfold dt vec; grind
        have := dd_nn (vec p best)
        omega
  · rw [if_neg hpa]
    by_cases hba : best = a
    · rw [if_pos (.inl hba), if_pos hba]
    · rw [if_neg hba, tlB_eq ha hp hb, byB_eq ha hb hp hba]
      have e : sd a p best = - sd a best p := by unfold sd; grind
      by_cases hc : sd a best p < 0 ∨ (sd a best p = 0 ∧ 0 < dt (vec a best) (vec best p))
      · rw [if_pos hc, if_pos]
        rcases hc with hc | hc
        · exact .inr (.inl (decide_eq_true (by omega)))
        · exact .inr (.inr (decide_eq_true hc))
      · rw [if_neg hc, if_neg]
        rintro (h | h | h)
        · exact hba h
        · exact hc (.inl (by have := of_decide_eq_true h; omega))
        · exact hc (.inr (of_decide_eq_true h))
theorem fold_mem (f : Int × Int → Int × Int → Int × Int) (hf : ∀ b p, f b p = b ∨ f b p = p) (l : List (Int × Int)) : ∀ b, l.foldl f b = b ∨ l.foldl f b ∈ l := by
  induction l with
  | nil => intro b; exact .inl rfl
  | cons p l ih =>
    intro b
    rw [List.foldl_cons]
    rcases ih (f b p) with h | h
    · rcases hf b p with h2 | h2
      · exact .inl (h.trans h2)
      · exact .inr (by rw [h, h2]; simp)
    · exact .inr (by simp [h])
theorem istep_or (a b p : Int × Int) : istep a b p = b ∨ istep a b p = p := by
  unfold istep
  split
  · exact .inr rfl
  · exact .inl rfl
theorem fold_eq {a : Int × Int} (ha : gp a) (l : List (Int × Int)) (hl : allG l) : ∀ b, gp b → l.foldl (istep a) b = l.foldl (wstep a) b := by
  induction l with
  | nil => intro b _; rfl
  | cons p l ih =>
    intro b hb
    have hp : gp p := hl p (by simp)
    rw [List.foldl_cons, List.foldl_cons, ← step_eq ha hb hp]
    refine ih (fun q hq => hl q (by simp [hq])) _ ?_
    rcases istep_or a b p with h | h
    · rw [h]; exact hb
    · rw [h]; exact hp
/-- The program's next point. -/
def nxI (s : List (Int × Int)) (a : Int × Int) : Int × Int := s.foldl (istep a) a
theorem nxI_eq {s : List (Int × Int)} {a : Int × Int} (ha : gp a) (hs : allG s) : nxI s a = nx s a := fold_eq ha s hs a ha
theorem nx_good {s : List (Int × Int)} {a : Int × Int} (ha : gp a) (hs : allG s) : gp (nx s a) := by
  rw [← nxI_eq ha hs]
  rcases fold_mem (istep a) (istep_or a) s a with h | h
  · unfold nxI; rw [h]; exact ha
  · exact hs _ h
theorem wstep_self {a b : Int × Int} (h : b ≠ a) : wstep a b b = b := by
  unfold wstep
  rw [if_neg h, if_neg h]
  split <;> rfl
/-- The specification begins with the first other point. -/
theorem nx_start {s0 s1 a : Int × Int} {t : List (Int × Int)} (h : s0 ≠ s1) : nx (s0 :: s1 :: t) a = (s0 :: s1 :: t).foldl (wstep a) (if s0 = a then s1 else s0) := by
  unfold nx
  by_cases h0 : s0 = a
  · subst h0
    rw [if_pos rfl]
    have h1 : s1 ≠ s0 := fun e => h e.symm
    have e1 : wstep s0 s0 s0 = s0 := by unfold wstep; rw [if_pos rfl]
    have e2 : wstep s0 s0 s1 = s1 := by unfold wstep; rw [if_neg h1, if_pos rfl]
    have e3 : wstep s0 s1 s0 = s1 := by unfold wstep; rw [if_pos rfl]
    simp only [List.foldl_cons, e1, e2, e3, wstep_self h1]
  · rw [if_neg h0]
    have e1 : wstep a a s0 = s0 := by unfold wstep; rw [if_neg h0, if_pos rfl]
    simp only [List.foldl_cons, e1, wstep_self h0]
theorem rises_lt2 {l : List (Int × Int)} (h : RisesTo l (l.length - 1)) : ∀ (k i : Nat), i + k + 1 < l.length → lt2 (pt l i) (pt l (i + k + 1)) = true := by
  intro k
  induction k with
  | zero => intro i hi; exact h i (by omega)
  | succ k ih =>
    intro i hi
    have h1 := ih i (by omega)
    have h2 := h (i + k + 1) (by omega)
    unfold lt2 lessB at *
    have h1' := of_decide_eq_true h1
    have h2' := of_decide_eq_true h2
    refine decide_eq_true ?_
    simp only [pt] at *
    rw [show i + (k + 1) + 1 = i + k + 1 + 1 by omega]
    omega
theorem first_ext {f : Int × Int} {t : List (Int × Int)} (h : RisesTo (f :: t) ((f :: t).length - 1)) : Ext (f :: t) f := by
  refine ⟨(0, -1), fun q hq hqf => ?_⟩
  rcases List.mem_cons.1 hq with e | hq
  · exact absurd e hqf
  · obtain ⟨i, hi, rfl⟩ := List.getElem_of_mem hq
    have := rises_lt2 h i 0 (by simp; omega)
    rw [pt_get (by simp), pt_get (by simp; omega)] at this
    refine (lt2_pos _ _).1 ?_
    simpa using this
theorem first_two {s0 s1 : Int × Int} {t : List (Int × Int)} (h : RisesTo (s0 :: s1 :: t) ((s0 :: s1 :: t).length - 1)) : s0 ≠ s1 := by
  intro e
  have := rises_lt2 h 0 0 (by simp)
  unfold lt2 lessB at this
  have := of_decide_eq_true this
  simp [pt, px, py, e] at this
def wraL (l : List (Int × Int)) : List (Int × Int) := if goodL l then wrapR l else []
theorem wraL_len (l : List (Int × Int)) (h : l.length ≤ 1048576) : (wraL l).length ≤ 1048576 := by
  unfold wraL
  split
  · rename_i hG
    have h1 := goodL_few hG
    have h2 := wrapR_len l
    omega
  · simp
end Go.Proofs.YtipiamhnngmjmaaDoor
