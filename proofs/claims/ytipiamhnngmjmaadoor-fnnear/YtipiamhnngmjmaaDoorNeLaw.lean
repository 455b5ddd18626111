/-
  What the law of near and far asks, in plain words: none nearer, none farther, the farthest two are corners and stand across.
  Conditions: as each theorem states them.
-/
import Derived.Test.YtipiamhnngmjmaaDoorAc9
import Derived.Test.YtipiamhnngmjmaaDoorNr8
namespace Go.Proofs.YtipiamhnngmjmaaDoor
open Go.RowKit
set_option linter.unusedVariables false
theorem sl_tPN {a b c : Int × Int} (ha : gp a) (hb : gp b) (hc : gp c) : slB a b c = tP a b c := slB_eq ha hb hc
theorem hull_slN {s : List (Int × Int)} (h : allG s) : hullB slB s = hullB tP s := hullB_congr fun a ha b hb c hc => sl_tPN (h a ha) (h b hb) (h c hc)
theorem hulN {s : List (Int × Int)} (hG : goodL s = true) : hulL s = hullB tP s := by unfold hulL; rw [if_pos hG]; exact hull_slN (goodL_all hG)
theorem hulN_gh {s : List (Int × Int)} (hG : goodL s = true) (hl : s.length ≤ 30) : ghB (hulL s) = true := by
  have hA := goodL_all hG
  have hr : Rise s := goodL_rises hG
  have hAh : allG (hullB tP s) := fun p hp => hA p (hullB_mem hp)
  have hlen : (hullB tP s).length ≤ 60 := by have := hullB_len (t := tP) s; omega
  rw [hulN hG]
  unfold ghB
  rw [Bool.and_eq_true, Bool.and_eq_true, decide_eq_true_iff, decide_eq_true_iff]
  exact ⟨(allGood_iff _).2 fun i hi => hAh _ (pt_mem hi), hlen, by rw [hull_slN (fromL_all hAh)]; exact hull_own hr⟩
/-- The best is at least as good as all. -/
theorem bst_best (k : Int) (cs : List ((Int × Int) × (Int × Int))) : ∀ s, k * apc (cs.foldl (bstep k) s) ≤ k * apc s ∧ ∀ c, c ∈ cs → k * apc (cs.foldl (bstep k) s) ≤ k * apc c := by
  induction cs with
  | nil => exact fun s => ⟨Int.le_refl _, fun c hc => by cases hc⟩
  | cons c t ih =>
    intro s
    have h := ih (bstep k s c)
    have h1 : k * apc (bstep k s c) ≤ k * apc s ∧ k * apc (bstep k s c) ≤ k * apc c := by
      have e : k * (apc c - apc s) = k * apc c - k * apc s := Int.mul_sub _ _ _
      unfold bstep
      show k * apc (if k * (apc c - apc s) < 0 then c else s) ≤ _ ∧ k * apc (if k * (apc c - apc s) < 0 then c else s) ≤ _
      split <;> constructor <;> omega
    rw [List.foldl_cons]
    refine ⟨Int.le_trans h.1 h1.1, fun x hx => ?_⟩
    rcases List.mem_cons.1 hx with rfl | hx
    · exact Int.le_trans h.1 h1.2
    · exact h.2 x hx
theorem prs_of {l : List (Int × Int)} {j i : Nat} (hji : j < i) (hi : i < l.length) : (pt l j, pt l i) ∈ prs l := by
  have e : l = l.take i ++ l.drop i := (List.take_append_drop i l).symm
  rw [e, prs_append]
  refine .inr (.inr ⟨?_, ?_⟩)
  · rw [← e, pt_get (show j < l.length by omega)]
    exact List.mem_take_iff_getElem.2 ⟨j, by omega, rfl⟩
  · rw [← e, pt_get hi, List.drop_eq_getElem_cons hi]
    exact List.mem_cons_self
theorem rise_ne {s : List (Int × Int)} (hr : Rise s) {i j : Nat} (hij : i < j) (hj : j < s.length) : pt s i ≠ pt s j := by
  obtain ⟨d, rfl⟩ : ∃ d, j = i + d + 1 := ⟨j - i - 1, by omega⟩
  have := of_decide_eq_true (rises_lt hr d i (by omega))
  intro e
  have e1 : px s i = px s (i + d + 1) := congrArg Prod.fst e
  have e2 : py s i = py s (i + d + 1) := congrArg Prod.snd e
  omega
theorem apF_pos {p q : Int × Int} (h : p ≠ q) : 0 < apF p q := by
  have h1 := sq_nn (q.1 - p.1)
  have h2 := sq_nn (q.2 - p.2)
  unfold apF
  by_cases k : (q.1 - p.1) * (q.1 - p.1) + (q.2 - p.2) * (q.2 - p.2) = 0
  · have z1 : (q.1 - p.1) * (q.1 - p.1) = 0 := by omega
    have z2 : (q.2 - p.2) * (q.2 - p.2) = 0 := by omega
    have y1 : q.1 - p.1 = 0 := by rcases Int.mul_eq_zero.1 z1 with z | z <;> exact z
    have y2 : q.2 - p.2 = 0 := by rcases Int.mul_eq_zero.1 z2 with z | z <;> exact z
    exact absurd (Prod.ext (by omega) (by omega)) h
  · omega
/-- Where none is farther from d than c, all lie on d's side of c. -/
theorem far_side {c d q : Int × Int} (h : apF d q ≤ apF d c) : apF c q ≤ 2 * dt (vec c d) (vec c q) := by
  unfold apF at h
  unfold apF dt vec
  simp only
  grind
/-- At a right angle to the way from c to d. -/
def prp (c d : Int × Int) : Int × Int := (d.2 - c.2, 0 - (d.1 - c.1))
theorem cx_prp (c d v : Int × Int) : cx (prp c d) v = dt (vec c d) v := by unfold cx prp dt vec; grind
theorem ng_prp (c d : Int × Int) : ng (prp c d) = prp d c := by
  unfold ng prp
  exact Prod.ext (by simp only; omega) (by simp only; omega)
theorem prp_ne {c d : Int × Int} (h : c ≠ d) : prp c d ≠ (0, 0) := fun e => h (by
  have e1 := congrArg Prod.fst e
  have e2 := congrArg Prod.snd e
  simp only [prp] at e1 e2
  exact Prod.ext (by omega) (by omega))
/-- A point from which another one is farthest is a corner. -/
theorem far_ext {s : List (Int × Int)} {c d : Int × Int} (h : ∀ q, q ∈ s → apF d q ≤ apF d c) : Ext s c :=
  ⟨prp c d, fun q hq hn => .inl (by
    have h1 := far_side (h q hq)
    have h2 := apF_pos (fun e => hn e.symm : c ≠ q)
    rw [cx_prp]; omega)⟩
theorem sidN_eq {h : List (Int × Int)} (h3 : 3 ≤ h.length) {k : Nat} (hk : k < h.length) : ∃ j, j < h.length ∧ sidE h k = vec (pt h j) (pt h k) := by
  refine ⟨(k + h.length - 1) % h.length, Nat.mod_lt _ (by omega), ?_⟩
  unfold sidE sid
  rw [Nat.mod_add_mod, show k + h.length - 1 + 1 = k + h.length by omega, Nat.add_mod_right, Nat.mod_eq_of_lt hk]
theorem far_held {h : List (Int × Int)} (h3 : 3 ≤ h.length) {i : Nat} (hi : i < h.length) {d : Int × Int} (H : ∀ q, q ∈ h → apF d q ≤ apF d (pt h i)) : hldI (sidE h i) (sid h i) (prp (pt h i) d) = true := by
  have hv : ∀ q, q ∈ h → 0 ≤ cx (prp (pt h i) d) (vec (pt h i) q) := fun q hq => by
    have h1 := far_side (H q hq)
    have h2 := apF_nn (pt h i) q
    rw [cx_prp]; omega
  obtain ⟨j, hj, e⟩ := sidN_eq h3 hi
  refine (hldI_iff _ _ _).2 ⟨?_, ?_⟩
  · rw [e]
    have := hv _ (pt_mem hj)
    have e2 : cx (vec (pt h j) (pt h i)) (prp (pt h i) d) = cx (prp (pt h i) d) (vec (pt h i) (pt h j)) := by unfold cx vec; grind
    omega
  · exact hv _ (pt_mem (Nat.mod_lt _ (by omega)))
theorem far_across {h : List (Int × Int)} (hg : ghB h = true) (h3 : 3 ≤ h.length) {i j : Nat} (hi : i < h.length) (hj : j < h.length) (hne : pt h i ≠ pt h j) (H1 : ∀ q, q ∈ h → apF (pt h j) q ≤ apF (pt h j) (pt h i)) (H2 : ∀ q, q ∈ h → apF (pt h i) q ≤ apF (pt h i) (pt h j)) : acB h i j = true := by
  have ht := gh_turns hg h3
  refine four_of (ht i hi) (ht j hj) (prp_ne hne) (far_held h3 hi H1) ?_
  rw [ng_prp]
  exact far_held h3 hj H2
theorem acRow_mem {h : List (Int × Int)} {i : Nat} : ∀ {m d : Nat}, d < m → acB h i (i + 1 + d) = true → [(i : Int), ((i + 1 + d : Nat) : Int)] ∈ acRow h i m
  | m + 1, d, hd, e => by
    rw [acRow, List.mem_append]
    by_cases k : d = m
    · subst k; rw [if_pos e]; exact .inr (by simp)
    · exact .inl (acRow_mem (by omega) e)
theorem acTo_mem {h : List (Int × Int)} {i j : Nat} (hij : i < j) (hj : j < h.length) (e : acB h i j = true) : ∀ {n : Nat}, i < n → [(i : Int), (j : Int)] ∈ acTo h n
  | n + 1, hn => by
    rw [acTo, List.mem_append]
    by_cases k : i = n
    · subst k
      obtain ⟨d, rfl⟩ : ∃ d, j = i + 1 + d := ⟨j - i - 1, by omega⟩
      exact .inr (acRow_mem (by omega) e)
    · exact .inl (acTo_mem hij hj e (by omega))
theorem acRow_shape {h : List (Int × Int)} {i : Nat} : ∀ {m : Nat}, i + m < h.length → ∀ x, x ∈ acRow h i m → ∃ a b : Nat, x = [(a : Int), (b : Int)] ∧ a < b ∧ b < h.length
  | 0, _ => fun x hx => by cases hx
  | m + 1, hm => fun x hx => by
    rw [acRow, List.mem_append] at hx
    rcases hx with hx | hx
    · exact acRow_shape (by omega) x hx
    · split at hx
      · simp at hx; exact ⟨i, i + 1 + m, by rw [hx]; simp, by omega, by omega⟩
      · cases hx
theorem acTo_shape {h : List (Int × Int)} : ∀ {n : Nat}, n ≤ h.length → ∀ x, x ∈ acTo h n → ∃ a b : Nat, x = [(a : Int), (b : Int)] ∧ a < b ∧ b < h.length
  | 0, _ => fun x hx => by cases hx
  | n + 1, hn => fun x hx => by
    rw [acTo, List.mem_append] at hx
    rcases hx with hx | hx
    · exact acTo_shape (by omega) x hx
    · exact acRow_shape (by omega) x hx
theorem acV_shape {h : List (Int × Int)} {k : Nat} (hk : k < (acV h).length) : ∃ a b : Nat, nthI (acV h) k = [(a : Int), (b : Int)] ∧ a < b ∧ b < h.length := by
  have hm : nthI (acV h) k ∈ acV h := by unfold nthI; rw [List.getD_eq_getElem?_getD, List.getElem?_eq_getElem hk]; exact List.getElem_mem hk
  have h2 : ∀ x, x ∈ acV h → ∃ a b : Nat, x = [(a : Int), (b : Int)] ∧ a < b ∧ b < h.length := by
    unfold acV
    split
    · exact acTo_shape (Nat.le_refl _)
    · intro x hx; cases hx
  exact h2 _ hm
/-- The k-th one is that pair, either way. -/
def Hit (L : List (List Int)) (h : List (Int × Int)) (c d : Int × Int) (k : Nat) : Prop := ∃ a b : Nat, nthI L k = [(a : Int), (b : Int)] ∧ ((pt h a = c ∧ pt h b = d) ∨ (pt h a = d ∧ pt h b = c))
theorem near_law {s : List (Int × Int)} (hO : bsOk s = true) (hl : s.length ≤ 13) {e0 e1 e2 e3 f0 f1 f2 f3 : Int} (hE : bsV 1 s = ((e0, e1), (e2, e3))) (hF : bsV (-1) s = ((f0, f1), (f2, f3))) :
    (apOk e0 e1 e2 e3 = true ∧ apV e0 e1 e2 e3 = nhV s ∧ apOk f0 f1 f2 f3 = true ∧ nhV s ≤ apV f0 f1 f2 f3) ∧
    (∀ i j, j < i → i < s.length → apOk (px s i) (py s i) (px s j) (py s j) = true ∧ nhV s ≤ apV (px s i) (py s i) (px s j) (py s j) ∧ apV (px s i) (py s i) (px s j) (py s j) ≤ apV f0 f1 f2 f3) ∧
    goodL s = true ∧ (f0, f1) ∈ hulL s ∧ (f2, f3) ∈ hulL s ∧
    (acOk (hulL s) = true → ∃ k, k < (acV (hulL s)).length ∧ Hit (acV (hulL s)) (hulL s) (f0, f1) (f2, f3) k) := by
  obtain ⟨hG, h2⟩ := bsOk_parts hO
  have hA := goodL_all hG
  have hr : Rise s := goodL_rises hG
  have E : bst 1 s = ((e0, e1), (e2, e3)) := by rw [← hE]; unfold bsV; rw [if_pos hO]
  have F : bst (-1) s = ((f0, f1), (f2, f3)) := by rw [← hF]; unfold bsV; rw [if_pos hO]
  have gE := bst_gp (k := 1) hA h2
  have gF := bst_gp (k := -1) hA h2
  have mF := bst_mem (k := -1) h2
  rw [E] at gE
  rw [F] at gF mF
  have hn : nhV s = apF (e0, e1) (e2, e3) := by unfold nhV; rw [if_pos hO, E]; rfl
  have oE : apOk e0 e1 e2 e3 = true := by unfold apOk; rw [show goodB e0 e1 = true from gE.1, show goodB e2 e3 = true from gE.2]; rfl
  have oF : apOk f0 f1 f2 f3 = true := by unfold apOk; rw [show goodB f0 f1 = true from gF.1, show goodB f2 f3 = true from gF.2]; rfl
  have vE : apV e0 e1 e2 e3 = apF (e0, e1) (e2, e3) := by unfold apV; rw [if_pos oE]
  have vF : apV f0 f1 f2 f3 = apF (f0, f1) (f2, f3) := by unfold apV; rw [if_pos oF]
  have lo : ∀ c, c ∈ prs s → apF (e0, e1) (e2, e3) ≤ apF c.1 c.2 := fun c hc => by
    have := (bst_best 1 (prs s) (pt s 0, pt s 1)).2 c hc
    have e : apc ((prs s).foldl (bstep 1) (pt s 0, pt s 1)) = apF (e0, e1) (e2, e3) := by show apc (bst 1 s) = _; rw [E]; rfl
    rw [e, Int.one_mul, Int.one_mul] at this
    exact this
  have hi : ∀ c, c ∈ prs s → apF c.1 c.2 ≤ apF (f0, f1) (f2, f3) := fun c hc => by
    have := (bst_best (-1) (prs s) (pt s 0, pt s 1)).2 c hc
    have e : apc ((prs s).foldl (bstep (-1)) (pt s 0, pt s 1)) = apF (f0, f1) (f2, f3) := by show apc (bst (-1) s) = _; rw [F]; rfl
    rw [e] at this
    have e2 : apc c = apF c.1 c.2 := rfl
    omega
  have hiA : ∀ p, p ∈ s → ∀ q, q ∈ s → apF p q ≤ apF (f0, f1) (f2, f3) := fun p hp q hq => by
    obtain ⟨i, hi1, rfl⟩ := mem_pt hp
    obtain ⟨j, hj1, rfl⟩ := mem_pt hq
    rcases Nat.lt_trichotomy i j with k | k | k
    · exact hi _ (prs_of k hj1)
    · subst k
      have : apF (pt s i) (pt s i) = 0 := by unfold apF; grind
      have := apF_nn (f0, f1) (f2, f3)
      omega
    · rw [apF_comm]; exact hi _ (prs_of k hi1)
  obtain ⟨mc, md⟩ := prs_mem mF
  have mc : (f0, f1) ∈ s := mc
  have md : (f2, f3) ∈ s := md
  have pos : 0 < apF (f0, f1) (f2, f3) := by
    have h1 := hi _ (prs_of (l := s) (j := 0) (i := 1) (by omega) (by omega))
    have h2 := apF_pos (rise_ne hr (i := 0) (j := 1) (by omega) (by omega))
    exact Int.lt_of_lt_of_le h2 h1
  have ne : (f0, f1) ≠ (f2, f3) := fun e => by
    rw [e] at pos
    have : apF (f2, f3) (f2, f3) = 0 := by unfold apF; grind
    omega
  have H1 : ∀ q, q ∈ s → apF (f2, f3) q ≤ apF (f2, f3) (f0, f1) := fun q hq => by rw [apF_comm (f2, f3) (f0, f1)]; exact hiA _ md q hq
  have H2 : ∀ q, q ∈ s → apF (f0, f1) q ≤ apF (f0, f1) (f2, f3) := fun q hq => hiA _ mc q hq
  have kc : (f0, f1) ∈ hulL s := by rw [hulN hG]; exact ext_hull hr mc (far_ext H1)
  have kd : (f2, f3) ∈ hulL s := by rw [hulN hG]; exact ext_hull hr md (far_ext H2)
  have sub : ∀ q, q ∈ hulL s → q ∈ s := fun q hq => by rw [hulN hG] at hq; exact hullB_mem hq
  refine ⟨⟨oE, by rw [vE, hn], oF, ?_⟩, fun i j hji hil => ?_, hG, kc, kd, fun hac => ?_⟩
  · rw [hn, vF]; exact lo _ mF
  · have hj : j < s.length := by omega
    have g1 : goodB (px s i) (py s i) = true := hA _ (pt_mem hil)
    have g2 : goodB (px s j) (py s j) = true := hA _ (pt_mem hj)
    have o : apOk (px s i) (py s i) (px s j) (py s j) = true := by unfold apOk; rw [g1, g2]; rfl
    have v : apV (px s i) (py s i) (px s j) (py s j) = apF (pt s j) (pt s i) := by unfold apV; rw [if_pos o, apF_comm]; rfl
    rw [v, hn, vF]
    exact ⟨o, lo _ (prs_of hji hil), hi _ (prs_of hji hil)⟩
  · have hg : ghB (hulL s) = true := hulN_gh hG (by omega)
    have h3 : 3 ≤ (hulL s).length := by
      unfold acOk at hac
      rw [Bool.and_eq_true] at hac
      exact of_decide_eq_true hac.2
    obtain ⟨i, hi1, ei⟩ := mem_pt kc
    obtain ⟨j, hj1, ej⟩ := mem_pt kd
    have nij : pt (hulL s) i ≠ pt (hulL s) j := by rw [ei, ej]; exact ne
    have A1 : acB (hulL s) i j = true := far_across hg h3 hi1 hj1 nij (fun q hq => by rw [ei, ej]; exact H1 q (sub q hq)) (fun q hq => by rw [ei, ej]; exact H2 q (sub q hq))
    have A2 : acB (hulL s) j i = true := far_across hg h3 hj1 hi1 (fun e => nij e.symm) (fun q hq => by rw [ei, ej]; exact H2 q (sub q hq)) (fun q hq => by rw [ei, ej]; exact H1 q (sub q hq))
    have eV : acV (hulL s) = acTo (hulL s) (hulL s).length := by unfold acV; rw [if_pos hac]
    have fin : ∀ a b : Nat, [(a : Int), (b : Int)] ∈ acV (hulL s) → ((pt (hulL s) a = (f0, f1) ∧ pt (hulL s) b = (f2, f3)) ∨ (pt (hulL s) a = (f2, f3) ∧ pt (hulL s) b = (f0, f1))) → ∃ k, k < (acV (hulL s)).length ∧ Hit (acV (hulL s)) (hulL s) (f0, f1) (f2, f3) k := fun a b hm hp => by
      obtain ⟨k, hk, e⟩ := List.getElem_of_mem hm
      refine ⟨k, hk, a, b, ?_, hp⟩
      unfold nthI
      rw [List.getD_eq_getElem?_getD, List.getElem?_eq_getElem hk, e]
      rfl
    rcases Nat.lt_trichotomy i j with k | k | k
    · exact fin i j (by rw [eV]; exact acTo_mem k hj1 A1 hi1) (.inl ⟨ei, ej⟩)
    · exact absurd (by rw [k]) nij
    · exact fin j i (by rw [eV]; exact acTo_mem k hi1 A2 hj1) (.inr ⟨ej, ei⟩)
end Go.Proofs.YtipiamhnngmjmaaDoor
