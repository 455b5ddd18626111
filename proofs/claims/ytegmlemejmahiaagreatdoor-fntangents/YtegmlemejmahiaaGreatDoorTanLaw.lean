/-
  What the law of tangents asks (plain).
  Conditions: as each theorem states them.
-/
import Derived.Test.YtegmlemejmahiaaGreatDoorFarMath
import Derived.Test.YtegmlemejmahiaaGreatDoorSees5
import Derived.Test.YtegmlemejmahiaaGreatDoorPut5
import Derived.Test.YtegmlemejmahiaaGreatDoorIns4
namespace Go.Proofs.YtegmlemejmahiaaGreatDoor
open Go.RowKit Go.Shelf
set_option linter.unusedVariables false
/-- What is asked of a hull and a point outside of it. -/
structure Seen (h : List (Int × Int)) (x y : Int) (a b : Int × Int) : Prop where
  ma : a ∈ h
  mb : b ∈ h
  oka : ∀ i, i < h.length → sideOk x y a.1 a.2 (px h i) (py h i) = true
  okb : ∀ i, i < h.length → sideOk x y b.1 b.2 (px h i) (py h i) = true
  na : ∀ i, i < h.length → 0 ≤ sideN x y a.1 a.2 (px h i) (py h i)
  nb : ∀ i, i < h.length → sideN x y b.1 b.2 (px h i) (py h i) ≤ 0
theorem sideOk_of {x y : Int} {a p : Int × Int} (hq : goodB x y = true) (ha : gp a) (hp : gp p) : sideOk x y a.1 a.2 p.1 p.2 = true := by
  unfold sideOk
  rw [hq, show goodB a.1 a.2 = true from ha, show goodB p.1 p.2 = true from hp]; rfl
theorem sg_nn {n : Int} (h : 0 ≤ n) : 0 ≤ sg n := by unfold sg; split <;> (try split) <;> omega
theorem sg_np {n : Int} (h : n ≤ 0) : sg n ≤ 0 := by unfold sg; split <;> (try split) <;> omega
theorem seen {h : List (Int × Int)} {x y : Int} (hk : tgOk h x y = true) : Seen h x y (tgA h x y (-1)) (tgA h x y 1) := by
  obtain ⟨h1, hne, h2, h3, h4⟩ := tgOk_parts hk
  have hA := ghB_all h1
  have hq : gp (x, y) := h3
  obtain ⟨r1, r2, r3⟩ := tgR (q := (x, y)) h1 hq hne h4
  obtain ⟨s1, s2, s3⟩ := tgL (q := (x, y)) h1 hq hne h4
  have ea : tgA h x y (-1) = farOf (tsB (x, y) (-1)) h := by unfold tgA; rw [if_pos hk, r1]
  have eb : tgA h x y 1 = farOf (tsB (x, y) 1) h := by unfold tgA; rw [if_pos hk, s1]
  rw [ea, eb]
  refine ⟨r2, s2, fun i hi => sideOk_of h3 (hA _ r2) (hA.pt hi), fun i hi => sideOk_of h3 (hA _ s2) (hA.pt hi), fun i hi => ?_, fun i hi => ?_⟩
  · have e := sideN_eq hq (hA _ r2) (hA.pt hi)
    exact Int.le_trans (sg_nn (r3 _ (pt_mem hi))) (Int.le_of_eq e.symm)
  · have e := sideN_eq hq (hA _ s2) (hA.pt hi)
    exact Int.le_trans (Int.le_of_eq e) (sg_np (s3 _ (pt_mem hi)))
theorem gh_tP {h : List (Int × Int)} (hg : ghB h = true) : hullB tP (fromL h) = h := by
  have hA := ghB_all hg
  unfold ghB at hg
  rw [Bool.and_eq_true, Bool.and_eq_true, decide_eq_true_iff, decide_eq_true_iff] at hg
  exact (hull_slP (fromL_all hA)).symm.trans hg.2.2
theorem all_put {l : List (Int × Int)} {x y : Int} (hG : ghB l = true) (hP : goodB x y = true) : allG (l ++ [(x, y)]) := fun p hp => by
  rcases List.mem_append.1 hp with h | h
  · exact ghB_all hG p h
  · simp at h; subst h; exact hP
theorem poH_tP {l : List (Int × Int)} {x y : Int} (hG : ghB l = true) (hP : goodB x y = true) : poH l x y = hullB tP (fromL (l ++ [(x, y)])) := hull_slP (fromL_all (all_put hG hP))
theorem poOk_parts {l : List (Int × Int)} {x y : Int} (h : poOk l x y = true) : ghB l = true ∧ goodB x y = true ∧ (poH l x y).length ≤ 60 := by
  unfold poOk at h
  rw [Bool.and_eq_true, Bool.and_eq_true, decide_eq_true_iff] at h
  exact ⟨h.1.1, h.1.2, h.2⟩
/-- Put in from outside, a point is a corner. -/
theorem put_seen {h : List (Int × Int)} {x y : Int} (hk : tgOk h x y = true) (hp : poOk h x y = true) : (x, y) ∈ poL h x y := by
  obtain ⟨h1, hne, h2, h3, h4⟩ := tgOk_parts hk
  unfold poL
  rw [if_pos hp, poH_tP h1 h3]
  exact (put_out (gh_tP h1) hne (tg_prep (q := (x, y)) h1 h3 hne h4).2.2).1
/-- What is asked of a hull of three points at least, and a point. -/
structure Looked (h : List (Int × Int)) (x y : Int) : Prop where
  ok : whOk h x y = true
  none : decide ((seL h x y).length = 0) = !decide (whV h x y = 0)
theorem seTo_nil {f : Nat → Bool} {k : Nat} : (seTo f k).length = 0 ↔ ∀ i, i < k → f i = false := by
  unfold seTo
  rw [List.length_map, List.length_eq_zero_iff, List.filter_eq_nil_iff]
  constructor
  · intro h i hi
    have := h i (List.mem_range.2 hi)
    simpa using this
  · intro h i hi
    rw [h i (List.mem_range.1 hi)]
    exact Bool.false_ne_true
theorem looked {h : List (Int × Int)} {x y : Int} (hk : seOk h x y = true) : Looked h x y := by
  have hk' := hk
  unfold seOk at hk'
  rw [Bool.and_eq_true, Bool.and_eq_true, decide_eq_true_iff] at hk'
  obtain ⟨⟨h1, h2⟩, h3⟩ := hk'
  have hA := ghB_all h1
  have hq : gp (x, y) := h2
  have hok : whOk h x y = true := by unfold whOk; rw [h1, h2]; rfl
  refine ⟨hok, ?_⟩
  have hR := gh_ring h1 (List.ne_nil_of_length_pos (by omega))
  have e1 : (seL h x y).length = 0 ↔ InP h (x, y) := by
    unfold seL
    rw [if_pos hk, seTo_nil, hR.sees h3]
    refine forall_congr' fun i => imp_congr_right fun hi => ?_
    have g1 := hA.pt hi
    have g2 := hA.nxt hi
    have e := crossW_eq g1 g2 hq
    have s := (sg_pos (sd (Go.Proofs.YtegmlemejmahiaaGreatDoor.pt h i) (Go.Proofs.YtegmlemejmahiaaGreatDoor.pt h ((i + 1) % h.length)) (x, y))).2.2.1
    unfold seB
    rw [decide_eq_false_iff_not]
    constructor
    · intro hn
      apply Classical.byContradiction
      intro hc
      exact hn (by refine (show sg _ < 0 from ?_); rw [show crossW (px h i) (py h i) (px h ((i + 1) % h.length)) (py h ((i + 1) % h.length)) (x, y).1 (x, y).2 = _ from e]; exact s.2 (by omega))
    · intro hn hc
      rw [show crossW (px h i) (py h i) (px h ((i + 1) % h.length)) (py h ((i + 1) % h.length)) (x, y).1 (x, y).2 = _ from e] at hc
      have := s.1 hc
      omega
  have e2 : whV h x y ≠ 0 ↔ InP h (x, y) := by unfold whV; rw [if_pos hok]; exact whS_in hA hq
  rw [Bool.eq_iff_iff, decide_eq_true_iff, e1, ← e2]
  simp
/-- What is asked of what is put in. -/
structure PutIn (h : List (Int × Int)) (x y : Int) : Prop where
  cok : cvOk (poL h x y) h = true
  cov : cvB (poL h x y) h = true
  same : decide (poL h x y = h) = !decide (whV h x y = 0)
theorem putIn {h : List (Int × Int)} {x y : Int} (hk : seOk h x y = true) (hp : poOk h x y = true) : PutIn h x y := by
  obtain ⟨h1, h2, h6⟩ := poOk_parts hp
  have h3 : 3 ≤ h.length := by
    unfold seOk at hk
    rw [Bool.and_eq_true, decide_eq_true_iff] at hk
    exact hk.2
  have hne : h ≠ [] := List.ne_nil_of_length_pos (by omega)
  have hA := ghB_all h1
  have hq : gp (x, y) := h2
  have hAA := fromL_all (all_put h1 h2)
  have hr := fromL_rise (h ++ [(x, y)])
  have hok : whOk h x y = true := by unfold whOk; rw [h1, h2]; rfl
  have e0 : poL h x y = hullB tP (fromL (h ++ [(x, y)])) := by unfold poL; rw [if_pos hp]; exact poH_tP h1 h2
  have hAh : allG (hullB tP (fromL (h ++ [(x, y)]))) := fun p hp => hAA p (hullB_mem hp)
  have hgh : ghB (poL h x y) = true := by
    rw [e0]
    unfold ghB
    rw [Bool.and_eq_true, Bool.and_eq_true, decide_eq_true_iff, decide_eq_true_iff]
    refine ⟨(allGood_iff _).2 fun i hi => hAh.pt hi, ?_, by rw [hull_slP (fromL_all hAh)]; exact hull_own hr⟩
    rw [← poH_tP h1 h2]; exact h6
  have hcok : cvOk (poL h x y) h = true := by unfold cvOk; rw [hgh, h1]; rfl
  have hRg := hull_ring hr (fromL_ne (l := h ++ [(x, y)]) (by simp))
  refine ⟨hcok, ?_, ?_⟩
  · unfold cvB
    rw [hcok, Bool.true_and, allT_iff]
    intro i hi
    unfold inB
    have hin : InP (hullB tP (fromL (h ++ [(x, y)]))) (Go.Proofs.YtegmlemejmahiaaGreatDoor.pt h i) := hRg.inside ((fromL_iff _ _).2 (List.mem_append_left _ (pt_mem hi)))
    have := (whS_in hAh (hA.pt hi)).2 hin
    rw [e0, decide_eq_false (show ¬ whS (hullB tP (fromL (h ++ [(x, y)]))) (px h i, py h i) = 0 from this)]; rfl
  · have e2 : whV h x y ≠ 0 ↔ InP h (x, y) := by unfold whV; rw [if_pos hok]; exact whS_in hA hq
    rw [e0, Bool.eq_iff_iff, decide_eq_true_iff]
    constructor
    · intro e
      have : InP h (x, y) := Classical.byContradiction fun hn => by
        obtain ⟨m1, m2⟩ := put_out (gh_tP h1) hne hn
        rw [e] at m1; exact m2 m1
      have := e2.2 this
      simpa using this
    · intro e
      have : whV h x y ≠ 0 := by simpa using e
      exact put_in (gh_tP h1) hne (e2.1 this)
end Go.Proofs.YtegmlemejmahiaaGreatDoor
