/-
  What the law of what is next asks, in plain words: no point is nearer, and within its distance are all that are no farther.
  Conditions: as each theorem states them.
-/
import Derived.Test.YtipiamhnngmjmaaDoorNr5
namespace Go.Proofs.YtipiamhnngmjmaaDoor
open Go.RowKit
set_option linter.unusedVariables false
theorem nx_min (q : Int × Int) (l : List (Int × Int)) : ∀ s, apF (l.foldl (nstep q) s) q ≤ apF s q ∧ ∀ x, x ∈ l → apF (l.foldl (nstep q) s) q ≤ apF x q := by
  induction l with
  | nil => exact fun s => ⟨Int.le_refl _, fun x hx => by cases hx⟩
  | cons c t ih =>
    intro s
    have h := ih (nstep q s c)
    have h1 : apF (nstep q s c) q ≤ apF s q ∧ apF (nstep q s c) q ≤ apF c q := by
      unfold nstep
      split <;> constructor <;> omega
    rw [List.foldl_cons]
    refine ⟨Int.le_trans h.1 h1.1, fun x hx => ?_⟩
    rcases List.mem_cons.1 hx with rfl | hx
    · exact Int.le_trans h.1 h1.2
    · exact h.2 x hx
theorem nxOk_parts {l : List (Int × Int)} {x y : Int} (h : nxOk l x y = true) : goodL l = true ∧ 0 < l.length ∧ goodB x y = true := by
  unfold nxOk at h
  rw [Bool.and_eq_true, Bool.and_eq_true] at h
  obtain ⟨⟨h1, h2⟩, h3⟩ := h
  refine ⟨h1, ?_, h3⟩
  by_cases k : l.length = 0
  · rw [decide_eq_true k] at h2; cases h2
  · omega
theorem next_law {l : List (Int × Int)} {x y e0 e1 : Int} (h : nxOk l x y = true) (hE : nxV l x y = (e0, e1)) :
    apOk e0 e1 x y = true ∧ wiOk l x y (apV e0 e1 x y) = true ∧ (e0, e1) ∈ wiV l x y (apV e0 e1 x y) ∧
    ∀ j, j < l.length → apOk (px l j) (py l j) x y = true ∧ apV e0 e1 x y ≤ apV (px l j) (py l j) x y ∧ ((px l j, py l j) ∈ wiV l x y (apV e0 e1 x y) ↔ apV (px l j) (py l j) x y = apV e0 e1 x y) := by
  obtain ⟨hG, h0, hq⟩ := nxOk_parts h
  have hA := goodL_all hG
  have e : nxT l (x, y) = (e0, e1) := by rw [← hE]; unfold nxV; rw [if_pos h]
  have hm : (e0, e1) ∈ l := by rw [← e]; exact nx_mem h0
  have hp : goodB e0 e1 = true := hA _ hm
  have ho : apOk e0 e1 x y = true := by unfold apOk; rw [hp, hq]; rfl
  have hv : apV e0 e1 x y = apF (e0, e1) (x, y) := by unfold apV; rw [if_pos ho]
  have hn := apF_nn (e0, e1) (x, y)
  have hw : wiOk l x y (apV e0 e1 x y) = true := by
    unfold wiOk
    rw [hG, hq, decide_eq_true (show 0 ≤ apV e0 e1 x y by omega)]; rfl
  have hW : wiV l x y (apV e0 e1 x y) = wth l (x, y) (apF (e0, e1) (x, y)) := by unfold wiV; rw [if_pos hw, hv]
  have hmem : ∀ p, p ∈ wiV l x y (apV e0 e1 x y) ↔ p ∈ l ∧ apF p (x, y) ≤ apF (e0, e1) (x, y) := fun p => by
    rw [hW]; unfold wth; rw [List.mem_filter, decide_eq_true_eq]
  refine ⟨ho, hw, (hmem _).2 ⟨hm, Int.le_refl _⟩, fun j hj => ?_⟩
  have hj' : (px l j, py l j) ∈ l := pt_mem (l := l) hj
  have hg : goodB (px l j) (py l j) = true := hA _ hj'
  have ho' : apOk (px l j) (py l j) x y = true := by unfold apOk; rw [hg, hq]; rfl
  have hv' : apV (px l j) (py l j) x y = apF (px l j, py l j) (x, y) := by unfold apV; rw [if_pos ho']
  have hle : apF (e0, e1) (x, y) ≤ apF (px l j, py l j) (x, y) := by
    rw [← e]; exact (nx_min (x, y) l _).2 _ hj'
  refine ⟨ho', by rw [hv, hv']; exact hle, ?_⟩
  rw [hmem, hv, hv']
  constructor
  · rintro ⟨_, k⟩; omega
  · intro k; exact ⟨hj', by omega⟩
end Go.Proofs.YtipiamhnngmjmaaDoor
