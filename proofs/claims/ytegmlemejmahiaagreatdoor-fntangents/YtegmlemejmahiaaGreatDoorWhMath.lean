/-
  What the law of hulls and points asks (plain).
  Conditions: as each theorem states them.
-/
import Derived.Test.YtegmlemejmahiaaGreatDoorInQ
import Derived.Test.YtegmlemejmahiaaGreatDoorFan4
import Derived.Test.YtegmlemejmahiaaGreatDoorHOut
namespace Go.Proofs.YtegmlemejmahiaaGreatDoor
open Go.RowKit Go.Shelf
set_option linter.unusedVariables false
set_option maxRecDepth 8000
theorem sideOk_swap (ax ay bx b_y qx qy : Int) : sideOk bx b_y ax ay qx qy = sideOk ax ay bx b_y qx qy := by
  unfold sideOk
  rw [Bool.and_comm (goodB bx b_y)]
theorem sgB_swap (ax ay bx b_y qx qy : Int) : sgB bx b_y ax ay qx qy = sgB ax ay bx b_y qx qy := by
  unfold sgB
  rw [sideOk_swap]
  cases h : sideOk ax ay bx b_y qx qy
  · rfl
  · unfold sideOk at h
    rw [Bool.and_eq_true, Bool.and_eq_true] at h
    rw [Bool.true_and, Bool.true_and, Bool.eq_iff_iff, onB_iff (a := (bx, b_y)) (b := (ax, ay)) (q := (qx, qy)) h.1.2 h.1.1 h.2, onB_iff (a := (ax, ay)) (b := (bx, b_y)) (q := (qx, qy)) h.1.1 h.1.2 h.2]
    exact OnS.swap (a := (bx, b_y)) (b := (ax, ay)) (q := (qx, qy))
theorem rim_where {h : List (Int × Int)} {x y : Int} (hk : whOk h x y = true) (h2 : 1 < h.length) : rmB h x y = (whV h x y == 1) := by
  have e1 : rmOk h x y = true := by unfold rmOk; rw [hk, decide_eq_true (by omega)]; rfl
  unfold rmB whV
  rw [e1, if_pos hk, Bool.true_and, Bool.eq_iff_iff, ← whS_one]
  simp
theorem hull_slP {s : List (Int × Int)} (h : allG s) : hullB slB s = hullB tP s := hullB_congr fun a ha b hb c hc => slB_eq (h a ha) (h b hb) (h c hc)
theorem gh_ring {h : List (Int × Int)} (hg : ghB h = true) (hne : h ≠ []) : Ring (fromL h) h := by
  have hA := ghB_all hg
  unfold ghB at hg
  rw [Bool.and_eq_true, Bool.and_eq_true, decide_eq_true_iff, decide_eq_true_iff] at hg
  exact own_ring ((hull_slP (fromL_all hA)).symm.trans hg.2.2) hne
/-- What the law asks of the fan of a good hull and a good point. -/
structure Fanned (h : List (Int × Int)) (x y : Int) : Prop where
  ok : fanOk h = true
  fan : fanV h = fanTo h (h.length - 2)
  tri : ∀ j, j < h.length - 2 → triOk (px h 0) (py h 0) (px h (j + 1)) (py h (j + 1)) (px h (j + 2)) (py h (j + 2)) x y = true
  iff : (∃ j, j < h.length - 2 ∧ triV (px h 0) (py h 0) (px h (j + 1)) (py h (j + 1)) (px h (j + 2)) (py h (j + 2)) x y ≠ 0) ↔ whV h x y ≠ 0
theorem fanned {h : List (Int × Int)} {x y : Int} (hk : whOk h x y = true) (h3 : 2 < h.length) : Fanned h x y := by
  have hk' := hk
  unfold whOk at hk'
  rw [Bool.and_eq_true] at hk'
  have hA := ghB_all hk'.1
  have hq : gp (x, y) := hk'.2
  have hR := gh_ring hk'.1 (List.ne_nil_of_length_pos (by omega))
  have hok : fanOk h = true := by unfold fanOk; rw [hk'.1, decide_eq_true (by omega)]; rfl
  have hg : ∀ i, i < h.length → gp (Go.Proofs.YtegmlemejmahiaaGreatDoor.pt h i) := fun i hi => hA.pt hi
  have htl : ∀ j, j < h.length - 2 → tlB (px h 0, py h 0) (px h (j + 1), py h (j + 1)) (px h (j + 2), py h (j + 2)) = true := by
    intro j hj
    have := tlB_eq (hg 0 (by omega)) (hg (j + 1) (by omega)) (hg (j + 2) (by omega))
    refine this.trans (decide_eq_true ?_)
    exact hR.fan (by omega) (k := j + 1) (by omega) (by omega)
  have htri : ∀ j, j < h.length - 2 → triOk (px h 0) (py h 0) (px h (j + 1)) (py h (j + 1)) (px h (j + 2)) (py h (j + 2)) x y = true := by
    intro j hj
    unfold triOk
    rw [htl j hj, hk'.2]
    rfl
  refine ⟨hok, by unfold fanV; rw [if_pos hok], htri, ?_⟩
  have hw : whV h x y ≠ 0 ↔ InP h (x, y) := by unfold whV; rw [if_pos hk]; exact whS_in hA hq
  have ht : ∀ j, j < h.length - 2 → (triV (px h 0) (py h 0) (px h (j + 1)) (py h (j + 1)) (px h (j + 2)) (py h (j + 2)) x y ≠ 0 ↔ InP [Go.Proofs.YtegmlemejmahiaaGreatDoor.pt h 0, Go.Proofs.YtegmlemejmahiaaGreatDoor.pt h (j + 1), Go.Proofs.YtegmlemejmahiaaGreatDoor.pt h (j + 2)] (x, y)) := by
    intro j hj
    unfold triV
    rw [if_pos (htri j hj)]
    exact whS_in (tl_good (htl j hj)) hq
  rw [hw, hR.fan_iff (by omega)]
  constructor
  · rintro ⟨j, hj, h1⟩
    exact ⟨j + 1, by omega, by omega, (ht j hj).1 h1⟩
  · rintro ⟨k, h1, h2, h4⟩
    obtain ⟨j, rfl⟩ : ∃ j, k = j + 1 := ⟨k - 1, by omega⟩
    exact ⟨j, by omega, (ht j (by omega)).2 h4⟩
end Go.Proofs.YtegmlemejmahiaaGreatDoor
