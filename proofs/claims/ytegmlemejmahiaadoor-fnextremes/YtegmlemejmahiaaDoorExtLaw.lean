/-
  What the law of extremes asks (plain).
  Conditions: as each theorem states them.
-/
import Derived.Test.YtegmlemejmahiaaDoorFarMath
namespace Go.Proofs.YtegmlemejmahiaaDoor
open Go.RowKit Go.Shelf
set_option linter.unusedVariables false
theorem ex_mem {l : List (Int × Int)} {x y : Int} (h : exOk l x y = true) : exP l x y ∈ l := by
  unfold exP; rw [if_pos h]
  exact farOf_mem _ (exOk_parts h).2.2.1
theorem su_sc {l : List (Int × Int)} {x y : Int} (h : exOk l x y = true) : scW (x, y) (exP l x y) = suV l x y := by
  unfold suV exP; rw [if_pos h, if_pos h]
theorem ex_le {l : List (Int × Int)} {x y : Int} (h : exOk l x y = true) {p : Int × Int} (hp : p ∈ l) : scW (x, y) p ≤ suV l x y := by
  obtain ⟨h1, _, h2, h3⟩ := exOk_parts h
  have hA := ghB_all h1
  have hd : gp (x, y) := h3
  unfold suV
  rw [if_pos h, scW_eq hd (hA p hp), scW_eq hd (hA _ (farOf_mem _ h2))]
  exact ext_top hd hA h2 hp
theorem ex_across {l : List (Int × Int)} (hg : ghB l = true) {k : Nat} (hk : k < l.length) {x y : Int} (hx : x = wrap64 (py l ((k + 1) % l.length) - py l k)) (hy : y = wrap64 (px l k - px l ((k + 1) % l.length))) (h : exOk l x y = true) :
    suV l x y = scW (x, y) (px l k, py l k) ∧ suV l x y = scW (x, y) (px l ((k + 1) % l.length), py l ((k + 1) % l.length)) := by
  obtain ⟨_, hne, h2, h3⟩ := exOk_parts h
  have hA := ghB_all hg
  have hd : gp (x, y) := h3
  have hm : (k + 1) % l.length < l.length := Nat.mod_lt _ (by omega)
  have g1 := goodB_r (hA.pt hk)
  have g2 := goodB_r (hA.pt hm)
  have hx' : x = (Go.Proofs.YtegmlemejmahiaaDoor.pt l ((k + 1) % l.length)).2 - (Go.Proofs.YtegmlemejmahiaaDoor.pt l k).2 := by
    rw [hx]; refine wrap_in ?_ ?_ <;> (show _ ≤ _; simp only [Go.Proofs.YtegmlemejmahiaaDoor.pt] at *; omega)
  have hy' : y = (Go.Proofs.YtegmlemejmahiaaDoor.pt l k).1 - (Go.Proofs.YtegmlemejmahiaaDoor.pt l ((k + 1) % l.length)).1 := by
    rw [hy]; refine wrap_in ?_ ?_ <;> (show _ ≤ _; simp only [Go.Proofs.YtegmlemejmahiaaDoor.pt] at *; omega)
  have hl2 : 2 ≤ l.length := by
    apply Classical.byContradiction
    intro hn
    have e1 : l.length = 1 := by omega
    have e2 : (k + 1) % l.length = k := by rw [e1]; omega
    rw [e2] at hx' hy'
    have zx : x = 0 := by omega
    have zy : y = 0 := by omega
    unfold exOk at h
    rw [zx, zy] at h
    simp at h
  have hR := gh_ring hg hne
  have hb := farOf_mem (exB (x, y)) h2
  have hs : ∀ p, p ∈ l → p ∈ fromL l := fun p hp => (fromL_iff _ _).2 hp
  have e0 := hR.across hl2 hk (hs _ hb)
  simp only at e0
  rw [← hx', ← hy'] at e0
  have t1 := ext_top hd hA h2 (pt_mem hk)
  have v1 : suV l x y = score (x, y) (farOf (exB (x, y)) l) := by unfold suV; rw [if_pos h, scW_eq hd (hA _ hb)]
  have w1 := scW_eq hd (hA _ (pt_mem hk))
  have w2 := scW_eq hd (hA _ (pt_mem hm))
  refine ⟨?_, ?_⟩
  · refine v1.trans (Eq.trans ?_ w1.symm); omega
  · refine v1.trans (Eq.trans ?_ w2.symm); omega
end Go.Proofs.YtegmlemejmahiaaDoor
