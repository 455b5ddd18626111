/-
  Farthest in a direction, tangents, and what is seen from outside (plain geometry, ahead of its laws).
  Conditions: as each theorem states them.
-/
import Derived.Test.YtegmlemejmahiaaGreatDoorHOut
namespace Go.Proofs.YtegmlemejmahiaaGreatDoor
open Go.RowKit
set_option linter.unusedVariables false
set_option maxRecDepth 8000
/-- Among points of a half plane about q there is one with none to its right. -/
theorem least_turn {d q : Int × Int} : ∀ (l : List (Int × Int)), l ≠ [] → (∀ p, p ∈ l → Pos d (vec q p)) → ∃ a, a ∈ l ∧ ∀ p, p ∈ l → 0 ≤ sd q a p
  | [], h, _ => absurd rfl h
  | [x], _, _ => ⟨x, by simp, fun p hp => by simp at hp; subst hp; rw [sd_end]; exact Int.le_refl _⟩
  | x :: y :: t, _, hP => by
    obtain ⟨a, ha, hA⟩ := least_turn (y :: t) (by simp) (fun p hp => hP p (List.mem_cons_of_mem _ hp))
    by_cases hx : 0 ≤ sd q a x
    · refine ⟨a, List.mem_cons_of_mem _ ha, fun p hp => ?_⟩
      rcases List.mem_cons.1 hp with rfl | hp
      · exact hx
      · exact hA p hp
    · refine ⟨x, by simp, fun p hp => ?_⟩
      rcases List.mem_cons.1 hp with rfl | hp
      · rw [sd_end]; exact Int.le_refl _
      · have h1 : 0 ≤ cx (vec q x) (vec q a) := by
          rw [cx_anti (vec q a) (vec q x), ← sd_cx]; omega
        have h2 : 0 ≤ cx (vec q a) (vec q p) := by rw [← sd_cx]; exact hA p hp
        rw [sd_cx]
        exact tri (hP x (by simp)) (hP a (List.mem_cons_of_mem _ ha)) (hP p (List.mem_cons_of_mem _ hp)) h1 h2
/-- .. and one with none to its left. -/
theorem most_turn {d q : Int × Int} : ∀ (l : List (Int × Int)), l ≠ [] → (∀ p, p ∈ l → Pos d (vec q p)) → ∃ a, a ∈ l ∧ ∀ p, p ∈ l → sd q a p ≤ 0
  | [], h, _ => absurd rfl h
  | [x], _, _ => ⟨x, by simp, fun p hp => by simp at hp; subst hp; rw [sd_end]; exact Int.le_refl _⟩
  | x :: y :: t, _, hP => by
    obtain ⟨a, ha, hA⟩ := most_turn (y :: t) (by simp) (fun p hp => hP p (List.mem_cons_of_mem _ hp))
    by_cases hx : sd q a x ≤ 0
    · refine ⟨a, List.mem_cons_of_mem _ ha, fun p hp => ?_⟩
      rcases List.mem_cons.1 hp with rfl | hp
      · exact hx
      · exact hA p hp
    · refine ⟨x, by simp, fun p hp => ?_⟩
      rcases List.mem_cons.1 hp with rfl | hp
      · rw [sd_end]; exact Int.le_refl _
      · have h1 : 0 ≤ cx (vec q a) (vec q x) := by rw [← sd_cx]; omega
        have h2 : 0 ≤ cx (vec q p) (vec q a) := by
          have := hA p hp
          rw [sd_cx] at this
          rw [cx_anti (vec q a) (vec q p)]
          omega
        have h3 := tri (hP p (List.mem_cons_of_mem _ hp)) (hP a (List.mem_cons_of_mem _ ha)) (hP x (by simp)) h2 h1
        rw [sd_cx, cx_anti (vec q p) (vec q x)]
        omega
/-- From outside a ring both are there. -/
theorem Ring.tangents {s h : List (Int × Int)} {q : Int × Int} (H : Ring s h) (hn : ¬ InP h q) : (∃ a, a ∈ h ∧ ∀ p, p ∈ h → 0 ≤ sd q a p) ∧ ∃ b, b ∈ h ∧ ∀ p, p ∈ h → sd q b p ≤ 0 := by
  obtain ⟨d, hd⟩ := H.out hn
  have hne : h ≠ [] := List.ne_nil_of_length_pos H.one
  exact ⟨least_turn h hne hd, most_turn h hne hd⟩
/-- Two with none to the right lie on one ray. -/
theorem Ring.one_ray {s h : List (Int × Int)} {q a b : Int × Int} (H : Ring s h) (hn : ¬ InP h q) (ha : a ∈ h) (hb : b ∈ h) (h1 : sd q a b = 0) : 0 < dt (vec q a) (vec q b) := by
  obtain ⟨d, hd⟩ := H.out hn
  exact same_ray (hd a ha) (hd b hb) (by rw [← sd_cx]; exact h1)
/-- No side is seen from a point just where it is not outside. -/
theorem Ring.sees {s h : List (Int × Int)} {q : Int × Int} (H : Ring s h) (h3 : 3 ≤ h.length) : InP h q ↔ ∀ i, i < h.length → 0 ≤ sd (pt h i) (pt h ((i + 1) % h.length)) q := (H.poly h3).in_iff
/-- How far a point is in a direction. -/
def score (d p : Int × Int) : Int := d.1 * p.1 + d.2 * p.2
/-- Across a side, both of its ends are farthest. -/
theorem Ring.across {s h : List (Int × Int)} (H : Ring s h) (h2 : 2 ≤ h.length) {i : Nat} (hi : i < h.length) {p : Int × Int} (hp : p ∈ s) :
    let q := pt h i
    let r := pt h ((i + 1) % h.length)
    score (r.2 - q.2, q.1 - r.1) p ≤ score (r.2 - q.2, q.1 - r.1) q ∧ score (r.2 - q.2, q.1 - r.1) r = score (r.2 - q.2, q.1 - r.1) q := by
  have h1 := H.left h2 hi hp
  constructor
  · have e : score ((pt h ((i + 1) % h.length)).2 - (pt h i).2, (pt h i).1 - (pt h ((i + 1) % h.length)).1) (pt h i) - score ((pt h ((i + 1) % h.length)).2 - (pt h i).2, (pt h i).1 - (pt h ((i + 1) % h.length)).1) p = sd (pt h i) (pt h ((i + 1) % h.length)) p := by
      unfold score sd; grind
    show score _ _ ≤ score _ _
    omega
  · show score _ _ = score _ _
    unfold score; grind
end Go.Proofs.YtegmlemejmahiaaGreatDoor
