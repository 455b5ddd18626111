/-
  From outside a hull lies within a half plane; a point put in is a corner of the hull just where it is outside or was one (no walk in it).
  Conditions: as each theorem states them.
-/
import Derived.Test.YtipiamhnngmjmaaDoorHFan
namespace Go.Proofs.YtipiamhnngmjmaaDoor
set_option linter.unusedVariables false
set_option maxRecDepth 8000
section
variable {s h : List (Int × Int)} {q : Int × Int}
theorem pos_back {q p : Int × Int} (hne : p ≠ q) : Pos (vec p q) (vec q p) := by
  right
  refine ⟨by unfold cx vec; grind, ?_⟩
  have := dd_pos (vec_ne hne)
  have e : dt (vec p q) (vec q p) = - dt (vec q p) (vec q p) := by unfold dt vec; grind
  omega
/-- Outside, all points of the ring are within a half plane. -/
theorem Ring.out (H : Ring s h) (hn : ¬ InP h q) : ∃ d, ∀ p, p ∈ h → Pos d (vec q p) := by
  have h1 := H.one
  by_cases h3 : 3 ≤ h.length
  · rw [(H.poly h3).in_iff] at hn
    obtain ⟨i, hi⟩ := Classical.not_forall.1 hn
    obtain ⟨hi, hs⟩ := Classical.not_imp.1 hi
    refine ⟨vec (pt h i) (pt h ((i + 1) % h.length)), fun p hp => .inl ?_⟩
    have l := H.left (by omega) hi (H.sub p hp)
    have e : cx (vec (pt h i) (pt h ((i + 1) % h.length))) (vec q p) = sd (pt h i) (pt h ((i + 1) % h.length)) p - sd (pt h i) (pt h ((i + 1) % h.length)) q := by unfold cx sd vec; grind
    omega
  · by_cases h2 : h.length = 2
    · have hm : ∀ p, p ∈ h → p = pt h 0 ∨ p = pt h 1 := fun p hp => by
        obtain ⟨i, hi, rfl⟩ := mem_pt hp
        rcases (show i = 0 ∨ i = 1 by omega) with e | e
        · rw [e]; exact .inl rfl
        · rw [e]; exact .inr rfl
      have hon : ¬ OnS (pt h 0) (pt h 1) q := fun ho => hn (.inl ⟨0, by omega, by rw [h2]; exact ho⟩)
      obtain ⟨a, ea⟩ : ∃ a, pt h 0 = a := ⟨_, rfl⟩
      obtain ⟨b, eb⟩ : ∃ b, pt h 1 = b := ⟨_, rfl⟩
      rw [ea, eb] at hon
      rw [ea, eb] at hm
      by_cases hs : sd a b q = 0
      · have hd : dt (vec a q) (vec q b) < 0 := by
          apply Classical.byContradiction
          intro hh
          exact hon ⟨hs, by omega⟩
        have ha : a ≠ q := fun e => by
          rw [e] at hd
          have : dt (vec q q) (vec q b) = 0 := by unfold dt vec; grind
          omega
        refine ⟨vec a q, fun p hp => ?_⟩
        rcases hm p hp with rfl | rfl
        · exact pos_back ha
        · right
          refine ⟨?_, hd⟩
          have : cx (vec a q) (vec q p) = - sd a p q := by unfold cx sd vec; grind
          omega
      · rcases Int.lt_or_gt_of_ne hs with hs | hs
        · refine ⟨vec a b, fun p hp => .inl ?_⟩
          rcases hm p hp with rfl | rfl
          · have : cx (vec p b) (vec q p) = - sd p b q := by unfold cx sd vec; grind
            omega
          · have : cx (vec a p) (vec q p) = - sd a p q := by unfold cx sd vec; grind
            omega
        · refine ⟨vec b a, fun p hp => .inl ?_⟩
          rcases hm p hp with rfl | rfl
          · have : cx (vec b p) (vec q p) = sd p b q := by unfold cx sd vec; grind
            omega
          · have : cx (vec p a) (vec q p) = sd a p q := by unfold cx sd vec; grind
            omega
    · have h1' : h.length = 1 := by omega
      have hq : pt h 0 ≠ q := fun e => hn (.inl ⟨0, by omega, by
        rw [h1', ← e]
        refine ⟨by unfold sd; grind, ?_⟩
        have : dt (vec (pt h 0) (pt h 0)) (vec (pt h 0) (pt h ((0 + 1) % 1))) = 0 := by unfold dt vec; grind
        omega⟩)
      refine ⟨vec (pt h 0) q, fun p hp => ?_⟩
      obtain ⟨i, hi, rfl⟩ := mem_pt hp
      rw [show i = 0 by omega]
      exact pos_back hq
/-- A point in the ring with all others within a half plane is one of its points. -/
theorem Ring.corner (H : Ring s h) (hi : InP h q) (hE : ∃ d, ∀ p, p ∈ h → p ≠ q → Pos d (vec q p)) : q ∈ h := by
  obtain ⟨d, hd⟩ := hE
  apply Classical.byContradiction
  intro hn
  have ne : ∀ i, i < h.length → pt h i ≠ q := fun i hi e => hn (e ▸ pt_mem hi)
  have lt : ∀ i, i % h.length < h.length := fun i => H.lt i
  rcases hi with ⟨i, hi, ho⟩ | ⟨h3, hp⟩
  · have p1 := hd _ (pt_mem hi) (ne i hi)
    have p2 := hd _ (pt_mem (lt (i + 1))) (ne _ (lt (i + 1)))
    obtain ⟨o1, o2⟩ := ho
    have z : cx (vec q (pt h i)) (vec q (pt h ((i + 1) % h.length))) = 0 := by
      have : cx (vec q (pt h i)) (vec q (pt h ((i + 1) % h.length))) = sd (pt h i) (pt h ((i + 1) % h.length)) q := by unfold cx sd vec; grind
      omega
    have s1 := same_ray p1 p2 z
    have e : dt (vec (pt h i) q) (vec q (pt h ((i + 1) % h.length))) = - dt (vec q (pt h i)) (vec q (pt h ((i + 1) % h.length))) := by unfold dt vec; grind
    omega
  · obtain ⟨k, k1, k2, hk⟩ := (H.fan_iff (q := q) h3).1 (.inr ⟨h3, hp⟩)
    have T := H.fan h3 k1 k2
    obtain ⟨a1, a2, a3⟩ := (tri_in T).1 hk
    have p0 := hd _ (pt_mem (i := 0) (by omega)) (ne 0 (by omega))
    have p1 := hd _ (pt_mem (i := k) (by omega)) (ne k (by omega))
    have p2 := hd _ (pt_mem k2) (ne _ k2)
    generalize pt h 0 = a at *
    generalize pt h k = b at *
    generalize pt h (k + 1) = c at *
    have hsum : sd a b c = sd b c q + sd c a q + sd a b q := by unfold sd; grind
    have e1 : sd b c q * cx d (vec q a) + sd c a q * cx d (vec q b) + sd a b q * cx d (vec q c) = 0 := by unfold sd cx vec; grind
    have e2 : sd b c q * dt d (vec q a) + sd c a q * dt d (vec q b) + sd a b q * dt d (vec q c) = 0 := by unfold sd dt vec; grind
    have m1 := Int.mul_nonneg a2 p0.nn
    have m2 := Int.mul_nonneg a3 p1.nn
    have m3 := Int.mul_nonneg a1 p2.nn
    have z1 : sd b c q * cx d (vec q a) = 0 := by omega
    have z2 : sd c a q * cx d (vec q b) = 0 := by omega
    have z3 : sd a b q * cx d (vec q c) = 0 := by omega
    have neg : ∀ (w : Int) (v : Int × Int), Pos d v → 0 ≤ w → w * cx d v = 0 → w * dt d v ≤ 0 ∧ (w * dt d v = 0 → w = 0) := fun w v pv hw hz => by
      rcases Int.mul_eq_zero.1 hz with e | e
      · rw [e]; simp
      · have hv : dt d v < 0 := by
          rcases pv with pv | pv
          · omega
          · exact pv.2
        refine ⟨?_, fun e2 => ?_⟩
        · have := Int.mul_nonneg hw (show 0 ≤ - dt d v by omega)
          rw [Int.mul_neg] at this
          omega
        · rcases Int.mul_eq_zero.1 e2 with e3 | e3
          · exact e3
          · omega
    obtain ⟨n1, n1'⟩ := neg _ _ p0 a2 z1
    obtain ⟨n2, n2'⟩ := neg _ _ p1 a3 z2
    obtain ⟨n3, n3'⟩ := neg _ _ p2 a1 z3
    have w1 := n1' (by omega)
    have w2 := n2' (by omega)
    have w3 := n3' (by omega)
    omega
end
/-- Put in, a point that is not outside leaves the hull as it was. -/
theorem put_in {h : List (Int × Int)} {q : Int × Int} (hg : hullB tP (fromL h) = h) (hne : h ≠ []) (hi : InP h q) : hullB tP (fromL (h ++ [q])) = h := by
  have hf : fromL h ≠ [] := fromL_ne hne
  have H : Ring (fromL h) h := by have := hull_ring (fromL_rise h) hf; rwa [hg] at this
  have key := hull_sub (s := fromL (h ++ [q])) (s' := fromL h) (fromL_rise _) (fromL_rise _) (fun p hp => (fromL_iff _ _).2 (List.mem_append_left _ ((fromL_iff _ _).1 hp))) (fun p hp => ?_)
  · rw [← key, hg]
  · obtain ⟨h1, h2⟩ := hull_ext (fromL_rise _) hp
    rcases List.mem_append.1 ((fromL_iff _ _).1 h1) with h3 | h3
    · exact (fromL_iff _ _).2 h3
    · simp at h3
      subst h3
      obtain ⟨d, hd⟩ := h2
      exact (fromL_iff _ _).2 (H.corner hi ⟨d, fun x hx hxp => hd x ((fromL_iff _ _).2 (List.mem_append_left _ hx)) hxp⟩)
/-- Put in, a point outside is a corner. -/
theorem put_out {h : List (Int × Int)} {q : Int × Int} (hg : hullB tP (fromL h) = h) (hne : h ≠ []) (hi : ¬ InP h q) : q ∈ hullB tP (fromL (h ++ [q])) ∧ q ∉ h := by
  have hf : fromL h ≠ [] := fromL_ne hne
  have H : Ring (fromL h) h := by have := hull_ring (fromL_rise h) hf; rwa [hg] at this
  obtain ⟨d, hd⟩ := H.out hi
  refine ⟨ext_hull (fromL_rise _) ((fromL_iff _ _).2 (by simp)) ⟨d, fun p hp hpq => ?_⟩, fun hq => ?_⟩
  · rcases List.mem_append.1 ((fromL_iff _ _).1 hp) with h3 | h3
    · exact hd p h3
    · exact absurd (by simpa using h3) hpq
  · exact hi (H.inside ((fromL_iff _ _).2 hq))
/-- A good hull has its ring. -/
theorem own_ring {h : List (Int × Int)} (hg : hullB tP (fromL h) = h) (hne : h ≠ []) : Ring (fromL h) h := by
  have := hull_ring (fromL_rise h) (fromL_ne hne)
  rwa [hg] at this
end Go.Proofs.YtipiamhnngmjmaaDoor
