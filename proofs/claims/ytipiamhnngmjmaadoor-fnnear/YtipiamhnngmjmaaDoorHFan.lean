/-
  A point is in a convex ring just where it is in some triangle of its fan (no walk in it).
  Conditions: as each theorem states them.
-/
import Derived.Test.YtipiamhnngmjmaaDoorHOwnHull
namespace Go.Proofs.YtipiamhnngmjmaaDoor
set_option linter.unusedVariables false
set_option maxRecDepth 8000
/-- In a ring, or on it. -/
def InP (h : List (Int × Int)) (q : Int × Int) : Prop := (∃ i, i < h.length ∧ OnS (pt h i) (pt h ((i + 1) % h.length)) q) ∨ (3 ≤ h.length ∧ ∀ i, i < h.length → 0 < sd (pt h i) (pt h ((i + 1) % h.length)) q)
/-- A ring that turns left, its points to the left of each side. -/
structure Poly (h : List (Int × Int)) : Prop where
  three : 3 ≤ h.length
  turn : ∀ i, i < h.length → 0 < sd (pt h i) (pt h ((i + 1) % h.length)) (pt h ((i + 2) % h.length))
  left : ∀ i j, i < h.length → j < h.length → 0 ≤ sd (pt h i) (pt h ((i + 1) % h.length)) (pt h j)
theorem Ring.poly {s h : List (Int × Int)} (H : Ring s h) (h3 : 3 ≤ h.length) : Poly h :=
  ⟨h3, fun i hi => H.turn h3 hi, fun i j hi hj => H.left (by omega) hi (H.sub _ (pt_mem hj))⟩
theorem tri_len (a b c : Int × Int) : [a, b, c].length = 3 := rfl
theorem tri_poly {a b c : Int × Int} (h : 0 < sd a b c) : Poly [a, b, c] := by
  have h2 : 0 < sd b c a := by rw [sd_turn]; exact h
  have h3 : 0 < sd c a b := by rw [sd_turn, sd_turn]; exact h
  refine ⟨by simp, fun i hi => ?_, fun i j hi hj => ?_⟩
  · rw [tri_len] at hi ⊢
    match i, hi with
    | 0, _ => exact h
    | 1, _ => exact h2
    | 2, _ => exact h3
  · rw [tri_len] at hi hj ⊢
    have z : ∀ x y : Int × Int, 0 ≤ sd x y x ∧ 0 ≤ sd x y y := fun x y => ⟨by rw [sd_start]; omega, by rw [sd_end]; omega⟩
    match i, hi, j, hj with
    | 0, _, 0, _ => exact (z a b).1
    | 0, _, 1, _ => exact (z a b).2
    | 0, _, 2, _ => exact Int.le_of_lt h
    | 1, _, 0, _ => exact Int.le_of_lt h2
    | 1, _, 1, _ => exact (z b c).1
    | 1, _, 2, _ => exact (z b c).2
    | 2, _, 0, _ => exact (z c a).2
    | 2, _, 1, _ => exact Int.le_of_lt h3
    | 2, _, 2, _ => exact (z c a).1
/-- What is on a segment is not to the right where both ends are not. -/
theorem OnS.left {a b q p r : Int × Int} (h : OnS a b q) (ha : 0 ≤ sd p r a) (hb : 0 ≤ sd p r b) : 0 ≤ sd p r q := by
  obtain ⟨h0, h1⟩ := h
  have zc : cx (vec a b) (vec a q) = 0 := h0
  rw [dt_vec (vec a q) a q b, dt_comm (vec a q) (vec a b)] at h1
  have hA := dd_nn (vec a b)
  have hB := dd_nn (vec a q)
  have hl := lagr (vec a b) (vec a q)
  have hr := ray (vec a b) (vec p r) (vec a q) zc
  rw [zc] at hl
  have e1 : sd p r q = sd p r a + cx (vec p r) (vec a q) := by unfold sd cx vec; grind
  have e2 : sd p r b = sd p r a + cx (vec p r) (vec a b) := by unfold sd cx vec; grind
  by_cases hz : vec a b = (0, 0)
  · have t0 : dt (vec a b) (vec a q) = 0 := by rw [hz]; unfold dt; simp
    have v0 := dd_zero (show dt (vec a q) (vec a q) = 0 by omega)
    have : cx (vec p r) (vec a q) = 0 := by rw [v0]; unfold cx; simp
    omega
  · have hAp := dd_pos hz
    obtain ⟨A, eA⟩ : ∃ A, dt (vec a b) (vec a b) = A := ⟨_, rfl⟩
    obtain ⟨B, eB⟩ : ∃ B, dt (vec a q) (vec a q) = B := ⟨_, rfl⟩
    obtain ⟨t, et⟩ : ∃ t, dt (vec a b) (vec a q) = t := ⟨_, rfl⟩
    rw [eA, eB, et] at hl
    rw [eB, et] at h1
    rw [eA, et] at hr
    rw [eA] at hA hAp
    rw [eB] at hB
    have htA : t ≤ A := by
      apply Classical.byContradiction
      intro hn
      have m1 : A * B ≤ A * t := Int.mul_le_mul_of_nonneg_left (by omega) hA
      have m2 : A * t < t * t := Int.mul_lt_mul_of_pos_right (by omega) (by omega)
      omega
    rw [e1]
    have m1 : 0 ≤ (A - t) * sd p r a := Int.mul_nonneg (by omega) ha
    have m2 : 0 ≤ t * sd p r b := Int.mul_nonneg (by omega) hb
    have key : (sd p r a + cx (vec p r) (vec a q)) * A = (A - t) * sd p r a + t * sd p r b := by
      rw [e2, Int.add_mul, hr]
      grind
    exact nn_of_mul (b := A) (by omega) hAp
section
variable {h : List (Int × Int)} {q : Int × Int}
theorem Poly.on (H : Poly h) (hq : ∀ i, i < h.length → 0 ≤ sd (pt h i) (pt h ((i + 1) % h.length)) q) {i : Nat} (hi : i < h.length) (h0 : sd (pt h i) (pt h ((i + 1) % h.length)) q = 0) : OnS (pt h i) (pt h ((i + 1) % h.length)) q := by
  have h3 := H.three
  refine ⟨h0, ?_⟩
  have lt : ∀ k, k % h.length < h.length := fun k => Nat.mod_lt _ (by omega)
  have j1 : ((i + (h.length - 1)) % h.length + 1) % h.length = i := by rw [Nat.mod_add_mod, show i + (h.length - 1) + 1 = i + h.length by omega, Nat.add_mod_right, Nat.mod_eq_of_lt hi]
  have j2 : ((i + (h.length - 1)) % h.length + 2) % h.length = (i + 1) % h.length := by rw [Nat.mod_add_mod, show i + (h.length - 1) + 2 = i + 1 + h.length by omega, Nat.add_mod_right]
  have n2 : ((i + 1) % h.length + 1) % h.length = (i + 2) % h.length := by rw [Nat.mod_add_mod]
  have t0 := H.turn _ (lt (i + (h.length - 1)))
  have q0 := hq _ (lt (i + (h.length - 1)))
  have t1 := H.turn i hi
  have q2 := hq _ (lt (i + 1))
  rw [j1] at q0
  rw [j1, j2] at t0
  rw [n2] at q2
  generalize pt h ((i + (h.length - 1)) % h.length) = z at t0 q0
  generalize pt h ((i + 2) % h.length) = c at t1 q2
  generalize pt h ((i + 1) % h.length) = b at h0 t0 t1 q2 ⊢
  generalize pt h i = a at h0 t0 t1 q0 ⊢
  have zc : cx (vec a b) (vec a q) = 0 := h0
  have hne : vec a b ≠ (0, 0) := fun e => by
    have : sd a b c = 0 := by rw [sd_cx, e]; unfold cx; simp
    omega
  have hAp := dd_pos hne
  have hB := dd_nn (vec a q)
  have hl := lagr (vec a b) (vec a q)
  rw [zc] at hl
  rw [sd_step] at t0 q0 t1 
  rw [sd_cx] at q2
  have r0 := ray (vec a b) (vec z a) (vec a q) zc
  have zc2 : cx (vec a b) (vec b q) = 0 := by
    have : cx (vec a b) (vec b q) = cx (vec a b) (vec a q) := by unfold cx vec; grind
    omega
  have r2 := ray (vec a b) (vec b c) (vec b q) zc2
  rw [cx_anti (vec a b) (vec b c), dt_vec (vec a b) a b q] at r2
  rw [dt_vec (vec a q) a q b, dt_comm (vec a q) (vec a b)]
  obtain ⟨A, eA⟩ : ∃ A, dt (vec a b) (vec a b) = A := ⟨_, rfl⟩
  obtain ⟨B, eB⟩ : ∃ B, dt (vec a q) (vec a q) = B := ⟨_, rfl⟩
  obtain ⟨t, et⟩ : ∃ t, dt (vec a b) (vec a q) = t := ⟨_, rfl⟩
  rw [eA, eB, et] at hl
  rw [eA, et] at r0 r2
  rw [eA] at hAp
  rw [eB] at hB
  rw [et, eB]
  have tn : 0 ≤ t := by
    have m := Int.mul_nonneg q0 (Int.le_of_lt hAp)
    exact nn_of_mul (a := t) (b := cx (vec z a) (vec a b)) (by omega) t0
  have tA : t ≤ A := by
    have m := Int.mul_nonneg q2 (Int.le_of_lt hAp)
    have : 0 ≤ (A - t) * cx (vec a b) (vec b c) := by
      have e : (A - t) * cx (vec a b) (vec b c) = (t - A) * -cx (vec a b) (vec b c) := by grind
      omega
    have := nn_of_mul this t1
    omega
  apply Classical.byContradiction
  intro hn
  have m1 : A * t < A * B := Int.mul_lt_mul_of_pos_left (by omega) hAp
  have m2 : t * t ≤ A * t := Int.mul_le_mul_of_nonneg_right tA tn
  omega
theorem Poly.in_iff (H : Poly h) : InP h q ↔ ∀ i, i < h.length → 0 ≤ sd (pt h i) (pt h ((i + 1) % h.length)) q := by
  have h3 := H.three
  constructor
  · rintro (⟨i, hi, ho⟩ | ⟨_, hp⟩) j hj
    · exact ho.left (H.left j i hj hi) (H.left j _ hj (Nat.mod_lt _ (by omega)))
    · exact Int.le_of_lt (hp j hj)
  · intro hq
    by_cases hz : ∃ i, i < h.length ∧ sd (pt h i) (pt h ((i + 1) % h.length)) q = 0
    · obtain ⟨i, hi, e⟩ := hz
      exact .inl ⟨i, hi, H.on hq hi e⟩
    · exact .inr ⟨h3, fun i hi => by
        have := hq i hi
        have : sd (pt h i) (pt h ((i + 1) % h.length)) q ≠ 0 := fun e => hz ⟨i, hi, e⟩
        omega⟩
theorem tri_in {a b c : Int × Int} (h : 0 < sd a b c) : InP [a, b, c] q ↔ 0 ≤ sd a b q ∧ 0 ≤ sd b c q ∧ 0 ≤ sd c a q := by
  rw [(tri_poly h).in_iff, tri_len]
  constructor
  · intro hq
    exact ⟨hq 0 (by omega), hq 1 (by omega), hq 2 (by omega)⟩
  · rintro ⟨h1, h2, h3⟩ i hi
    match i, hi with
    | 0, _ => exact h1
    | 1, _ => exact h2
    | 2, _ => exact h3
/-- The triangles of the fan turn left. -/
theorem Ring.fan {s : List (Int × Int)} (H : Ring s h) (h3 : 3 ≤ h.length) {k : Nat} (h1 : 1 ≤ k) (hk : k + 1 < h.length) : 0 < sd (pt h 0) (pt h k) (pt h (k + 1)) := by
  have hk1 : (k + 1) % h.length = k + 1 := Nat.mod_eq_of_lt hk
  have l := H.left (by omega) (i := k) (by omega) (q := pt h 0) (H.sub _ (pt_mem (by omega)))
  rw [hk1, ← sd_turn] at l
  apply Classical.byContradiction
  intro hn
  have z : sd (pt h 0) (pt h k) (pt h (k + 1)) = 0 := by rw [← sd_turn, ← sd_turn] at hn ⊢; rw [sd_turn, sd_turn] at hn ⊢; have l' := l; rw [sd_turn] at l'; rw [sd_turn] at l'; omega
  have z2 : sd (pt h k) (pt h ((k + 1) % h.length)) (pt h 0) = 0 := by rw [hk1, sd_turn]; exact z
  have o := H.seg (by omega) (i := k) (by omega) (H.sub _ (pt_mem (i := 0) (by omega))) z2
  rw [hk1] at o
  obtain ⟨d, hd⟩ := H.ext _ (pt_mem (i := 0) (by omega))
  have n1 : pt h k ≠ pt h 0 := fun e => by have := H.inj (by omega) (by omega) e; omega
  have n2 : pt h (k + 1) ≠ pt h 0 := fun e => by have := H.inj (by omega) (by omega) e; omega
  have s1 := same_ray (hd _ (H.sub _ (pt_mem (i := k) (by omega))) n1) (hd _ (H.sub _ (pt_mem hk)) n2) z
  have := o.2
  have e : dt (vec (pt h k) (pt h 0)) (vec (pt h 0) (pt h (k + 1))) = - dt (vec (pt h 0) (pt h k)) (vec (pt h 0) (pt h (k + 1))) := by unfold dt vec; grind
  omega
theorem down_step (g : Nat → Int) : ∀ n, 0 ≤ g 1 → g (n + 2) ≤ 0 → ∃ k, 1 ≤ k ∧ k + 1 ≤ n + 2 ∧ 0 ≤ g k ∧ g (k + 1) ≤ 0
  | 0, h1, h2 => ⟨1, by omega, by omega, h1, h2⟩
  | n + 1, h1, h2 => by
    by_cases h : g (n + 2) ≤ 0
    · obtain ⟨k, a, b, c⟩ := down_step g n h1 h
      exact ⟨k, a, by omega, c⟩
    · exact ⟨n + 2, by omega, by omega, by omega, h2⟩
theorem bary (a b c p r q : Int × Int) : sd p r q * sd a b c = sd b c q * sd p r a + sd c a q * sd p r b + sd a b q * sd p r c := by unfold sd; grind
/-- In the ring just where in some triangle of its fan. -/
theorem Ring.fan_iff {s : List (Int × Int)} (H : Ring s h) (h3 : 3 ≤ h.length) : InP h q ↔ ∃ k, 1 ≤ k ∧ k + 1 < h.length ∧ InP [pt h 0, pt h k, pt h (k + 1)] q := by
  rw [(H.poly h3).in_iff]
  constructor
  · intro hq
    have g1 : 0 ≤ sd (pt h 0) (pt h 1) q := by
      have := hq 0 (by omega)
      rwa [Nat.mod_eq_of_lt (by omega)] at this
    have g2 : sd (pt h 0) (pt h (h.length - 3 + 2)) q ≤ 0 := by
      have := hq (h.length - 1) (by omega)
      rw [show h.length - 1 + 1 = h.length by omega, Nat.mod_self, sd_swap] at this
      rw [show h.length - 3 + 2 = h.length - 1 by omega]
      omega
    obtain ⟨k, k1, k2, k3, k4⟩ := down_step (fun k => sd (pt h 0) (pt h k) q) (h.length - 3) g1 g2
    refine ⟨k, k1, by omega, (tri_in (H.fan h3 k1 (by omega))).2 ⟨k3, ?_, ?_⟩⟩
    · have := hq k (by omega)
      rwa [Nat.mod_eq_of_lt (by omega)] at this
    · rw [sd_swap]
      have k4' : sd (pt h 0) (pt h (k + 1)) q ≤ 0 := k4
      omega
  · rintro ⟨k, k1, k2, hk⟩ i hi
    have T := H.fan h3 k1 k2
    obtain ⟨a1, a2, a3⟩ := (tri_in T).1 hk
    have P := H.poly h3
    have b := bary (pt h 0) (pt h k) (pt h (k + 1)) (pt h i) (pt h ((i + 1) % h.length)) q
    have m1 := Int.mul_nonneg a2 (P.left i 0 hi (by omega))
    have m2 := Int.mul_nonneg a3 (P.left i k hi (by omega))
    have m3 := Int.mul_nonneg a1 (P.left i (k + 1) hi k2)
    exact nn_of_mul (by omega) T
end
theorem OnS.swap {a b q : Int × Int} : OnS a b q ↔ OnS b a q := by
  unfold OnS
  have e1 : sd b a q = - sd a b q := sd_swap a b q
  have e2 : dt (vec b q) (vec q a) = dt (vec a q) (vec q b) := by unfold dt vec; grind
  rw [e1, e2]
  constructor
  · rintro ⟨h1, h2⟩; exact ⟨by omega, h2⟩
  · rintro ⟨h1, h2⟩; exact ⟨by omega, h2⟩
end Go.Proofs.YtipiamhnngmjmaaDoor
