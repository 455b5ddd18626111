/-
  By halves the hull is the same, and it is its own; its ring turns left, and all points are in it (no walk in it).
  Conditions: as each theorem states them.
-/
import Derived.Test.YtipiamhnngmjmaaDoorHSame
namespace Go.Proofs.YtipiamhnngmjmaaDoor
set_option linter.unusedVariables false
set_option maxRecDepth 8000
theorem put1_iff (l : List (Int × Int)) (x y : Int) (r : Int × Int) : r ∈ put1 l x y ↔ r ∈ l ∨ r = (x, y) := by
  refine ⟨put1_mem, fun hr => ?_⟩
  unfold put1
  split
  · rename_i h
    rw [hasB, Bool.and_eq_true] at h
    have hlt := of_decide_eq_true h.1
    have he := of_decide_eq_true h.2
    rcases hr with hr | rfl
    · exact hr
    · have : pt l (plc l x y) = (x, y) := Prod.ext he.1 he.2
      rw [← this]; exact pt_mem hlt
  · rw [putR, List.mem_append, List.mem_cons]
    rcases hr with h | h
    · rw [← List.take_append_drop (plc l x y) l, List.mem_append] at h
      rcases h with h | h
      · exact .inl h
      · exact .inr (.inr h)
    · exact .inr (.inl h)
theorem foldL_iff (r : Int × Int) : ∀ (l s : List (Int × Int)), r ∈ l.foldl (fun s p => put1 s p.1 p.2) s ↔ r ∈ s ∨ r ∈ l := by
  intro l
  induction l with
  | nil => intro s; simp
  | cons p l ih =>
    intro s
    rw [List.foldl_cons, ih, put1_iff, List.mem_cons, or_assoc]
theorem fromL_iff (l : List (Int × Int)) (r : Int × Int) : r ∈ fromL l ↔ r ∈ l := by
  rw [fromL, foldL_iff]; simp
theorem Rise.take {s : List (Int × Int)} (h : Rise s) (k : Nat) : Rise (s.take k) := by
  intro i hi
  rw [List.length_take] at hi
  have := h i (by omega)
  have e : ∀ j, j < k → j < s.length → pt (s.take k) j = pt s j := fun j h1 h2 => by rw [pt_get (by rw [List.length_take]; omega), pt_get h2, List.getElem_take]
  have e0 := e i (by omega) (by omega)
  have e1 := e (i + 1) (by omega) (by omega)
  rw [show px (s.take k) i = px s i from congrArg Prod.fst e0, show py (s.take k) i = py s i from congrArg Prod.snd e0, show px (s.take k) (i + 1) = px s (i + 1) from congrArg Prod.fst e1, show py (s.take k) (i + 1) = py s (i + 1) from congrArg Prod.snd e1]
  exact this
theorem Rise.drop {s : List (Int × Int)} (h : Rise s) (k : Nat) : Rise (s.drop k) := by
  intro i hi
  rw [List.length_drop] at hi
  have := h (k + i) (by omega)
  have e : ∀ j, k + j < s.length → pt (s.drop k) j = pt s (k + j) := fun j h1 => by rw [pt_get (by rw [List.length_drop]; omega), pt_get h1, List.getElem_drop]
  have e0 := e i (by omega)
  have e1 := e (i + 1) (by omega)
  rw [show px (s.drop k) i = px s (k + i) from congrArg Prod.fst e0, show py (s.drop k) i = py s (k + i) from congrArg Prod.snd e0, show px (s.drop k) (i + 1) = px s (k + (i + 1)) from congrArg Prod.fst e1, show py (s.drop k) (i + 1) = py s (k + (i + 1)) from congrArg Prod.snd e1]
  exact this
/-- By halves the hull is the same. -/
theorem halves_hull : ∀ (n : Nat) (s : List (Int × Int)), s.length ≤ n → Rise s → halvesB tP n s = hullB tP s
  | 0, s, h, _ => by
    obtain rfl := List.eq_nil_of_length_eq_zero (Nat.le_zero.1 h)
    rfl
  | n + 1, s, h, hr => by
    by_cases h2 : s.length < 2
    · rw [halvesB_short h2]; unfold hullB; rw [if_pos h2]
    · rw [halvesB_step h2, halves_hull n _ (by rw [List.length_take]; omega) (hr.take _), halves_hull n _ (by rw [List.length_drop]; omega) (hr.drop _)]
      refine hull_sub hr (fromL_rise _) (fun q hq => ?_) (fun q hq => ?_)
      · rcases List.mem_append.1 ((fromL_iff _ _).1 hq) with hq | hq
        · exact List.mem_of_mem_take (hull_ext (hr.take _) hq).1
        · exact List.mem_of_mem_drop (hull_ext (hr.drop _) hq).1
      · obtain ⟨h3, h4⟩ := hull_ext hr hq
        refine (fromL_iff _ _).2 (List.mem_append.2 ?_)
        rw [← List.take_append_drop (s.length / 2) s, List.mem_append] at h3
        rcases h3 with h3 | h3
        · exact .inl (ext_hull (hr.take _) h3 (h4.sub fun q hq => List.mem_of_mem_take hq))
        · exact .inr (ext_hull (hr.drop _) h3 (h4.sub fun q hq => List.mem_of_mem_drop hq))
/-- The hull is its own. -/
theorem hull_own {s : List (Int × Int)} (hr : Rise s) : hullB tP (fromL (hullB tP s)) = hullB tP s :=
  hull_sub hr (fromL_rise _) (fun q hq => (hull_ext hr ((fromL_iff _ _).1 hq)).1) (fun q hq => (fromL_iff _ _).2 hq)
/-- The ring of a set: each point the next one of the one ahead, round and round. -/
structure Ring (s h : List (Int × Int)) : Prop where
  one : 1 ≤ h.length
  nodup : h.Nodup
  sub : ∀ q, q ∈ h → q ∈ s
  ext : ∀ q, q ∈ h → Ext s q
  next : ∀ i, i < h.length → nx s (pt h i) = pt h ((i + 1) % h.length)
theorem hull_ring {s : List (Int × Int)} (hr : Rise s) (hs : s ≠ []) : Ring s (hullB tP s) := by
  rw [← wrap_hull hr]
  match s, hr, hs with
  | f :: t, hr, _ =>
    obtain ⟨z, hz, hf⟩ := wrapR_ring hr
    refine ⟨hz.one, hz.went.nodup, hz.went.sub, hz.went.ext, fun i hi => ?_⟩
    by_cases e : i + 1 < (wrapR (f :: t)).length
    · rw [Nat.mod_eq_of_lt e]; exact hz.chain i e
    · have e2 : i + 1 = (wrapR (f :: t)).length := by omega
      rw [e2, Nat.mod_self, hz.head, show i = (wrapR (f :: t)).length - 1 by omega, hz.last]
      exact hf
section
variable {s h : List (Int × Int)}
theorem Ring.lt (H : Ring s h) (i : Nat) : i % h.length < h.length := Nat.mod_lt _ H.one
theorem Ring.inj (H : Ring s h) {i j : Nat} (hi : i < h.length) (hj : j < h.length) (e : pt h i = pt h j) : i = j := by
  rw [pt_get hi, pt_get hj] at e
  exact (List.getElem_inj H.nodup).1 e
theorem Ring.ne (H : Ring s h) (h2 : 2 ≤ h.length) {i : Nat} (hi : i < h.length) : pt h ((i + 1) % h.length) ≠ pt h i := fun e => by
  have := H.inj (H.lt _) hi e
  by_cases e2 : i + 1 < h.length
  · rw [Nat.mod_eq_of_lt e2] at this; omega
  · rw [show i + 1 = h.length by omega, Nat.mod_self] at this; omega
theorem Ring.mem (H : Ring s h) (i : Nat) : pt h (i % h.length) ∈ s := H.sub _ (pt_mem (H.lt i))
theorem Ring.dom (H : Ring s h) (h2 : 2 ≤ h.length) {i : Nat} (hi : i < h.length) {q : Int × Int} (hq : q ∈ s) (hqa : q ≠ pt h i) : Dom (pt h i) (pt h ((i + 1) % h.length)) q := by
  obtain ⟨_, _, n3⟩ := nx_spec (H.ext _ (pt_mem hi)) ⟨q, hq, hqa⟩
  rw [H.next i hi] at n3
  exact n3 q hq hqa
/-- All points are on the left of each side, or on it. -/
theorem Ring.left (H : Ring s h) (h2 : 2 ≤ h.length) {i : Nat} (hi : i < h.length) {q : Int × Int} (hq : q ∈ s) : 0 ≤ sd (pt h i) (pt h ((i + 1) % h.length)) q := by
  by_cases e : q = pt h i
  · rw [e, sd_start]; omega
  · exact (H.dom h2 hi hq e).1
/-- On the segment from a to b. -/
def OnS (a b q : Int × Int) : Prop := sd a b q = 0 ∧ 0 ≤ dt (vec a q) (vec q b)
theorem Ring.seg (H : Ring s h) (h2 : 2 ≤ h.length) {i : Nat} (hi : i < h.length) {q : Int × Int} (hq : q ∈ s) (h0 : sd (pt h i) (pt h ((i + 1) % h.length)) q = 0) : OnS (pt h i) (pt h ((i + 1) % h.length)) q := by
  refine ⟨h0, ?_⟩
  by_cases e : q = pt h i
  · rw [e]
    have : dt (vec (pt h i) (pt h i)) (vec (pt h i) (pt h ((i + 1) % h.length))) = 0 := by unfold dt vec; grind
    omega
  · have d1 := (H.dom h2 hi hq e).2 h0
    obtain ⟨d, hd⟩ := H.ext _ (pt_mem hi)
    have hb := H.mem (i + 1)
    have hne := H.ne h2 hi
    generalize pt h ((i + 1) % h.length) = b at h0 d1 hb hne ⊢
    generalize pt h i = a at h0 e d1 hd hne ⊢
    have zc : cx (vec a b) (vec a q) = 0 := h0
    have s1 := same_ray (hd b hb hne) (hd q hq e) zc
    have hl := lagr (vec a b) (vec a q)
    rw [zc] at hl
    rw [dt_vec (vec a b) a b q] at d1
    rw [dt_vec (vec a q) a q b, dt_comm (vec a q) (vec a b)]
    have hB := dd_nn (vec a q)
    obtain ⟨A, eA⟩ : ∃ A, dt (vec a b) (vec a b) = A := ⟨_, rfl⟩
    obtain ⟨B, eB⟩ : ∃ B, dt (vec a q) (vec a q) = B := ⟨_, rfl⟩
    obtain ⟨t, et⟩ : ∃ t, dt (vec a b) (vec a q) = t := ⟨_, rfl⟩
    rw [eA, eB, et] at hl
    rw [eA, et] at d1
    rw [et] at s1
    rw [eB] at hB
    rw [et, eB]
    apply Classical.byContradiction
    intro hn
    have m1 : t * B ≤ A * B := Int.mul_le_mul_of_nonneg_right (by omega) hB
    have m2 : t * t < t * B := Int.mul_lt_mul_of_pos_left (by omega) s1
    omega
/-- Each three that follow one another turn left. -/
theorem Ring.turn (H : Ring s h) (h3 : 3 ≤ h.length) {i : Nat} (hi : i < h.length) : 0 < sd (pt h i) (pt h ((i + 1) % h.length)) (pt h ((i + 2) % h.length)) := by
  have n2 : ((i + 1) % h.length + 1) % h.length = (i + 2) % h.length := by rw [Nat.mod_add_mod]
  have hac : pt h ((i + 2) % h.length) ≠ pt h i := fun e => by
    have := H.inj (H.lt _) hi e
    by_cases e2 : i + 2 < h.length
    · rw [Nat.mod_eq_of_lt e2] at this; omega
    · rw [Nat.mod_eq_sub_mod (by omega), Nat.mod_eq_of_lt (by omega)] at this; omega
  have hbc := H.ne (i := (i + 1) % h.length) (by omega) (H.lt _)
  rw [n2] at hbc
  have hab := H.ne (by omega) hi
  have hE := H.ext _ (pt_mem hi)
  have d1 := H.dom (by omega) hi (H.mem (i + 2)) hac
  have d2 := H.dom (i := (i + 1) % h.length) (by omega) (H.lt _) (H.sub _ (pt_mem hi)) hab.symm
  rw [n2] at d2
  have mb := H.mem (i + 1)
  have mc := H.mem (i + 2)
  generalize pt h ((i + 2) % h.length) = c at d1 d2 hac hbc mc ⊢
  generalize pt h ((i + 1) % h.length) = b at d1 d2 hbc hab mb ⊢
  generalize pt h i = a at d1 d2 hac hab hE ⊢
  apply Classical.byContradiction
  intro hn
  have z : sd a b c = 0 := by have := d1.1; omega
  have z2 : sd b c a = 0 := by rw [sd_turn]; exact z
  have f1 := d1.2 z
  have f2 := d2.2 z2
  obtain ⟨d, hd⟩ := hE
  have s1 := same_ray (hd b mb hab) (hd c mc hac) z
  -- u = a to b, v = a to c
  have g1 : dt (vec a b) (vec b c) = dt (vec a b) (vec a c) - dt (vec a b) (vec a b) := dt_vec _ _ _ _
  have g2 : dt (vec b c) (vec c a) = dt (vec a b) (vec a c) - dt (vec a c) (vec a c) := by unfold dt vec; grind
  have hl := lagr (vec a b) (vec a c)
  have zc : cx (vec a b) (vec a c) = 0 := z
  rw [zc] at hl
  have hA := dd_nn (vec a b)
  have hB := dd_nn (vec a c)
  have key : dt (vec b c) (vec b c) = dt (vec a b) (vec a b) - 2 * dt (vec a b) (vec a c) + dt (vec a c) (vec a c) := by unfold dt vec; grind
  rw [g1] at f1
  rw [g2] at f2
  obtain ⟨A, eA⟩ : ∃ A, dt (vec a b) (vec a b) = A := ⟨_, rfl⟩
  obtain ⟨B, eB⟩ : ∃ B, dt (vec a c) (vec a c) = B := ⟨_, rfl⟩
  obtain ⟨t, et⟩ : ∃ t, dt (vec a b) (vec a c) = t := ⟨_, rfl⟩
  rw [eA, eB, et] at hl key
  rw [eA, et] at f1
  rw [eB, et] at f2
  rw [et] at s1
  rw [eA] at hA
  rw [eB] at hB
  have hAt : A = t := by
    apply Classical.byContradiction
    intro hn
    have m1 : t * B < A * B := Int.mul_lt_mul_of_pos_right (by omega) (by omega)
    have m2 : t * t ≤ t * B := Int.mul_le_mul_of_nonneg_left (by omega) (by omega)
    omega
  have hBt : B = t := by
    apply Classical.byContradiction
    intro hn
    have m1 : A * t < A * B := Int.mul_lt_mul_of_pos_left (by omega) (by omega)
    rw [hAt] at m1 hl
    omega
  exact vec_ne hbc (dd_zero (show dt (vec b c) (vec b c) = 0 by omega))
theorem Ring.alone (H : Ring s h) (h1 : h.length < 2) {q : Int × Int} (hq : q ∈ s) : q = pt h 0 := by
  have e1 : h.length = 1 := by have := H.one; omega
  apply Classical.byContradiction
  intro hn
  obtain ⟨_, n2, _⟩ := nx_spec (H.ext _ (pt_mem (i := 0) (by omega))) ⟨q, hq, hn⟩
  have := H.next 0 (by omega)
  rw [e1] at this
  exact n2 this
/-- No point of the set is outside. -/
theorem Ring.inside (H : Ring s h) {q : Int × Int} (hq : q ∈ s) : (∃ i, i < h.length ∧ OnS (pt h i) (pt h ((i + 1) % h.length)) q) ∨ (3 ≤ h.length ∧ ∀ i, i < h.length → 0 < sd (pt h i) (pt h ((i + 1) % h.length)) q) := by
  by_cases h1 : h.length < 2
  · have e1 : h.length = 1 := by have := H.one; omega
    refine .inl ⟨0, by omega, ?_⟩
    rw [e1, H.alone h1 hq]
    refine ⟨by unfold sd; grind, ?_⟩
    have : dt (vec (pt h 0) (pt h 0)) (vec (pt h 0) (pt h ((0 + 1) % 1))) = 0 := by unfold dt vec; grind
    omega
  · by_cases hz : ∃ i, i < h.length ∧ sd (pt h i) (pt h ((i + 1) % h.length)) q = 0
    · obtain ⟨i, hi, e⟩ := hz
      exact .inl ⟨i, hi, H.seg (by omega) hi hq e⟩
    · have hp : ∀ i, i < h.length → 0 < sd (pt h i) (pt h ((i + 1) % h.length)) q := fun i hi => by
        have := H.left (by omega) hi hq
        have : sd (pt h i) (pt h ((i + 1) % h.length)) q ≠ 0 := fun e => hz ⟨i, hi, e⟩
        omega
      by_cases h2 : h.length = 2
      · exfalso
        have a := hp 0 (by omega)
        have b := hp 1 (by omega)
        rw [h2, show (0 + 1) % 2 = 1 from rfl] at a
        rw [h2, show (1 + 1) % 2 = 0 from rfl, sd_swap] at b
        omega
      · exact .inr ⟨by omega, hp⟩
end
end Go.Proofs.YtipiamhnngmjmaaDoor
