/-
  Hulls by halves, as lists (no walk in it).
  Conditions: as each theorem states them.
-/
import Derived.Test.YtipiamhnngmjmaaDoorHGood
namespace Go.Proofs.YtipiamhnngmjmaaDoor
set_option linter.unusedVariables false
set_option maxRecDepth 8000
/-- The hull of the hulls of both halves; n at least the list's length. -/
def halvesB (t : Int × Int → Int × Int → Int × Int → Bool) : Nat → List (Int × Int) → List (Int × Int)
  | 0, l => l
  | n + 1, l => if l.length < 2 then l else hullB t (fromL (halvesB t n (l.take (l.length / 2)) ++ halvesB t n (l.drop (l.length / 2))))
section
variable {t : Int × Int → Int × Int → Int × Int → Bool}
theorem halvesB_short {n : Nat} {l : List (Int × Int)} (h : l.length < 2) : halvesB t n l = l := by
  cases n with
  | zero => rfl
  | succ n => rw [halvesB, if_pos h]
theorem halvesB_step {n : Nat} {l : List (Int × Int)} (h : ¬ l.length < 2) : halvesB t (n + 1) l = hullB t (fromL (halvesB t n (l.take (l.length / 2)) ++ halvesB t n (l.drop (l.length / 2)))) := by rw [halvesB, if_neg h]
theorem halvesB_mem : ∀ (n : Nat) (l : List (Int × Int)) (p : Int × Int), p ∈ halvesB t n l → p ∈ l
  | 0, _, _, h => h
  | n + 1, l, p, h => by
    by_cases h2 : l.length < 2
    · rw [halvesB_short h2] at h; exact h
    · rw [halvesB_step h2] at h
      rcases List.mem_append.1 (fromL_mem (hullB_mem h)) with h | h
      · exact List.mem_of_mem_take (halvesB_mem n _ p h)
      · exact List.mem_of_mem_drop (halvesB_mem n _ p h)
theorem halvesB_all {n : Nat} {l : List (Int × Int)} (h : allG l) : allG (halvesB t n l) := fun p hp => h p (halvesB_mem n l p hp)
theorem put1_ne (s : List (Int × Int)) (x y : Int) : put1 s x y ≠ [] := by
  unfold put1
  split
  · rename_i h
    intro e
    subst e
    simp [hasB] at h
  · unfold putR
    simp
theorem fromL_ne {l : List (Int × Int)} (h : l ≠ []) : fromL l ≠ [] := by
  obtain ⟨l', p, rfl⟩ : ∃ l' p, l = l' ++ [p] := ⟨l.dropLast, l.getLast h, (List.dropLast_concat_getLast h).symm⟩
  unfold fromL
  rw [List.foldl_append]
  exact put1_ne _ _ _
theorem hullB_ne {l : List (Int × Int)} (h : l ≠ []) : hullB t l ≠ [] := by
  unfold hullB
  split
  · exact h
  · rename_i h2
    have := chainB_two (t := t) (l := l) (by omega)
    intro e
    have e2 := (List.append_eq_nil_iff.1 e).1
    have e3 := congrArg List.length e2
    rw [List.length_dropLast] at e3
    simp at e3
    omega
theorem halvesB_ne : ∀ (n : Nat) (l : List (Int × Int)), l ≠ [] → halvesB t n l ≠ []
  | 0, _, h => h
  | n + 1, l, h => by
    by_cases h2 : l.length < 2
    · rw [halvesB_short h2]; exact h
    · rw [halvesB_step h2]
      refine hullB_ne (fromL_ne (fun e => ?_))
      exact halvesB_ne n (l.take (l.length / 2)) (fun e2 => by have := congrArg List.length e2; rw [List.length_take, List.length_nil] at this; omega) (List.append_eq_nil_iff.1 e).1
theorem hullB_len2 {l : List (Int × Int)} (h : ¬ l.length < 2) : (hullB t l).length + 2 ≤ 2 * l.length := by
  unfold hullB
  rw [if_neg h]
  have h1 := chainB_len (t := t) l
  have h2 := chainB_len (t := t) l.reverse
  have h3 := chainB_two (t := t) (l := l) (by omega)
  have h4 := chainB_two (t := t) (l := l.reverse) (by rw [List.length_reverse]; omega)
  rw [List.length_reverse] at h2
  rw [List.length_append, List.length_dropLast, List.length_dropLast]
  omega
theorem half_sq (m : Nat) : 2 * ((m / 2) * (m / 2) + (m - m / 2) * (m - m / 2)) ≤ m * m + 1 := by
  obtain ⟨k, hk⟩ : ∃ k, m / 2 = k := ⟨_, rfl⟩
  rw [hk]
  rcases (show m = 2 * k ∨ m = 2 * k + 1 by omega) with rfl | rfl
  · rw [show 2 * k - k = k by omega]
    have : 2 * k * (2 * k) = 4 * (k * k) := by grind
    omega
  · rw [show 2 * k + 1 - k = k + 1 by omega]
    have h1 : (2 * k + 1) * (2 * k + 1) = 4 * (k * k) + 4 * k + 1 := by grind
    have h2 : (k + 1) * (k + 1) = k * k + 2 * k + 1 := by grind
    omega
theorem halvesB_len : ∀ (n : Nat) (l : List (Int × Int)), (halvesB t n l).length ≤ l.length * l.length
  | 0, l => by
    show l.length ≤ _
    exact Nat.le_mul_self _
  | n + 1, l => by
    by_cases h2 : l.length < 2
    · rw [halvesB_short h2]
      exact Nat.le_mul_self _
    · rw [halvesB_step h2]
      have i1 := halvesB_len n (l.take (l.length / 2))
      have i2 := halvesB_len n (l.drop (l.length / 2))
      rw [List.length_take, Nat.min_eq_left (by omega)] at i1
      rw [List.length_drop] at i2
      have hs := half_sq l.length
      have f := fromL_few (halvesB t n (l.take (l.length / 2)) ++ halvesB t n (l.drop (l.length / 2)))
      rw [List.length_append] at f
      by_cases h3 : (fromL (halvesB t n (l.take (l.length / 2)) ++ halvesB t n (l.drop (l.length / 2)))).length < 2
      · have := Nat.le_mul_self l.length
        unfold hullB
        rw [if_pos h3]
        omega
      · have := hullB_len2 (t := t) h3
        omega
end
theorem halves_eq : ∀ (n : Nat) (l : List (Int × Int)), allG l → halvesB tlB n l = halvesB slB n l
  | 0, _, _ => rfl
  | n + 1, l, h => by
    by_cases h2 : l.length < 2
    · rw [halvesB_short h2, halvesB_short h2]
    · rw [halvesB_step h2, halvesB_step h2, halves_eq n _ (fun p hp => h p (List.mem_of_mem_take hp)), halves_eq n _ (fun p hp => h p (List.mem_of_mem_drop hp))]
      refine hull_eq (fromL_all ?_)
      intro p hp
      rcases List.mem_append.1 hp with hp | hp
      · exact h p (List.mem_of_mem_take (halvesB_mem _ _ _ hp))
      · exact h p (List.mem_of_mem_drop (halvesB_mem _ _ _ hp))
def halL (l : List (Int × Int)) : List (Int × Int) := if goodL l then halvesB slB l.length l else []
theorem halL_len (l : List (Int × Int)) (h : l.length ≤ 1048576) : (halL l).length ≤ 1048576 := by
  unfold halL
  split
  · rename_i hG
    have h1 := goodL_few hG
    have h2 := halvesB_len (t := slB) l.length l
    have h3 := Nat.mul_le_mul h1 h1
    omega
  · simp
theorem At.drop {N b off : Nat} {l : List (Int × Int)} {w : Go.World} (h : At N (some ⟨b, off, none⟩) l w) (k : Nat) : At N (some ⟨b, off + k * 2, none⟩) (l.drop k) w := fun i hi => by
  rw [List.length_drop] at hi
  obtain ⟨b', off', e, hb, h0, h1⟩ := h (k + i) (by omega)
  obtain ⟨rfl, rfl⟩ : b = b' ∧ off = off' := by simp at e; exact e
  refine ⟨b, off + k * 2, rfl, hb, ?_, ?_⟩
  · rw [show off + k * 2 + i * 2 = off + (k + i) * 2 by omega, h0]; simp [px]
  · rw [show off + k * 2 + i * 2 + 1 = off + (k + i) * 2 + 1 by omega, h1]; simp [py]
theorem At.take' {N : Nat} {a : Option Go.Addr} {l : List (Int × Int)} {w : Go.World} (h : At N a l w) (k : Nat) : At N a (l.take k) w := fun i hi => by
  rw [List.length_take] at hi
  obtain ⟨b', off', e, hb, h0, h1⟩ := h i (by omega)
  have h2 : i < k := by omega
  refine ⟨b', off', e, hb, ?_, ?_⟩
  · rw [h0]; simp [px, h2]
  · rw [h1]; simp [py, h2]
end Go.Proofs.YtipiamhnngmjmaaDoor
