/-
  The least across two sets, one ahead of the other, looked for from the middle outwards (plain).
  Conditions: as each theorem states them.
-/
import Derived.Test.YtipiamhnngmjmaaDoorNrMath
namespace Go.Proofs.YtipiamhnngmjmaaDoor
open Go.RowKit
set_option linter.unusedVariables false
/-- The first numbers rise. -/
def XP (l : List (Int × Int)) : Prop := l.Pairwise (fun p q => p.1 ≤ q.1)
theorem XP.of {l : List (Int × Int)} (h : XUp l) : XP l := by
  unfold XP
  rw [List.pairwise_iff_getElem]
  intro i j hi hj hij
  have := h i j hij hj
  simpa [px, hi, hj] using this
theorem XP.take {l : List (Int × Int)} (h : XP l) (k : Nat) : XP (l.take k) := h.sublist (List.take_sublist _ _)
theorem XP.drop {l : List (Int × Int)} (h : XP l) (k : Nat) : XP (l.drop k) := h.sublist (List.drop_sublist _ _)
theorem XP.across {l : List (Int × Int)} (h : XP l) (k : Nat) : ∀ a, a ∈ l.take k → ∀ b, b ∈ l.drop k → a.1 ≤ b.1 := by
  have h2 : XP (l.take k ++ l.drop k) := by rw [List.take_append_drop]; exact h
  exact (List.pairwise_append.1 h2).2.2
theorem crs_snoc (pre R : List (Int × Int)) (x : Int × Int) : crs (pre ++ [x]) R = crs pre R ++ R.map (apF x) := by simp [crs]
theorem mn_snoc (c : Int) (l : List Int) (x : Int) : mn c (l ++ [x]) = min (mn c l) x := by simp [mn]
theorem mn_same {c : Int} {l m : List Int} (h : ∀ x, x ∈ l ↔ x ∈ m) : mn c l = mn c m := by
  have k := mn_lo m c
  refine mn_eq k.1 (fun x hx => k.2.1 x ((h x).1 hx)) ?_
  rcases k.2.2 with e | e
  · exact .inl e
  · exact .inr ((h _).2 e)
theorem crs_rev (L R : List (Int × Int)) (c : Int) : mn c (crs L.reverse R) = mn c (crs L R) := mn_same fun x => by
  rw [crs_mem, crs_mem]
  simp only [List.mem_reverse]
/-- All behind are as far, too. -/
theorem scan_go {R pre' : List (Int × Int)} {x y : Int × Int} {c : Int} (hR : XP R) (hxy : x.1 ≤ y.1) (hp : pre' ++ [y] <+: R) (hw : mn c (pre'.map (apF x)) ≤ (y.1 - x.1) * (y.1 - x.1)) : mn c (R.map (apF x)) = mn c (pre'.map (apF x)) := by
  obtain ⟨suf, rfl⟩ := hp
  rw [List.append_assoc, List.map_append, mn_append]
  have hs := (List.pairwise_append.1 hR).2.2
  refine mn_stay fun z hz => ?_
  obtain ⟨b, hb, rfl⟩ := List.mem_map.1 hz
  rcases List.mem_append.1 hb with e | e
  · rw [List.mem_singleton] at e
    subst e
    exact wide_le hxy (Int.le_refl _) hw
  · exact wide_le hxy (hs y (by simp) b e) hw
theorem scan_end {L R pre pre' : List (Int × Int)} {x y : Int × Int} {c : Int} (hL : XP L) (hR : XP R) (hx : ∀ a, a ∈ L → ∀ b, b ∈ R → a.1 ≤ b.1) (hq : pre ++ [x] <+: L.reverse) (hp : pre' ++ [y] <+: R) (hy : ∀ b, b ∈ R → y.1 ≤ b.1)
    (hw : mn (mn c (crs pre R)) (pre'.map (apF x)) ≤ (y.1 - x.1) * (y.1 - x.1)) : mn c (crs L R) = mn (mn c (crs pre R)) (pre'.map (apF x)) := by
  have hxL : x ∈ L := by
    have : x ∈ L.reverse := hq.subset (by simp)
    simpa using this
  have hyR : y ∈ R := hp.subset (by simp)
  have hxy := hx x hxL y hyR
  have h1 := scan_go hR hxy hp hw
  rw [← crs_rev, ← h1]
  obtain ⟨rest, e⟩ := hq
  have hd : L.reverse.Pairwise (fun p q => q.1 ≤ p.1) := List.pairwise_reverse.2 hL
  rw [← e] at hd ⊢
  have hs := (List.pairwise_append.1 hd).2.2
  have e2 : crs (pre ++ [x] ++ rest) R = (crs pre R ++ R.map (apF x)) ++ crs rest R := by rw [← crs_snoc]; simp [crs]
  rw [e2, mn_append, mn_append, h1]
  refine mn_stay fun z hz => ?_
  obtain ⟨a, ha, b, hb, rfl⟩ := crs_mem.1 hz
  have h3 := hs x (by simp) a ha
  exact wide_le (by omega) (hy b hb) (wide_less h3 hxy hw)
theorem first_least {R : List (Int × Int)} {y : Int × Int} (hR : XP R) (h0 : y = pt R 0) (h1 : 0 < R.length) : ∀ b, b ∈ R → y.1 ≤ b.1 := by
  match R, h1 with
  | r :: t, _ =>
    have e : y = r := by rw [h0]; simp [pt, px, py]
    subst e
    intro b hb
    rcases List.mem_cons.1 hb with rfl | hb
    · exact Int.le_refl _
    · exact (List.pairwise_cons.1 hR).1 b hb
theorem pre_in {L pre : List (Int × Int)} {x : Int × Int} (h : pre ++ [x] <+: L) : pre <+: L := (List.prefix_append pre [x]).trans h
end Go.Proofs.YtipiamhnngmjmaaDoor
