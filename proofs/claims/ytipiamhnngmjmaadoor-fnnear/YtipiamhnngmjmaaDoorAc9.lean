/-
  AcrossOf's contracts and what the law wants beside them.
  Conditions: as each theorem states them.
-/
import Derived.Test.YtipiamhnngmjmaaDoorAc8
namespace Go.Proofs.YtipiamhnngmjmaaDoor
open Go.RowKit Go.Shelf
set_option linter.unusedVariables false
theorem OwnIS.spared {N : Nat} {v : Value} {a : Option Addr} {L : List (List Int)} {vs : List Value} {w w' : World} (h : OwnIS N v L vs w) (hs : Spared a w w') (hb : ∀ b off, a = Option.some ⟨b, off, none⟩ → b < N) : OwnIS N v L vs w' :=
  ⟨h.out.other hs (fun b off e eb => by have := hb b off e; have := (h.out.lt eb).1; omega), h.len, fun i hi => (h.inn i hi).spared hs hb, h.apart, h.far⟩
theorem acV_len (l : List (Int × Int)) : (acV l).length ≤ 4000 := by
  unfold acV
  split
  · rename_i h
    have h60 : l.length ≤ 60 := by
      unfold acOk at h
      rw [Bool.and_eq_true] at h
      exact gh_lenA h.1
    have h2 := acTo_len l l.length
    have h4 : l.length * l.length ≤ 60 * 60 := Nat.mul_le_mul h60 h60
    omega
  · exact Nat.zero_le _
theorem acV_nth (l : List (Int × Int)) {i : Nat} (hi : i < (acV l).length) : (nthI (acV l) i).length ≤ 1000 := by
  have hm : nthI (acV l) i ∈ acV l := by unfold nthI; rw [List.getD_eq_getElem?_getD, List.getElem?_eq_getElem hi]; exact List.getElem_mem hi
  have h2 : ∀ x, x ∈ acV l → x.length = 2 := by
    unfold acV
    split
    · exact acTo_two l l.length
    · intro x hx; cases hx
  have := h2 _ hm
  omega
end Go.Proofs.YtipiamhnngmjmaaDoor
