/-
  Chapter 9's contracts and what the laws want beside them.
  Conditions: as each theorem states them.
-/
import Derived.Test.YtoefllklngnmeaaDoorLy9h
import Derived.Test.YtoefllklngnmeaaDoorFMarkG
namespace Go.Proofs.YtoefllklngnmeaaDoor
open Go.RowKit Go.Shelf
set_option linter.unusedVariables false
theorem OwnSS.spared {N : Nat} {v : Value} {a : Option Addr} {L : List (List (Int × Int))} {vs : List Value} {w w' : World} (h : OwnSS N v L vs w) (hs : Spared a w w') (hb : ∀ b off, a = Option.some ⟨b, off, none⟩ → b < N) : OwnSS N v L vs w' :=
  ⟨h.out.other hs (fun b off e eb => by have := hb b off e; have := (h.out.lt eb).1; omega), h.len, fun i hi => (h.inn i hi).spared hs hb, h.apart, h.far⟩
theorem lysL_nth (l : List (Int × Int)) {i : Nat} (hi : i < (lysL l).length) : (nth (lysL l) i).length ≤ 1000 := by
  have : nth (lysL l) i ∈ lysL l := by unfold nth; rw [List.getD_eq_getElem?_getD, List.getElem?_eq_getElem hi]; exact List.getElem_mem hi
  have := lysL_in l _ this
  omega
end Go.Proofs.YtoefllklngnmeaaDoor
