/-
  Lists of triangles marked and looked at again (contracts for the walks).
  Conditions: as each theorem states them.
-/
import Derived.Test.YtoefllklngnmeaaGreatDoorFSS
namespace Go.Proofs.YtoefllklngnmeaaGreatDoor
open Go.RowKit
set_option linter.unusedVariables false
set_option maxRecDepth 8000
/-- n triangles with the marks from k on. -/
def mk3 (n : Nat) (k : Int) : List (List (Int × Int)) := (List.range n).map fun (j : Nat) => marks 3 (k + 6 * (j : Int))
/-- The first i of n triangles are marked. -/
def upd (L : List (List (Int × Int))) (k : Int) (i : Nat) : List (List (Int × Int)) := (List.range L.length).map fun (j : Nat) => if j < i then marks 3 (k + 6 * (j : Int)) else nth L j
theorem mk3_len (n : Nat) (k : Int) : (mk3 n k).length = n := by simp [mk3]
theorem upd_len (L : List (List (Int × Int))) (k : Int) (i : Nat) : (upd L k i).length = L.length := by simp [upd]
theorem nth_mk3 {n j : Nat} (k : Int) (h : j < n) : nth (mk3 n k) j = marks 3 (k + 6 * (j : Int)) := by simp [nth, mk3, h]
theorem nth_upd {L : List (List (Int × Int))} {j : Nat} (k : Int) (i : Nat) (h : j < L.length) : nth (upd L k i) j = if j < i then marks 3 (k + 6 * (j : Int)) else nth L j := by simp [nth, upd, h]
theorem upd_zero (L : List (List (Int × Int))) (k : Int) : upd L k 0 = L := by
  refine List.ext_getElem (upd_len L k 0) fun i h1 h2 => ?_
  simp [upd, nth, h2]
theorem upd_all (L : List (List (Int × Int))) (k : Int) : upd L k L.length = mk3 L.length k := by
  refine List.ext_getElem (by rw [upd_len, mk3_len]) fun i h1 h2 => ?_
  rw [upd_len] at h1
  simp [upd, mk3, h1]
theorem OwnSS.marked {N : Nat} {v : Value} {L : List (List (Int × Int))} {vs : List Value} {w w' : World} {k : Int} {i : Nat} {ai : Option Addr} {n ci : Nat} (h : OwnSS N v (upd L k i) vs w) (hi : i < vs.length) (e : vs[i] = .slice ai n ci) (hO : OwnC N (.slice ai n ci) (marks 3 (k + 6 * (i : Int))) w') (hs : Spared ai w w') :
    OwnSS N v (upd L k (i + 1)) vs w' := by
  have hlen : vs.length = L.length := by rw [h.len, upd_len]
  have hblk : ∀ b off, ai = Option.some ⟨b, off, none⟩ → vs[i].ownBlock = Option.some b := by
    intro b off e'; rw [e, e']; rfl
  refine ⟨h.out.other hs fun b off e' eb => ?_, by rw [hlen, upd_len], fun j hj => ?_, h.apart, h.far⟩
  · rcases h.far i hi with h1 | h1
    · rw [hblk b off e'] at h1; cases h1
    · exact h1 (by rw [hblk b off e', eb])
  · rw [nth_upd k (i + 1) (by omega)]
    by_cases hji : j = i
    · subst hji
      rw [if_pos (by omega), e]
      exact hO
    · have h2 := h.inn j hj
      rw [nth_upd k i (by omega)] at h2
      have h3 := h2.other hs (fun b off e' eb => by
        rcases h.apart i j hi hj (fun x => hji x.symm) with h1 | h1
        · rw [hblk b off e'] at h1; cases h1
        · exact h1 (by rw [hblk b off e', eb]))
      by_cases hlt : j < i
      · rw [if_pos hlt] at h3
        rw [if_pos (by omega)]
        exact h3
      · rw [if_neg hlt] at h3
        rw [if_neg (by omega)]
        exact h3
end Go.Proofs.YtoefllklngnmeaaGreatDoor
