/-
  The fan of a hull: the program's function and the specification's (contracts for the walks).
  Conditions: as each theorem states them.
-/
import Derived.Test.YtegmlemejmahiaaGreatDoorFPush
import Derived.Test.YtegmlemejmahiaaGreatDoorTop4
namespace Go.Proofs.YtegmlemejmahiaaGreatDoor
open Go.RowKit Go.Shelf
set_option linter.unusedVariables false
set_option maxRecDepth 8000
def fanOk (l : List (Int × Int)) : Bool := ghB l && decide (3 ≤ l.length)
def fanV (l : List (Int × Int)) : List (List (Int × Int)) := if fanOk l = true then fanTo l (l.length - 2) else []
theorem ret_vb' {v : Value} {a b : Bool} (k : a = b) : Ending.returned (.tuple #[v, .bool a]) = .returned (.tuple #[v, .bool b]) := by rw [k]
theorem ownNew {N : Nat} (w w' : World) (x0 y0 x1 y1 x2 y2 : Int) (hb : Below (w.heap.size + 1) (w.alloc (.cells #[.int .i64 x0, .int .i64 y0, .int .i64 x1, .int .i64 y1, .int .i64 x2, .int .i64 y2] 26)) w') (hN : N ≤ w.heap.size) : OwnC N (.slice (some ⟨w.heap.size, 0, none⟩) 3 3) [(x0, y0), (x1, y1), (x2, y2)] w' := by
  have e : w'.heap[w.heap.size]? = some (.cells #[.int .i64 x0, .int .i64 y0, .int .i64 x1, .int .i64 y1, .int .i64 x2, .int .i64 y2] 26) := (hb.block _ (Nat.lt_succ_self _)).trans (heap_alloc_new _ _)
  exact ownC_of (l := [(x0, y0), (x1, y1), (x2, y2)]) hN e (Nat.le_refl _) (by unfold maxLen; decide) (by simp) (by simp [cells])
theorem fanV_len (l : List (Int × Int)) : (fanV l).length ≤ 1000 := by
  unfold fanV
  split
  next h =>
    unfold fanOk at h
    rw [Bool.and_eq_true] at h
    have := ghB_len h.1
    rw [fanTo_len]
    omega
  · exact Nat.zero_le _
theorem fanV_3 (l : List (Int × Int)) {i : Nat} (hi : i < (fanV l).length) : (nth (fanV l) i).length = 3 := by
  unfold fanV at hi ⊢
  split at hi
  next h =>
    rw [if_pos h]
    rw [fanTo_len] at hi
    rw [nth_fanTo hi]
    rfl
  · exact absurd hi (Nat.not_lt_zero _)
theorem OwnSS.spared {N : Nat} {v : Value} {a : Option Addr} {L : List (List (Int × Int))} {vs : List Value} {w w' : World} (h : OwnSS N v L vs w) (hs : Spared a w w') (hb : ∀ b off, a = Option.some ⟨b, off, none⟩ → b < N) : OwnSS N v L vs w' :=
  ⟨h.out.other hs (fun b off e eb => by have := hb b off e; have := (h.out.lt eb).1; omega), h.len, fun i hi => (h.inn i hi).spared hs hb, h.apart, h.far⟩
end Go.Proofs.YtegmlemejmahiaaGreatDoor
