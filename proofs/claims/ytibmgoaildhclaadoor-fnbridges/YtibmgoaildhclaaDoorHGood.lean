/-
  What is a good hull, and what is the hull of a set, in the specification and in the program (contracts for the walks).
  Conditions: as each theorem states them.
-/
import Derived.Test.YtibmgoaildhclaaDoorHHull
namespace Go.Proofs.YtibmgoaildhclaaDoor
open Go.RowKit Go.Shelf
set_option linter.unusedVariables false
set_option maxRecDepth 8000
theorem put1_mem {s : List (Int × Int)} {x y : Int} {p : Int × Int} (h : p ∈ put1 s x y) : p ∈ s ∨ p = (x, y) := by
  unfold put1 at h
  split at h
  · exact .inl h
  · unfold putR at h
    rcases List.mem_append.1 h with h | h
    · exact .inl (List.mem_of_mem_take h)
    · rcases List.mem_cons.1 h with h | h
      · exact .inr h
      · exact .inl (List.mem_of_mem_drop h)
theorem fromL_mem_aux (l : List (Int × Int)) : ∀ (s : List (Int × Int)) (p : Int × Int), p ∈ l.foldl (fun s p => put1 s p.1 p.2) s → p ∈ s ∨ p ∈ l := by
  induction l with
  | nil => intro s p h; exact .inl h
  | cons q l ih =>
    intro s p h
    rcases ih _ _ h with h | h
    · rcases put1_mem h with h | h
      · exact .inl h
      · exact .inr (by simp [h])
    · exact .inr (by simp [h])
theorem fromL_mem {l : List (Int × Int)} {p : Int × Int} (h : p ∈ fromL l) : p ∈ l := by
  rcases fromL_mem_aux l [] p h with h | h
  · cases h
  · exact h
theorem fromL_all {l : List (Int × Int)} (h : allG l) : allG (fromL l) := fun p hp => h p (fromL_mem hp)
theorem fromL_few (l : List (Int × Int)) : (fromL l).length ≤ l.length := by
  have := fromL_len l l.length (Nat.le_refl _)
  rwa [List.take_length] at this
def ghB (l : List (Int × Int)) : Bool := allGood l && (decide (l.length ≤ 60) && decide (hullB slB (fromL l) = l))
def ihOk (l m : List (Int × Int)) : Bool := goodL l && decide (m.length ≤ 60)
def ihB (l m : List (Int × Int)) : Bool := ihOk l m && decide (hullB slB l = m)
theorem ret_bb {a b c d : Bool} (h : a = b) (k : c = d) : Ending.returned (.tuple #[.bool a, .bool c]) = .returned (.tuple #[.bool b, .bool d]) := by rw [h, k]
end Go.Proofs.YtibmgoaildhclaaDoor
