/-
  The points of a set that are not outside of a hull, and whether a hull covers another: the program's functions and the specification's (contracts for the walks).
  Conditions: as each theorem states them.
-/
import Derived.Test.YtoefllklngnmeaaDoorTop4
import Derived.Test.YtoefllklngnmeaaDoorB2
namespace Go.Proofs.YtoefllklngnmeaaDoor
open Go.RowKit Go.Shelf
set_option linter.unusedVariables false
set_option maxRecDepth 8000
def inB (h : List (Int × Int)) (p : Int × Int) : Bool := !decide (whS h p = 0)
def inOk (h s : List (Int × Int)) : Bool := ghB h && goodL s
def inL (h s : List (Int × Int)) : List (Int × Int) := if inOk h s = true then s.filter (inB h) else []
def cvOk (g h : List (Int × Int)) : Bool := ghB g && ghB h
def cvB (g h : List (Int × Int)) : Bool := cvOk g h && allT (fun k => inB g (px h k, py h k)) h.length
theorem take_one {l : List (Int × Int)} {k : Nat} (h : k < l.length) : l.take (k + 1) = l.take k ++ [(px l k, py l k)] := by
  have e : (px l k, py l k) = l[k] := by simp [px, py, h]
  rw [e, List.take_add_one, List.getElem?_eq_getElem h]; rfl
theorem filt_yes {l : List (Int × Int)} {f : Int × Int → Bool} {k : Nat} (h : k < l.length) (e : f (px l k, py l k) = true) : (l.take (k + 1)).filter f = (l.take k).filter f ++ [(px l k, py l k)] := by
  rw [take_one h, List.filter_append]; simp [e]
theorem filt_no {l : List (Int × Int)} {f : Int × Int → Bool} {k : Nat} (h : k < l.length) (e : f (px l k, py l k) = false) : (l.take (k + 1)).filter f = (l.take k).filter f := by
  rw [take_one h, List.filter_append]; simp [e]
theorem filt_len (l : List (Int × Int)) (f : Int × Int → Bool) (k : Nat) : ((l.take k).filter f).length ≤ k :=
  Nat.le_trans (List.length_filter_le _ _) (by rw [List.length_take]; omega)
theorem inL_len (h s : List (Int × Int)) : (inL h s).length ≤ s.length := by
  unfold inL
  split
  · exact List.length_filter_le _ _
  · exact Nat.zero_le _
theorem ret_vb {v u : Value} {a b : Bool} (h : v = u) (k : a = b) : Ending.returned (.tuple #[v, .bool a]) = .returned (.tuple #[u, .bool b]) := by rw [h, k]
end Go.Proofs.YtoefllklngnmeaaDoor
