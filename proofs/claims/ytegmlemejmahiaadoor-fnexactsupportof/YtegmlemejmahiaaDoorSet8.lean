/-
  Lists that grow, and what MoveSet answers, in the specification and in the program (contracts for the walks).
  Conditions: as each theorem states them.
-/
import Derived.Test.YtegmlemejmahiaaDoorSet7
import Derived.Test.YtegmlemejmahiaaDoorSet6
import Derived.Laws.OwnMore
import Derived.Laws.AppendOwnNone
namespace Go.Proofs.YtegmlemejmahiaaDoor
open Go.RowKit
set_option linter.unusedVariables false
/-- The cells of a list of points, in a row. -/
def cells (l : List (Int × Int)) : List Value := l.flatMap fun p => [.int .i64 p.1, .int .i64 p.2]
theorem cells_append (l m : List (Int × Int)) : cells (l ++ m) = cells l ++ cells m := by simp [cells]
theorem cells_one (p : Int × Int) : cells [p] = [.int .i64 p.1, .int .i64 p.2] := rfl
theorem cells_len (l : List (Int × Int)) : (cells l).length = l.length * 2 := by
  induction l with
  | nil => rfl
  | cons p l ih =>
    have : cells (p :: l) = .int .i64 p.1 :: .int .i64 p.2 :: cells l := rfl
    rw [this]; simp [ih]; omega
theorem cells_get (l : List (Int × Int)) : ∀ j, j < l.length * 2 → (cells l)[j]? = some (cel l j) := by
  induction l with
  | nil => intro j hj; simp at hj
  | cons p l ih =>
    intro j hj
    have e : cells (p :: l) = .int .i64 p.1 :: .int .i64 p.2 :: cells l := rfl
    rw [e]
    match j, hj with
    | 0, _ => simp [cel, px]
    | 1, _ => simp [cel, py]
    | j + 2, hj =>
      have h := ih j (by simp at hj; omega)
      simp only [List.getElem?_cons_succ]
      rw [h]
      congr 1
      unfold cel
      rw [show (j + 2) % 2 = j % 2 by omega, show (j + 2) / 2 = j / 2 + 1 by omega]
      simp [px, py]
theorem cells_ones (l : List (Int × Int)) : ∀ u ∈ cells l, u.oneCell' = true := by
  intro u hu
  simp only [cells, List.mem_flatMap] at hu
  obtain ⟨p, _, hp⟩ := hu
  simp at hp
  rcases hp with rfl | rfl <;> rfl
theorem own_of {N : Nat} {v : Value} {l : List (Int × Int)} {w : World} {n : Nat} (h : w.ownsRow N 26 2 v n (cells l)) : Own N v l w := by
  obtain ⟨hlen, h⟩ := h
  rw [cells_len] at hlen
  have hn : n = l.length := by omega
  subst hn
  rcases h with ⟨rfl, h0⟩ | ⟨g, cap, cur, rfl, h1, h2, h3, h4, h5, h6⟩
  · exact .inl ⟨List.eq_nil_of_length_eq_zero h0, rfl⟩
  · refine .inr ⟨g, cap, fun i => (cur[i]?).getD undef, rfl, h1, h3, h4, ⟨cur, h2, h5, fun i hi => ?_⟩, fun i hi => ?_⟩
    · show cur[i]? = some ((cur[i]?).getD undef)
      rw [Array.getElem?_eq_getElem (by omega)]; rfl
    · have h := cells_get l i hi
      rw [← h6, List.getElem?_take, if_pos hi, Array.getElem?_toList] at h
      show (cur[i]?).getD undef = cel l i
      rw [h]; rfl
theorem row_of {N : Nat} {v : Value} {l : List (Int × Int)} {w : World} (h : Own N v l w) : w.ownsRow N 26 2 v l.length (cells l) := by
  refine ⟨cells_len l, ?_⟩
  rcases h with ⟨rfl, e⟩ | ⟨g, cap, f, e, h1, h2, h3, ⟨cc, k1, k2, k3⟩, h5⟩
  · exact .inl ⟨e, rfl⟩
  · refine .inr ⟨g, cap, cc, e, h1, k1, h2, h3, k2, ?_⟩
    refine List.ext_getElem? fun i => ?_
    by_cases hi : i < l.length * 2
    · rw [List.getElem?_take, if_pos hi, Array.getElem?_toList, k3 i (by omega), h5 i hi, cells_get l i hi]
    · rw [List.getElem?_eq_none (by simp; omega), List.getElem?_eq_none (by rw [cells_len]; omega)]
theorem Cop.later {l : List (Int × Int)} {k : Nat} {w wr u : World} (h : Cop l k w wr) (hb : Below wr.heap.size wr u) : Cop l k w u := ⟨grew h.below hb, rowIs_later h.row hb h.row.lt⟩
theorem Cop.own {l : List (Int × Int)} {w wr : World} (h : Cop l l.length w wr) (hm : l.length ≤ 1048576) : Own w.heap.size (.slice (some ⟨w.heap.size, 0, none⟩) l.length l.length) l wr :=
  .inr ⟨w.heap.size, l.length, _, rfl, Nat.le_refl _, Nat.le_refl _, by unfold maxLen; omega, h.row, fun i hi => by rw [if_pos hi]⟩
theorem grown_own {w wr u w' : World} {v : Value} {n : Nat} {xs : List Value} (h : Below w.heap.size w wr) (hb : Below wr.heap.size wr u) (hg : u.grownBy w' v.ownBlock) (ho : wr.ownsRow w.heap.size 26 2 v n xs) : Below w.heap.size w w' :=
  (grew h hb).grown hg (Nat.le_trans h.size hb.size) (fun k hk => (ho.lt k hk).1)
/-- Every point moved. -/
def moveL (l : List (Int × Int)) (x y : Int) : List (Int × Int) := l.map fun p => (p.1 + x, p.2 + y)
theorem moveL_len (l : List (Int × Int)) (x y : Int) : (moveL l x y).length = l.length := by simp [moveL]
theorem px_move {l : List (Int × Int)} {k : Nat} (x y : Int) (h : k < l.length) : px (moveL l x y) k = px l k + x := by simp [px, moveL, h]
theorem py_move {l : List (Int × Int)} {k : Nat} (x y : Int) (h : k < l.length) : py (moveL l x y) k = py l k + y := by simp [py, moveL, h]
def movOk (l : List (Int × Int)) (x y : Int) : Bool := goodL l && goodB x y && goodL (moveL l x y)
def movR (l : List (Int × Int)) (x y : Int) : List (Int × Int) := if movOk l x y then moveL l x y else []
theorem move_rises {l : List (Int × Int)} (x y : Int) (h : RisesTo l (l.length - 1)) : RisesTo (moveL l x y) ((moveL l x y).length - 1) := fun i hi => by
  rw [moveL_len] at hi
  have := of_decide_eq_true (h i hi)
  rw [px_move x y (by omega), py_move x y (by omega), px_move x y (by omega), py_move x y (by omega)]
  exact decide_eq_true (by omega)
theorem move_good {l : List (Int × Int)} {x y : Int} (h : goodL l = true) : goodL (moveL l x y) = allGood (moveL l x y) := by
  rw [goodL, (rises_iff _).2 (move_rises x y (goodL_rises h)), decide_eq_true (by rw [moveL_len]; exact goodL_few h)]; simp
theorem moveL_take {l : List (Int × Int)} {k : Nat} (x y : Int) (h : k < l.length) : moveL (l.take (k + 1)) x y = moveL (l.take k) x y ++ [(px l k + x, py l k + y)] := by
  unfold moveL
  rw [List.take_succ_eq_append_getElem h, List.map_append]
  simp [px, py, h]
theorem goodB_b {x y : Int} (h : goodB x y = true) : (-1000000 ≤ x ∧ x ≤ 1000000) ∧ (-1000000 ≤ y ∧ y ≤ 1000000) := by have := of_decide_eq_true h; omega
end Go.Proofs.YtegmlemejmahiaaDoor
