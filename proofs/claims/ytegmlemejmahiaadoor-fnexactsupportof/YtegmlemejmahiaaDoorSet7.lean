/-
  Lists of points that a call has made: what is owned, marked and held (contracts for the walks).
  Conditions: as each theorem states them.
-/
import Derived.Test.YtegmlemejmahiaaDoorSet2
namespace Go.Proofs.YtegmlemejmahiaaDoor
open Go.RowKit
set_option linter.unusedVariables false
/-- The slice v, made at block N or later, holds the points of l at its head. -/
def Own (N : Nat) (v : Value) (l : List (Int × Int)) (w : World) : Prop :=
  (l = [] ∧ v = .slice none 0 0) ∨ ∃ (g cap : Nat) (f : Nat → Value), v = .slice (some ⟨g, 0, none⟩) l.length cap ∧ N ≤ g ∧ l.length ≤ cap ∧ cap ≤ maxLen ∧ w.rowIs g 26 (cap * 2) f ∧ ∀ i, i < l.length * 2 → f i = cel l i
/-- All blocks but the slice's own are as they were. -/
structure Spared (a : Option Addr) (w w' : World) : Prop where
  os : w'.os = w.os
  tape : w'.tape = w.tape
  output : w'.output = w.output
  size : w.heap.size ≤ w'.heap.size
  block : ∀ k, k < w.heap.size → (∀ b off, a = some ⟨b, off, none⟩ → k ≠ b) → w'.heap[k]? = w.heap[k]?
theorem Spared.refl (a : Option Addr) (w : World) : Spared a w w := ⟨rfl, rfl, rfl, Nat.le_refl _, fun _ _ _ => rfl⟩
theorem Spared.setCell {b off : Nat} {u w : World} (h : Spared (some ⟨b, off, none⟩) u w) (i : Nat) (v : Value) : Spared (some ⟨b, off, none⟩) u (w.setCell ⟨b, i, none⟩ v) := by
  refine ⟨h.os, h.tape, h.output, by rw [World.size_setCell]; exact h.size, fun k hk hb => (Below.heap_setCell w _ v k ?_).trans (h.block k hk hb)⟩
  exact hb b off rfl
theorem Spared.below {a : Option Addr} {w w' : World} {N : Nat} (h : Spared a w w') (hN : N ≤ w.heap.size) (hb : ∀ b off, a = some ⟨b, off, none⟩ → N ≤ b) : Below N w w' :=
  ⟨h.os, h.tape, h.output, h.size, fun k hk => h.block k (by omega) (fun b off e => by have := hb b off e; omega)⟩
theorem At.spared {a c : Option Addr} {l : List (Int × Int)} {w w' : World} {N : Nat} (hA : At N c l w) (h : Spared a w w') (hb : ∀ b off, a = some ⟨b, off, none⟩ → N ≤ b) : At N c l w' := fun i hi => by
  obtain ⟨b, off, e, hN, h0, h1⟩ := hA i hi
  have hlt : b < w.heap.size := World.block_lt_of_cell? w _ h0
  have hbl := h.block b hlt (fun b' off' e' => by have := hb b' off' e'; omega)
  exact ⟨b, off, e, hN, (World.cell?_of_block (w := w) hbl).trans h0, (World.cell?_of_block (w := w) hbl).trans h1⟩
theorem Own.at {N n cap : Nat} {a : Option Addr} {l : List (Int × Int)} {w : World} (h : Own N (.slice a n cap) l w) : At w.heap.size a l w := by
  rcases h with ⟨rfl, e⟩ | ⟨g, c, f, e, h1, h2, h3, h4, h5⟩
  · exact fun i hi => absurd hi (Nat.not_lt_zero _)
  · simp at e
    obtain ⟨rfl, rfl, rfl⟩ := e
    intro i hi
    have q0 := h4.cell (i := i * 2) (by omega)
    have q1 := h4.cell (i := i * 2 + 1) (by omega)
    rw [h5 _ (by omega), cel0] at q0
    rw [h5 _ (by omega), cel1] at q1
    exact ⟨g, 0, rfl, h4.lt, by rw [Nat.zero_add]; exact q0, by rw [Nat.zero_add]; exact q1⟩
theorem Own.len {N n cap : Nat} {a : Option Addr} {l : List (Int × Int)} {w : World} (h : Own N (.slice a n cap) l w) : l.length = n := by
  rcases h with ⟨rfl, e⟩ | ⟨g, c, f, e, _⟩
  · simp at e; simp [e.2.1]
  · simp at e; exact e.2.1.symm
theorem Own.shape {N : Nat} {v : Value} {l : List (Int × Int)} {w : World} (h : Own N v l w) : ∃ a cap, v = .slice a l.length cap := by
  rcases h with ⟨rfl, e⟩ | ⟨g, c, f, e, _⟩
  · exact ⟨none, 0, e⟩
  · exact ⟨_, _, e⟩
theorem Own.ge {N n cap : Nat} {a : Option Addr} {l : List (Int × Int)} {w : World} (h : Own N (.slice a n cap) l w) : ∀ b off, a = some ⟨b, off, none⟩ → N ≤ b := by
  rcases h with ⟨rfl, e⟩ | ⟨g, c, f, e, h1, _⟩
  · simp at e; intro b off hb; rw [e.1] at hb; cases hb
  · simp at e; intro b off hb; rw [e.1] at hb; cases hb; exact h1
theorem Own.later {N : Nat} {v : Value} {l : List (Int × Int)} {w w' : World} (h : Own N v l w) (hb : Below w.heap.size w w') : Own N v l w' := by
  rcases h with h | ⟨g, c, f, e, h1, h2, h3, h4, h5⟩
  · exact .inl h
  · exact .inr ⟨g, c, f, e, h1, h2, h3, rowIs_later h4 hb h4.lt, h5⟩
theorem Own.mono {N M : Nat} {v : Value} {l : List (Int × Int)} {w : World} (h : Own N v l w) (hM : M ≤ N) : Own M v l w := by
  rcases h with h | ⟨g, c, f, e, h1, h2, h3, h4, h5⟩
  · exact .inl h
  · exact .inr ⟨g, c, f, e, by omega, h2, h3, h4, h5⟩
theorem Own.spared {N : Nat} {v : Value} {a : Option Addr} {l : List (Int × Int)} {w w' : World} (h : Own N v l w) (hs : Spared a w w') (hb : ∀ b off, a = some ⟨b, off, none⟩ → b < N) : Own N v l w' := by
  rcases h with h | ⟨g, c, f, e, h1, h2, h3, ⟨cc, k1, k2, k3⟩, h5⟩
  · exact .inl h
  · have hlt : g < w.heap.size := by
      by_cases hg : g < w.heap.size
      · exact hg
      · rw [Array.getElem?_eq_none (by omega)] at k1; cases k1
    exact .inr ⟨g, c, f, e, h1, h2, h3, ⟨cc, (hs.block g hlt (fun b off e' => by have := hb b off e'; omega)).trans k1, k2, k3⟩, h5⟩
theorem Own.nil (N : Nat) (w : World) : Own N (.slice none 0 0) [] w := .inl ⟨rfl, rfl⟩
theorem Row.own {N b : Nat} {l : List (Int × Int)} {w : World} (h : Row N b l w) (hm : l.length ≤ 1048576) : Own N (.slice (some ⟨b, 0, none⟩) l.length l.length) l w :=
  .inr ⟨b, l.length, cel l, rfl, h.le, Nat.le_refl _, by unfold maxLen; omega, h.row, fun _ _ => rfl⟩
/-- The marks. -/
def marks (n : Nat) (k : Int) : List (Int × Int) := (List.range n).map fun (i : Nat) => (k + 2 * (i : Int), k + 2 * (i : Int) + 1)
theorem marks_len (n : Nat) (k : Int) : (marks n k).length = n := by simp [marks]
theorem px_marks {n i : Nat} (k : Int) (h : i < n) : px (marks n k) i = k + 2 * (i : Int) := by simp [px, marks, h]
theorem py_marks {n i : Nat} (k : Int) (h : i < n) : py (marks n k) i = k + 2 * (i : Int) + 1 := by simp [py, marks, h]
theorem cel_marks {n j : Nat} (k : Int) (h : j < n * 2) : cel (marks n k) j = .int .i64 (k + j) := by
  unfold cel
  by_cases hj : j % 2 = 0
  · rw [if_pos hj, px_marks k (by omega)]; congr 1; omega
  · rw [if_neg hj, py_marks k (by omega)]; congr 1; omega
/-- How far a row is marked. -/
structure Mark (g cap : Nat) (k : Int) (j : Nat) (w wr : World) : Prop where
  spared : Spared (some ⟨g, 0, none⟩) w wr
  row : ∃ f, wr.rowIs g 26 (cap * 2) f ∧ ∀ i, i < j * 2 → f i = .int .i64 (k + i)
theorem Mark.cell {g cap : Nat} {k : Int} {j : Nat} {w wr : World} (h : Mark g cap k j w wr) {i : Nat} (hi : i < cap * 2) : ∃ v, wr.cell? ⟨g, i, none⟩ = some v := by
  obtain ⟨f, hf, _⟩ := h.row
  exact ⟨_, hf.cell hi⟩
theorem Mark.frozen {g cap : Nat} {k : Int} {j : Nat} {w wr : World} (h : Mark g cap k j w wr) (i : Nat) : wr.frozen? ⟨g, i, none⟩ = false := by
  obtain ⟨f, hf, _⟩ := h.row
  exact hf.frozen i
theorem Mark.step {g cap : Nat} {k x y : Int} {j : Nat} {w wr : World} (h : Mark g cap k j w wr) (hx : x = k + 2 * (j : Int)) (hy : y = k + 2 * (j : Int) + 1) :
    Mark g cap k (j + 1) w ((wr.setCell ⟨g, j * 2, none⟩ (.int .i64 x)).setCell ⟨g, j * 2 + 1, none⟩ (.int .i64 y)) := by
  obtain ⟨f, hf, he⟩ := h.row
  refine ⟨(h.spared.setCell _ _).setCell _ _, _, (hf.set (j * 2) _).set (j * 2 + 1) _, fun i hi => ?_⟩
  by_cases e1 : i = j * 2 + 1
  · subst e1; rw [if_pos rfl, hy]; congr 1; omega
  · by_cases e0 : i = j * 2
    · subst e0; rw [if_neg e1, if_pos rfl, hx]; congr 1; omega
    · rw [if_neg e1, if_neg e0]; exact he i (by omega)
theorem mark_own {N : Nat} {g cap : Nat} {k : Int} {n : Nat} {w wr : World} (h : Mark g cap k n w wr) (hN : N ≤ g) (hn : n ≤ cap) (hm : cap ≤ maxLen) : Own N (.slice (some ⟨g, 0, none⟩) n cap) (marks n k) wr := by
  obtain ⟨f, hf, he⟩ := h.row
  refine .inr ⟨g, cap, f, by rw [marks_len], hN, by rw [marks_len]; exact hn, hm, hf, fun i hi => ?_⟩
  rw [marks_len] at hi
  rw [he i hi, cel_marks k hi]
set_option maxHeartbeats 4000000 in
theorem mark_c (l : List (Int × Int)) (N : Nat) (a : Option Addr) (n cap : Nat) (k : Int) (w : World) (h0 : 0 ≤ k) (h1 : k ≤ 1073741824) (h2 : n ≤ 1048576) (hO : Own N (.slice a n cap) l w) :
    Calls Tryd.prog 24 #[.slice a n cap, .int .i64 k] w fun e w' => e = .returned (.int .i64 (k + 2 * (n : Int))) ∧ Own N (.slice a n cap) (marks n k) w' ∧ Spared a w w' := by
  rcases hO with ⟨rfl, e⟩ | ⟨g, c, f, e, g1, g2, g3, g4, g5⟩
  · simp at e
    obtain ⟨rfl, rfl, rfl⟩ := e
    go_enter Tryd.func24, Tryd.ntmps24
    go_wp2
    refine wp_loop_rounds 1 ?_
    rw [rounds_succ]
    go_wp2
    go_ret
    exact ⟨by first | rfl | simp, .inl ⟨rfl, rfl⟩, Spared.refl _ _⟩
  · simp at e
    obtain ⟨rfl, rfl, rfl⟩ := e
    have hM : Mark g cap k 0 w w := ⟨Spared.refl _ _, f, g4, fun i hi => absurd hi (by omega)⟩
    have hlc := g2
    have HG := hid (⟨g1, g2, g3⟩ : N ≤ g ∧ l.length ≤ cap ∧ cap ≤ maxLen)
    obtain ⟨n, hn⟩ : ∃ n, l.length = n := ⟨_, rfl⟩
    rw [hn] at h2 hlc HG ⊢
    clear g1 g2 g3 g4 g5 hn
    go_enter Tryd.func24, Tryd.ntmps24
    go_wp2
    go_loopw [1, 5] (fun q i wr => ∃ j : Nat, j ≤ n ∧ i = .int .i64 j ∧ q = .int .i64 (k + 2 * (j : Int)) ∧ Mark g cap k j w wr) (fun q i _ => n - (intOf i).toNat)
    case atStart => exact ⟨0, Nat.zero_le _, rfl, by simp, hM⟩
    case round =>
      obtain ⟨j, hj, rfl, rfl, hC⟩ := hrel
      have HC := hid hC
      clear hC
      by_cases hjn : j < n
      · obtain ⟨v0, q0⟩ := HC.out.cell (i := j * 2) (by omega)
        obtain ⟨v1, q1⟩ := HC.out.cell (i := j * 2 + 1) (by omega)
        have f0 := HC.out.frozen (j * 2)
        have f1 := HC.out.frozen (j * 2 + 1)
        go_wp2
        go_roundw
        case rel => exact ⟨j + 1, by omega, by go_num, by first | go_num | (congr 1; omega), HC.out.step rfl (by omega)⟩
        case measure => simp [intOf]; omega
      · obtain rfl : j = n := by omega
        go_wp2
        go_ret
        exact ⟨rfl, mark_own HC.out HG.out.1 HG.out.2.1 HG.out.2.2, HC.out.spared⟩
set_option maxHeartbeats 4000000 in
theorem held_c (a : Option Addr) (n cap : Nat) (k : Int) (w : World) (h0 : 0 ≤ k) (h1 : k ≤ 1073741824) (h2 : n ≤ 1048576) (hA : At w.heap.size a (marks n k) w) :
    Calls Tryd.prog 29 #[.slice a n cap, .int .i64 k] w fun e w' => e = .returned (.int .i64 (k + 2 * (n : Int))) ∧ Below w.heap.size w w' := by
  have HA := hid hA
  clear hA
  go_enter Tryd.func29, Tryd.ntmps29
  go_wp2
  go_loopw [1, 5] (fun q i wr => ∃ j : Nat, j ≤ n ∧ i = .int .i64 j ∧ q = .int .i64 (k + 2 * (j : Int)) ∧ w = wr) (fun q i _ => n - (intOf i).toNat)
  case atStart => exact ⟨0, Nat.zero_le _, rfl, by simp, rfl⟩
  case round =>
    obtain ⟨j, hj, rfl, rfl, rfl⟩ := hrel
    by_cases hjn : j < n
    · obtain ⟨b, off, rfl, hbN, q0, q1⟩ := HA.out j (by rw [marks_len]; exact hjn)
      rw [px_marks k hjn] at q0
      rw [py_marks k hjn] at q1
      go_wp2
      go_roundw
      case rel => exact ⟨j + 1, by omega, by go_num, by first | go_num | (congr 1; omega), by first | rfl | trivial⟩
      case measure => simp [intOf]; omega
    · obtain rfl : j = n := by omega
      go_wp2
      go_ret
      exact ⟨rfl, Below.refl _ _⟩
end Go.Proofs.YtegmlemejmahiaaDoor
