/-
  Points, sets and hulls: contracts for the walks (Pts, Set1, Set2, Set7, Set3, Set4, Set5, Set6, Set8, Set10, Set11, Set12, Set9, Set13, Set16 in one text).
  Conditions: as each theorem states them.
-/
import Derived.Test.YtipiamhnngmjmaaDoorRows
import Derived.WalkKit
import Derived.ProofKit
import Derived.OpenShut
import Derived.Handy
import Derived.WalkSpells
import Derived.Deep.OwnRows
import Derived.Deep.RegionHeld3
import Derived.Deep.QuietTactic
import Derived.BigQuiet
import Derived.Laws.OwnMore
import Derived.Laws.AppendOwnNone
import Derived.Deep.DeepCutAuto
import Derived.Deep.AppendLies
namespace Go.Proofs.YtipiamhnngmjmaaDoor
open Go.RowKit
set_option linter.unusedVariables false
set_option maxRecDepth 8000
theorem hid {p : Prop} (h : p) : Hid p := h
/-- Whether both numbers are within MaxXY. -/
def goodB (x y : Int) : Bool := decide (-1000000 ≤ x ∧ x ≤ 1000000 ∧ -1000000 ≤ y ∧ y ≤ 1000000)
theorem ret_bool {a b : Bool} (h : a = b) : Ending.returned (.bool a) = .returned (.bool b) := by rw [h]
theorem ret_int {a b : Int} (h : a = b) : Ending.returned (.int .i64 a) = .returned (.int .i64 b) := by rw [h]
theorem toPoint_c (x y : Int) (w : World) :
    Calls Tryd.prog 13 #[.agg #[.int .i64 x, .int .i64 y]] w fun e w' => e = .returned (.agg #[.int .i64 x, .int .i64 y]) ∧ Below w.heap.size w w' := by
  go_enter Tryd.func13, Tryd.ntmps13
  go_wp2
  go_returns
  exact ⟨rfl, by go_grown⟩
set_option maxHeartbeats 2000000 in
theorem goodSpec_c (x y : Int) (w : World) : Calls Tryd.prog 46 #[.agg #[.int .i64 x, .int .i64 y]] w fun e w' => e = .returned (.bool (goodB x y)) ∧ w.alloc (.cells #[.int .i64 x, .int .i64 y] 26) = w' := by
  by_cases h1 : -1000000 ≤ x
  · by_cases h2 : x ≤ 1000000
    · by_cases h3 : -1000000 ≤ y
      · by_cases h4 : y ≤ 1000000
        · have e : goodB x y = true := decide_eq_true (by omega)
          go_enter Tryd.func46, Tryd.ntmps46
          go_wp2
          go_ret
          exact ⟨by first | rfl | (rw [e]; rfl), rfl⟩
        · have e : goodB x y = false := decide_eq_false (by omega)
          go_enter Tryd.func46, Tryd.ntmps46
          go_wp2
          go_ret
          exact ⟨by first | rfl | (rw [e]; rfl), rfl⟩
      · have e : goodB x y = false := decide_eq_false (by omega)
        go_enter Tryd.func46, Tryd.ntmps46
        go_wp2
        go_ret
        exact ⟨by first | rfl | (rw [e]; rfl), rfl⟩
    · have e : goodB x y = false := decide_eq_false (by omega)
      go_enter Tryd.func46, Tryd.ntmps46
      go_wp2
      go_ret
      exact ⟨by first | rfl | (rw [e]; rfl), rfl⟩
  · have e : goodB x y = false := decide_eq_false (by omega)
    go_enter Tryd.func46, Tryd.ntmps46
    go_wp2
    go_ret
    exact ⟨by first | rfl | (rw [e]; rfl), rfl⟩
set_option maxHeartbeats 2000000 in
theorem goodImpl_c (x y : Int) (w : World) (c0 : w.cell? ⟨0, 0, none⟩ = some (.int .i64 1000000)) : Calls Tryd.prog 48 #[.agg #[.int .i64 x, .int .i64 y]] w fun e w' => e = .returned (.bool (goodB x y)) ∧ (w.alloc (.cells #[.int .i64 x, .int .i64 y] 26)).alloc (.cells #[.int .i64 x, .int .i64 y] 26) = w' := by
  have hz : 0 < w.heap.size := World.block_lt_of_cell? w _ c0
  by_cases h1 : -1000000 ≤ x
  · by_cases h2 : x ≤ 1000000
    · by_cases h3 : -1000000 ≤ y
      · by_cases h4 : y ≤ 1000000
        · have e : goodB x y = true := decide_eq_true (by omega)
          go_enter Tryd.func48, Tryd.ntmps48
          go_wp2
          go_ret
          exact ⟨by first | rfl | (rw [e]; rfl), rfl⟩
        · have e : goodB x y = false := decide_eq_false (by omega)
          go_enter Tryd.func48, Tryd.ntmps48
          go_wp2
          go_ret
          exact ⟨by first | rfl | (rw [e]; rfl), rfl⟩
      · have e : goodB x y = false := decide_eq_false (by omega)
        go_enter Tryd.func48, Tryd.ntmps48
        go_wp2
        go_ret
        exact ⟨by first | rfl | (rw [e]; rfl), rfl⟩
    · have e : goodB x y = false := decide_eq_false (by omega)
      go_enter Tryd.func48, Tryd.ntmps48
      go_wp2
      go_ret
      exact ⟨by first | rfl | (rw [e]; rfl), rfl⟩
  · have e : goodB x y = false := decide_eq_false (by omega)
    go_enter Tryd.func48, Tryd.ntmps48
    go_wp2
    go_ret
    exact ⟨by first | rfl | (rw [e]; rfl), rfl⟩
/-- Whether a point comes first. -/
def lessB (x0 y0 x1 y1 : Int) : Bool := decide (x0 < x1 ∨ x0 = x1 ∧ y0 < y1)
theorem lessSpec_c (x0 y0 x1 y1 : Int) (w : World) :
    Calls Tryd.prog 89 #[.agg #[.int .i64 x0, .int .i64 y0], .agg #[.int .i64 x1, .int .i64 y1]] w fun e w' => e = .returned (.bool (lessB x0 y0 x1 y1)) ∧ Below w.heap.size w w' := by
  by_cases h1 : x0 < x1
  · have e : lessB x0 y0 x1 y1 = true := by simp [lessB]; omega
    go_enter Tryd.func89, Tryd.ntmps89
    go_wp2
    all_goals go_ret
    all_goals exact ⟨by first | rfl | (rw [e]; rfl), by go_grown⟩
  · by_cases h2 : x0 = x1
    · subst h2
      by_cases h4 : y0 < y1
      · have e : lessB x0 y0 x0 y1 = true := by simp [lessB]; omega
        go_enter Tryd.func89, Tryd.ntmps89
        go_wp2
        all_goals go_ret
        all_goals exact ⟨by first | rfl | (rw [e]; rfl), by go_grown⟩
      · have e : lessB x0 y0 x0 y1 = false := by simp [lessB]; omega
        go_enter Tryd.func89, Tryd.ntmps89
        go_wp2
        all_goals go_ret
        all_goals exact ⟨by first | rfl | (rw [e]; rfl), by go_grown⟩
    · have h3 : (x0 == x1) = false := by simpa using h2
      have e : lessB x0 y0 x1 y1 = false := by simp [lessB]; omega
      go_enter Tryd.func89, Tryd.ntmps89
      go_wp2
      all_goals go_ret
      all_goals exact ⟨by first | rfl | (rw [e]; rfl), by go_grown⟩
theorem lessImpl_c (x0 y0 x1 y1 : Int) (w : World) :
    Calls Tryd.prog 136 #[.agg #[.int .i64 x0, .int .i64 y0], .agg #[.int .i64 x1, .int .i64 y1]] w fun e w' => e = .returned (.bool (lessB x0 y0 x1 y1)) ∧ Below w.heap.size w w' := by
  by_cases h1 : x0 < x1
  · have e : lessB x0 y0 x1 y1 = true := by simp [lessB]; omega
    have h3 : (x0 == x1) = false := by simp; omega
    go_enter Tryd.func136, Tryd.ntmps136
    go_wp2
    all_goals go_ret
    all_goals exact ⟨by first | rfl | (rw [e]; rfl), by go_grown⟩
  · by_cases h2 : x0 = x1
    · subst h2
      by_cases h4 : y0 < y1
      · have e : lessB x0 y0 x0 y1 = true := by simp [lessB]; omega
        go_enter Tryd.func136, Tryd.ntmps136
        go_wp2
        all_goals go_ret
        all_goals exact ⟨by first | rfl | (rw [e]; rfl), by go_grown⟩
      · have e : lessB x0 y0 x0 y1 = false := by simp [lessB]; omega
        go_enter Tryd.func136, Tryd.ntmps136
        go_wp2
        all_goals go_ret
        all_goals exact ⟨by first | rfl | (rw [e]; rfl), by go_grown⟩
    · have h3 : (x0 == x1) = false := by simpa using h2
      have e : lessB x0 y0 x1 y1 = false := by simp [lessB]; omega
      go_enter Tryd.func136, Tryd.ntmps136
      go_wp2
      all_goals go_ret
      all_goals exact ⟨by first | rfl | (rw [e]; rfl), by go_grown⟩
theorem grew {w u w' : World} (h : Below w.heap.size w u) (hb : Below u.heap.size u w') : Below w.heap.size w w' := h.trans (hb.mono h.size)
theorem lessThan_c (x0 y0 x1 y1 : Int) (w : World) : Calls Tryd.prog 135 #[.agg #[.int .i64 x0, .int .i64 y0], .agg #[.int .i64 x1, .int .i64 y1]] w fun e w' => e = .returned (.bool (lessB x0 y0 x1 y1)) ∧ Below w.heap.size w w' := by
  go_enter Tryd.func135, Tryd.ntmps135
  go_wp2_with (go_at_call 136; refine (lessImpl_c _ _ _ _ _).mono ?_; rintro e w' ⟨rfl, hb⟩)
  go_ret
  exact ⟨rfl, grew (by go_grown) hb⟩
/-- Whether two points are the same. -/
def eqB (x0 y0 x1 y1 : Int) : Bool := decide (x0 = x1 ∧ y0 = y1)
theorem eqPoint_c (x0 y0 x1 y1 : Int) (w : World) : Calls Tryd.prog 19 #[.agg #[.int .i64 x0, .int .i64 y0], .agg #[.int .i64 x1, .int .i64 y1]] w fun e w' => e = .returned (.bool (eqB x0 y0 x1 y1)) ∧ Below w.heap.size w w' := by
  by_cases h1 : x0 = x1
  · subst h1
    by_cases h2 : y0 = y1
    · subst h2
      have e : eqB x0 y0 x0 y0 = true := by simp [eqB]
      go_enter Tryd.func19, Tryd.ntmps19
      go_wp2
      all_goals go_ret
      all_goals exact ⟨by first | rfl | (rw [e]; rfl), by go_grown⟩
    · have e : eqB x0 y0 x0 y1 = false := by simp [eqB, h2]
      have h3 : (y0 != y1) = true := by simpa using h2
      go_enter Tryd.func19, Tryd.ntmps19
      go_wp2
      all_goals go_ret
      all_goals exact ⟨by first | rfl | (rw [e]; rfl), by go_grown⟩
  · have e : eqB x0 y0 x1 y1 = false := by simp [eqB, h1]
    have h3 : (x0 != x1) = true := by simpa using h1
    go_enter Tryd.func19, Tryd.ntmps19
    go_wp2
    all_goals go_ret
    all_goals exact ⟨by first | rfl | (rw [e]; rfl), by go_grown⟩
theorem szPointS_c (a : Option Addr) (len cap : Nat) (n : Int) (h : (len : Int) ≤ n) (hn : n ≤ 1048576) (w : World) : Calls Tryd.prog 15 #[.slice a len cap, .int .i64 n] w fun e w' => e = .returned (.int .i64 (n - len)) ∧ w = w' := by
  have h0 : 0 ≤ n - len := by omega
  go_enter Tryd.func15, Tryd.ntmps15
  go_wp2
  all_goals go_ret
  all_goals exact ⟨by first | rfl | omega, rfl⟩
theorem szPointS_f (a : Option Addr) (len cap : Nat) (n : Int) (h : n < (len : Int)) (hn : 0 ≤ n) (hm : len ≤ maxLen) (w : World) : Calls Tryd.prog 15 #[.slice a len cap, .int .i64 n] w fun e w' => e = .returned (.int .i64 (-1)) ∧ w = w' := by
  unfold maxLen at hm
  have h0 : n - len < 0 := by omega
  go_enter Tryd.func15, Tryd.ntmps15
  go_wp2
  all_goals go_ret
  all_goals exact ⟨by first | rfl | omega, rfl⟩
end Go.Proofs.YtipiamhnngmjmaaDoor
namespace Go.Proofs.YtipiamhnngmjmaaDoor
open Go.RowKit
set_option linter.unusedVariables false
set_option maxRecDepth 8000
/-- The numbers of the point at a place. -/
def px (l : List (Int × Int)) (i : Nat) : Int := (l.getD i (0, 0)).1
def py (l : List (Int × Int)) (i : Nat) : Int := (l.getD i (0, 0)).2
/-- The cells of a list of points. -/
def cel (l : List (Int × Int)) (j : Nat) : Value := if j % 2 = 0 then .int .i64 (px l (j / 2)) else .int .i64 (py l (j / 2))
theorem cel0 (l : List (Int × Int)) (i : Nat) : cel l (i * 2) = .int .i64 (px l i) := by
  unfold cel; rw [if_pos (by omega), show i * 2 / 2 = i by omega]
theorem cel1 (l : List (Int × Int)) (i : Nat) : cel l (i * 2 + 1) = .int .i64 (py l i) := by
  unfold cel; rw [if_neg (by omega), show (i * 2 + 1) / 2 = i by omega]
/-- A list of points lies at an address, below block N. -/
def At (N : Nat) (a : Option Addr) (l : List (Int × Int)) (w : World) : Prop :=
  ∀ i, i < l.length → ∃ b off, a = some ⟨b, off, none⟩ ∧ b < N ∧ w.cell? ⟨b, off + i * 2, none⟩ = some (.int .i64 (px l i)) ∧ w.cell? ⟨b, off + i * 2 + 1, none⟩ = some (.int .i64 (py l i))
theorem At.later {N : Nat} {a : Option Addr} {l : List (Int × Int)} {w w' : World} (h : At N a l w) (hb : Below w.heap.size w w') : At N a l w' := fun i hi => by
  obtain ⟨b, off, e, hN, h0, h1⟩ := h i hi
  exact ⟨b, off, e, hN, cell_later hb h0, cell_later hb h1⟩
theorem At.mono {N M : Nat} {a : Option Addr} {l : List (Int × Int)} {w : World} (h : At N a l w) (hNM : N ≤ M) : At M a l w := fun i hi => by
  obtain ⟨b, off, e, hN, h0, h1⟩ := h i hi
  exact ⟨b, off, e, by omega, h0, h1⟩
theorem info_pt : (Tryd.prog.info? 26).map (fun i => (i.zero, i.size, i.bytes)) = some (some (.agg #[.int .i64 0, .int .i64 0]), 2, 16) := by kernel_rfl
theorem rowIs_later {w w' : World} {b t n N : Nat} {f : Nat → Value} (h : w.rowIs b t n f) (hb : Below N w w') (hN : b < N) : w'.rowIs b t n f := by
  obtain ⟨c, h1, h2, h3⟩ := h
  exact ⟨c, (hb.block b hN).trans h1, h2, h3⟩
/-- How far a list is copied. -/
structure Cop (l : List (Int × Int)) (k : Nat) (w wr : World) : Prop where
  below : Below w.heap.size w wr
  row : wr.rowIs w.heap.size 26 (l.length * 2) (fun j => if j < k * 2 then cel l j else .int .i64 0)
theorem Cop.step {l : List (Int × Int)} {k : Nat} {w wr u : World} (h : Cop l k w wr) (hb : Below wr.heap.size wr u) (hk : k < l.length) :
    Cop l (k + 1) w ((u.setCell ⟨w.heap.size, k * 2, none⟩ (.int .i64 (px l k))).setCell ⟨w.heap.size, k * 2 + 1, none⟩ (.int .i64 (py l k))) := by
  have hlt := h.row.lt
  have hbu : Below w.heap.size w u := h.below.trans (hb.mono h.below.size)
  refine ⟨(hbu.setCell (Nat.le_refl _) _).setCell (Nat.le_refl _) _, (((rowIs_later h.row hb hlt).set (k * 2) _).set (k * 2 + 1) _).congr fun j hj => ?_⟩
  by_cases e1 : j = k * 2 + 1
  · subst e1
    rw [if_pos rfl, if_pos (by omega), cel1]
  · by_cases e0 : j = k * 2
    · subst e0
      rw [if_neg e1, if_pos rfl, if_pos (by omega), cel0]
    · simp only [e0, e1, if_false]
      by_cases hlk : j < k * 2
      · rw [if_pos hlk, if_pos (by omega)]
      · rw [if_neg hlk, if_neg (by omega)]
theorem Cop.start (l : List (Int × Int)) (w : World) : Cop l 0 w (w.alloc (.cells (madeCells #[.int .i64 0, .int .i64 0] (l.length * 2)) 26)) := by
  refine ⟨(Below.refl _ _).alloc (Nat.le_refl _) _, _, heap_alloc_new _ _, size_madeCells _ _, fun i hi => ?_⟩
  simp [madeCells, hi]
  rcases (show i % 2 = 0 ∨ i % 2 = 1 by omega) with h | h <;> simp [h]
theorem Cop.t0 {l : List (Int × Int)} {k : Nat} {w wr u : World} (h : Cop l k w wr) (hb : Below wr.heap.size wr u) (hk : k < l.length) : u.cell? ⟨w.heap.size, k * 2, none⟩ = some (.int .i64 0) := by
  have := (rowIs_later h.row hb h.row.lt).cell (i := k * 2) (by omega)
  rwa [if_neg (by omega)] at this
theorem Cop.t1 {l : List (Int × Int)} {k : Nat} {w wr u : World} (h : Cop l k w wr) (hb : Below wr.heap.size wr u) (hk : k < l.length) : u.cell? ⟨w.heap.size, k * 2 + 1, none⟩ = some (.int .i64 0) := by
  have := (rowIs_later h.row hb h.row.lt).cell (i := k * 2 + 1) (by omega)
  rwa [if_neg (by omega)] at this
theorem Cop.f {l : List (Int × Int)} {k : Nat} {w wr u : World} (h : Cop l k w wr) (hb : Below wr.heap.size wr u) (i : Nat) : u.frozen? ⟨w.heap.size, i, none⟩ = false := (rowIs_later h.row hb h.row.lt).frozen i
set_option maxHeartbeats 2000000 in
theorem toPointS_c (l : List (Int × Int)) (a : Option Addr) (len cap : Nat) (w : World) (hl : l.length = len) (hm : len ≤ 1048576) (hA : At w.heap.size a l w) :
    Calls Tryd.prog 17 #[.slice a len cap] w fun e w' => e = .returned (.slice (some ⟨w.heap.size, 0, none⟩) len len) ∧ Cop l l.length w w' := by
  obtain ⟨i0, hi, hz0, hz1, hz2⟩ := info_parts info_pt
  subst hl
  have HA := hid hA
  clear hA
  have hmk := fun (u : World) => run_make (P := Tryd.prog) u 33 26 i0 _ Tryd.underlying33 hi hz0 .i64 .i64 l.length l.length (by omega) (by omega) (by rw [hz2]; omega) (by omega)
  simp only [hz1, Int.toNat_natCast] at hmk
  clear hz0 hz1 hz2 hi
  go_enter Tryd.func17, Tryd.ntmps17
  go_wp2
  go_loopw [4] (fun i wr => ∃ k : Nat, k ≤ l.length ∧ i = .int .i64 k ∧ Cop l k w wr) (fun i _ => l.length - (intOf i).toNat)
  case atStart => exact ⟨0, Nat.zero_le _, rfl, Cop.start _ _⟩
  case round =>
    obtain ⟨k, hk, rfl, hC⟩ := hrel
    have HC := hid hC
    have hsz : w.heap.size < wr.heap.size := hC.row.lt
    clear hC
    by_cases hkl : k < l.length
    · obtain ⟨b, off, rfl, hbN, g0, g1⟩ := HA.out k (by omega)
      have q0 := cell_later HC.out.below g0
      have q1 := cell_later HC.out.below g1
      clear g0 g1
      go_wp2_with (go_at_call 13; refine (toPoint_c _ _ _).mono ?_; rintro e w' ⟨rfl, hb⟩; have t0 := HC.out.t0 hb hkl; have t1 := HC.out.t1 hb hkl; have f0 := HC.out.f hb (k * 2); have f1 := HC.out.f hb (k * 2 + 1))
      go_roundw
      case rel => exact ⟨k + 1, by omega, by go_num, HC.out.step hb hkl⟩
      case measure => simp [intOf]; omega
    · obtain rfl : k = l.length := by omega
      go_wp2
      go_ret
      exact ⟨rfl, HC.out⟩
theorem Cop.at {l : List (Int × Int)} {w wr : World} (h : Cop l l.length w wr) : At wr.heap.size (some ⟨w.heap.size, 0, none⟩) l wr := fun i hi => by
  have h0 := h.row.cell (i := i * 2) (by omega)
  have h1 := h.row.cell (i := i * 2 + 1) (by omega)
  rw [if_pos (by omega), cel0] at h0
  rw [if_pos (by omega), cel1] at h1
  exact ⟨w.heap.size, 0, rfl, h.row.lt, by rw [Nat.zero_add]; exact h0, by rw [Nat.zero_add]; exact h1⟩
/-- A list of points fills a block, at N or later. -/
structure Row (N b : Nat) (l : List (Int × Int)) (w : World) : Prop where
  le : N ≤ b
  row : w.rowIs b 26 (l.length * 2) (cel l)
theorem Row.at {N b : Nat} {l : List (Int × Int)} {w : World} (h : Row N b l w) : At w.heap.size (some ⟨b, 0, none⟩) l w := fun i hi => by
  have h0 := h.row.cell (i := i * 2) (by omega)
  have h1 := h.row.cell (i := i * 2 + 1) (by omega)
  rw [cel0] at h0
  rw [cel1] at h1
  exact ⟨b, 0, rfl, h.row.lt, by rw [Nat.zero_add]; exact h0, by rw [Nat.zero_add]; exact h1⟩
theorem Row.later {N b : Nat} {l : List (Int × Int)} {w w' : World} (h : Row N b l w) (hb : Below w.heap.size w w') : Row N b l w' := ⟨h.le, rowIs_later h.row hb h.row.lt⟩
theorem toPointS_e (l : List (Int × Int)) (a : Option Addr) (len cap : Nat) (w : World) (hl : l.length = len) (hm : len ≤ 1048576) (hA : At w.heap.size a l w) :
    Calls Tryd.prog 17 #[.slice a len cap] w fun e w' => ∃ b, e = .returned (.slice (some ⟨b, 0, none⟩) len len) ∧ Row w.heap.size b l w' ∧ Below w.heap.size w w' := by
  refine (toPointS_c l a len cap w hl hm hA).mono ?_
  rintro e w' ⟨he, hc⟩
  exact ⟨w.heap.size, he, ⟨Nat.le_refl _, hc.row.congr fun j hj => by rw [if_pos hj]⟩, hc.below⟩
end Go.Proofs.YtipiamhnngmjmaaDoor
namespace Go.Proofs.YtipiamhnngmjmaaDoor
open Go.RowKit
set_option linter.unusedVariables false
set_option maxRecDepth 8000
theorem keep4 {w W W' : World} {a0 a1 a2 a3 : Addr} {v0 v1 v2 v3 : Value} (hb : Below W.heap.size W W') (h : W.cell? a0 = some v0 ∧ W.cell? a1 = some v1 ∧ W.cell? a2 = some v2 ∧ W.cell? a3 = some v3 ∧ Below w.heap.size w W) :
    W'.cell? a0 = some v0 ∧ W'.cell? a1 = some v1 ∧ W'.cell? a2 = some v2 ∧ W'.cell? a3 = some v3 ∧ Below w.heap.size w W' :=
  ⟨cell_later hb h.1, cell_later hb h.2.1, cell_later hb h.2.2.1, cell_later hb h.2.2.2.1, h.2.2.2.2.trans (hb.mono h.2.2.2.2.size)⟩
theorem start4 {w W W' : World} {a0 a1 a2 a3 : Addr} {v0 v1 v2 v3 : Value} (hb : Below W.heap.size W W') (c0 : W.cell? a0 = some v0) (c1 : W.cell? a1 = some v1) (c2 : W.cell? a2 = some v2) (c3 : W.cell? a3 = some v3) (h : Below w.heap.size w W) :
    W'.cell? a0 = some v0 ∧ W'.cell? a1 = some v1 ∧ W'.cell? a2 = some v2 ∧ W'.cell? a3 = some v3 ∧ Below w.heap.size w W' :=
  ⟨cell_later hb c0, cell_later hb c1, cell_later hb c2, cell_later hb c3, h.trans (hb.mono h.size)⟩
theorem fin4 {w W : World} {a0 a1 a2 a3 : Addr} {v0 v1 v2 v3 : Value} (h : W.cell? a0 = some v0 ∧ W.cell? a1 = some v1 ∧ W.cell? a2 = some v2 ∧ W.cell? a3 = some v3 ∧ Below w.heap.size w W) : Below w.heap.size w W := h.2.2.2.2
/-- The first k points of two lists are the same. -/
def Alike (l m : List (Int × Int)) (k : Nat) : Prop := ∀ i, i < k → px l i = px m i ∧ py l i = py m i
theorem Alike.zero (l m : List (Int × Int)) : Alike l m 0 := fun i h => absurd h (Nat.not_lt_zero _)
theorem Alike.succ {l m : List (Int × Int)} {k : Nat} (h : Alike l m k) (e : eqB (px l k) (py l k) (px m k) (py m k) = true) : Alike l m (k + 1) := fun i hi => by
  by_cases hk : i = k
  · subst hk; exact of_decide_eq_true e
  · exact h i (by omega)
theorem Alike.eq {l m : List (Int × Int)} (h : Alike l m l.length) (hl : l.length = m.length) : l = m := by
  refine List.ext_getElem hl fun i h1 h2 => ?_
  have := h i h1
  simp only [px, py, List.getD_eq_getElem?_getD, List.getElem?_eq_getElem h1, List.getElem?_eq_getElem h2, Option.getD_some] at this
  exact Prod.ext this.1 this.2
theorem not_alike {l m : List (Int × Int)} {k : Nat} (e : eqB (px l k) (py l k) (px m k) (py m k) = false) : decide (l = m) = false := by
  refine decide_eq_false fun h => ?_
  subst h
  simp [eqB] at e
set_option maxHeartbeats 2000000 in
theorem eqPointS_c (l m : List (Int × Int)) (a c : Option Addr) (len cap lem cam : Nat) (w : World) (hl : l.length = len) (hm : m.length = lem) (h1 : len ≤ 1048576) (h2 : lem ≤ 1048576) (hA : At w.heap.size a l w) (hB : At w.heap.size c m w) :
    Calls Tryd.prog 20 #[.slice a len cap, .slice c lem cam] w fun e w' => e = .returned (.bool (decide (l = m))) ∧ Below w.heap.size w w' := by
  subst hl hm
  by_cases hlm : l.length = m.length
  · have HA := hid hA
    have HB := hid hB
    have HL := hid hlm
    clear hA hB
    rw [← hlm] at h2 ⊢
    clear hlm h2
    go_enter Tryd.func20, Tryd.ntmps20
    go_wp2
    go_loopw [5] (fun i wr => ∃ k : Nat, k ≤ l.length ∧ i = .int .i64 k ∧ Alike l m k ∧ Below w.heap.size w wr) (fun i _ => l.length - (intOf i).toNat)
    case atStart => exact ⟨0, Nat.zero_le _, rfl, Alike.zero _ _, Below.refl _ _⟩
    case round =>
      obtain ⟨k, hk, rfl, hC, hbw⟩ := hrel
      have HC := hid hC
      clear hC
      by_cases hkl : k < l.length
      · obtain ⟨b, off, rfl, hbN, g0, g1⟩ := HA.out k (by omega)
        obtain ⟨b2, off2, rfl, hbN2, g2, g3⟩ := HB.out k (by have := HL.out; omega)
        have q0 := cell_later hbw g0
        have q1 := cell_later hbw g1
        have q2 := cell_later hbw g2
        have q3 := cell_later hbw g3
        clear g0 g1 g2 g3
        cases hE : eqB (px l k) (py l k) (px m k) (py m k)
        all_goals go_wp2
        all_goals go_region_held3 (fun u => u.cell? ⟨b, off + k * 2, none⟩ = some (.int .i64 (px l k)) ∧ u.cell? ⟨b, off + k * 2 + 1, none⟩ = some (.int .i64 (py l k)) ∧ u.cell? ⟨b2, off2 + k * 2, none⟩ = some (.int .i64 (px m k)) ∧ u.cell? ⟨b2, off2 + k * 2 + 1, none⟩ = some (.int .i64 (py m k)) ∧ Below w.heap.size w u) (first | exact keep4 (by with_reducible assumption) (by with_reducible assumption) | exact start4 (Below.refl _ _).drew q0 q1 q2 q3 hbw) (first | (go_at_call 19; refine (eqPoint_c _ _ _ _ _).mono ?_; rintro e w' ⟨rfl, hb⟩))
        · go_wp2
          go_ret
          exact ⟨by rw [not_alike hE]; rfl, fin4 (by with_reducible assumption)⟩
        · go_wp2
          go_roundw
          case rel => exact ⟨k + 1, by omega, by go_num, HC.out.succ hE, fin4 (by with_reducible assumption)⟩
          case measure => simp [intOf]; omega
      · obtain rfl : k = l.length := by omega
        go_wp2
        go_ret
        exact ⟨by rw [decide_eq_true (HC.out.eq HL.out)]; rfl, hbw⟩
  · have hd : ((l.length : Int) != (m.length : Int)) = true := by simp; omega
    have e : decide (l = m) = false := decide_eq_false fun h => hlm (by rw [h])
    go_enter Tryd.func20, Tryd.ntmps20
    go_wp2
    go_ret
    exact ⟨by rw [e]; rfl, Below.refl _ _⟩
/-- All points of a list are good. -/
def allGood (l : List (Int × Int)) : Bool := (List.range l.length).all fun i => goodB (px l i) (py l i)
/-- Each is less than the next one. -/
def rises (l : List (Int × Int)) : Bool := (List.range (l.length - 1)).all fun i => lessB (px l i) (py l i) (px l (i + 1)) (py l (i + 1))
def goodL (l : List (Int × Int)) : Bool := (decide (l.length ≤ 60) && allGood l) && rises l
def GoodTo (l : List (Int × Int)) (k : Nat) : Prop := ∀ i, i < k → goodB (px l i) (py l i) = true
def RisesTo (l : List (Int × Int)) (k : Nat) : Prop := ∀ i, i < k → lessB (px l i) (py l i) (px l (i + 1)) (py l (i + 1)) = true
theorem GoodTo.zero (l : List (Int × Int)) : GoodTo l 0 := fun i h => absurd h (Nat.not_lt_zero _)
theorem RisesTo.zero (l : List (Int × Int)) : RisesTo l 0 := fun i h => absurd h (Nat.not_lt_zero _)
theorem GoodTo.succ {l : List (Int × Int)} {k : Nat} (h : GoodTo l k) (e : goodB (px l k) (py l k) = true) : GoodTo l (k + 1) := fun i hi => by
  by_cases hk : i = k
  · subst hk; exact e
  · exact h i (by omega)
theorem RisesTo.succ {l : List (Int × Int)} {k : Nat} (h : RisesTo l k) (e : lessB (px l k) (py l k) (px l (k + 1)) (py l (k + 1)) = true) : RisesTo l (k + 1) := fun i hi => by
  by_cases hk : i = k
  · subst hk; exact e
  · exact h i (by omega)
theorem allGood_iff (l : List (Int × Int)) : allGood l = true ↔ GoodTo l l.length := by
  simp [allGood, GoodTo]
theorem rises_iff (l : List (Int × Int)) : rises l = true ↔ RisesTo l (l.length - 1) := by
  simp [rises, RisesTo]
theorem allGood_false {l : List (Int × Int)} {k : Nat} (hk : k < l.length) (e : goodB (px l k) (py l k) = false) : allGood l = false := by
  cases h : allGood l
  · rfl
  · have := (allGood_iff l).1 h k hk
    rw [e] at this; cases this
theorem rises_false {l : List (Int × Int)} {k : Nat} (hk : k + 1 < l.length) (e : lessB (px l k) (py l k) (px l (k + 1)) (py l (k + 1)) = false) : rises l = false := by
  cases h : rises l
  · rfl
  · have := (rises_iff l).1 h k (by omega)
    rw [e] at this; cases this
set_option maxHeartbeats 2000000 in
theorem fewGood_c (l : List (Int × Int)) (a : Option Addr) (len cap : Nat) (w : World) (hl : l.length = len) (h1 : len ≤ 1048576) (hA : At w.heap.size a l w) (c0 : w.cell? ⟨0, 0, none⟩ = some (.int .i64 1000000)) :
    Calls Tryd.prog 78 #[.slice a len cap] w fun e w' => e = .returned (.bool (decide (l.length ≤ 60) && allGood l)) ∧ Below w.heap.size w w' := by
  subst hl
  by_cases h60 : l.length ≤ 60
  · have HA := hid hA
    have C0 := hid c0
    clear hA c0
    have e60 : decide (l.length ≤ 60) = true := decide_eq_true h60
    rw [e60, Bool.true_and]
    clear e60
    go_enter Tryd.func78, Tryd.ntmps78
    go_wp2
    go_loopw [10] (fun i wr => ∃ k : Nat, k ≤ l.length ∧ i = .int .i64 k ∧ GoodTo l k ∧ Below w.heap.size w wr) (fun i _ => l.length - (intOf i).toNat)
    case atStart => exact ⟨0, Nat.zero_le _, rfl, GoodTo.zero _, Below.refl _ _⟩
    case round =>
      obtain ⟨k, hk, rfl, hC, hbw⟩ := hrel
      have HC := hid hC
      clear hC
      by_cases hkl : k < l.length
      · obtain ⟨b, off, rfl, hbN, g0, g1⟩ := HA.out k (by omega)
        have q0 := cell_later hbw g0
        have q1 := cell_later hbw g1
        have hsz := hbw.size
        have hne : b < wr.heap.size := by omega
        clear g0 g1
        cases hE : goodB (px l k) (py l k)
        all_goals go_wp2_with (go_at_call 48; refine (goodImpl_c _ _ _ ?_).mono ?_; exact cell_later (grew hbw (by go_grown)) C0.out; rintro e w' ⟨rfl, hb⟩)
        · go_ret
          exact ⟨by rw [allGood_false hkl hE]; rfl, by rw [← hb]; exact grew hbw (by go_grown)⟩
        · go_roundw
          case rel => exact ⟨k + 1, by omega, by go_num, HC.out.succ hE, by rw [← hb]; exact grew hbw (by go_grown)⟩
          case measure => simp [intOf]; omega
      · obtain rfl : k = l.length := by omega
        go_wp2
        go_ret
        exact ⟨by rw [(allGood_iff l).2 HC.out]; rfl, hbw⟩
  · have e60 : decide (l.length ≤ 60) = false := decide_eq_false h60
    have h61 : (60 : Int) < (l.length : Int) := by omega
    go_enter Tryd.func78, Tryd.ntmps78
    go_wp2
    go_ret
    exact ⟨by rw [e60]; rfl, Below.refl _ _⟩
set_option maxHeartbeats 2000000 in
theorem rising_c (l : List (Int × Int)) (a : Option Addr) (len cap : Nat) (w : World) (hl : l.length = len) (h1 : len ≤ 1048576) (hA : At w.heap.size a l w) :
    Calls Tryd.prog 79 #[.slice a len cap] w fun e w' => e = .returned (.bool (rises l)) ∧ Below w.heap.size w w' := by
  subst hl
  have HA := hid hA
  clear hA
  go_enter Tryd.func79, Tryd.ntmps79
  go_wp2
  go_loopw [3] (fun i wr => ∃ j : Nat, (1 ≤ j ∧ (j ≤ l.length ∨ j = 1)) ∧ i = .int .i64 j ∧ RisesTo l (j - 1) ∧ Below w.heap.size w wr) (fun i _ => l.length + 1 - (intOf i).toNat)
  case atStart => exact ⟨1, ⟨Nat.le_refl _, .inr rfl⟩, rfl, RisesTo.zero _, Below.refl _ _⟩
  case round =>
    obtain ⟨j, hk, rfl, hC, hbw⟩ := hrel
    have HC := hid hC
    clear hC
    by_cases hkl : j < l.length
    · obtain ⟨k, hjk⟩ : ∃ k, j = k + 1 := ⟨j - 1, by omega⟩
      obtain ⟨b, off, rfl, hbN, g0, g1⟩ := HA.out k (by omega)
      obtain ⟨b2, off2, h2, hbN2, g2, g3⟩ := HA.out j hkl
      obtain ⟨rfl, rfl⟩ : b2 = b ∧ off2 = off := by simp at h2; exact ⟨h2.1.symm, h2.2.symm⟩
      have q0 := cell_later hbw g0
      have q1 := cell_later hbw g1
      have q2 := cell_later hbw g2
      have q3 := cell_later hbw g3
      clear g0 g1 g2 g3 h2
      have hi0 : IntKind.i64.wrap ((j : Int) - 1) = (k : Int) := by rw [IntKind.wrap_i64]; omega
      have hi1 : (0 : Int) ≤ (k : Int) := by omega
      have hi2 : (k : Int) < (l.length : Int) := by omega
      have hi3 : (j : Int) < (l.length : Int) := by omega
      have hi4 : k < l.length := by omega
      have HK := hid hjk
      have HJ : 1 ≤ j ∧ j < 1048577 := by omega
      clear hjk hk
      cases hE : lessB (px l k) (py l k) (px l j) (py l j)
      all_goals go_wp2
      all_goals go_region_held3 (fun u => u.cell? ⟨b2, off2 + k * 2, none⟩ = some (.int .i64 (px l k)) ∧ u.cell? ⟨b2, off2 + k * 2 + 1, none⟩ = some (.int .i64 (py l k)) ∧ u.cell? ⟨b2, off2 + j * 2, none⟩ = some (.int .i64 (px l j)) ∧ u.cell? ⟨b2, off2 + j * 2 + 1, none⟩ = some (.int .i64 (py l j)) ∧ Below w.heap.size w u) (first | exact keep4 (by with_reducible assumption) (by with_reducible assumption) | exact start4 (Below.refl _ _).drew q0 q1 q2 q3 hbw) (first | (go_at_call 135; refine (lessThan_c _ _ _ _ _).mono ?_; rintro e w' ⟨rfl, hb⟩))
      · go_wp2
        go_ret
        have e := HK.out
        subst e
        exact ⟨by rw [rises_false hkl hE]; rfl, fin4 (by with_reducible assumption)⟩
      · go_wp2
        go_roundw
        case rel =>
          have e := HK.out
          subst e
          exact ⟨k + 1 + 1, by omega, by go_num, HC.out.succ hE, fin4 (by with_reducible assumption)⟩
        case measure => simp [intOf]; omega
    · go_wp2
      go_ret
      exact ⟨by rw [(rises_iff l).2 (fun i hi => HC.out i (by omega))]; rfl, hbw⟩
end Go.Proofs.YtipiamhnngmjmaaDoor
namespace Go.Proofs.YtipiamhnngmjmaaDoor
open Go.RowKit
set_option linter.unusedVariables false
set_option maxRecDepth 8000
/-- The slice v, made at block N or later, holds the points of l at its head. -/
def Own (N : Nat) (v : Value) (l : List (Int × Int)) (w : World) : Prop :=
  (l = [] ∧ v = .slice none 0 0) ∨ ∃ (g cap : Nat) (f : Nat → Value), v = .slice (some ⟨g, 0, none⟩) l.length cap ∧ N ≤ g ∧ l.length ≤ cap ∧ cap ≤ maxLen ∧ w.rowIs g 26 (cap * 2) f ∧ ∀ i, i < l.length * 2 → f i = cel l i
/-- All blocks but the slice's own are as they were. -/
structure Spared (a : Option Addr) (w w' : World) : Prop where
  os : w'.os = w.os
  tape : w'.tape = w.tape
  output : w'.output = w.output
  size : w.heap.size ≤ w'.heap.size
  block : ∀ k, k < w.heap.size → (∀ b off, a = some ⟨b, off, none⟩ → k ≠ b) → w'.heap[k]? = w.heap[k]?
theorem Spared.refl (a : Option Addr) (w : World) : Spared a w w := ⟨rfl, rfl, rfl, Nat.le_refl _, fun _ _ _ => rfl⟩
theorem Spared.setCell {b off : Nat} {u w : World} (h : Spared (some ⟨b, off, none⟩) u w) (i : Nat) (v : Value) : Spared (some ⟨b, off, none⟩) u (w.setCell ⟨b, i, none⟩ v) := by
  refine ⟨h.os, h.tape, h.output, by rw [World.size_setCell]; exact h.size, fun k hk hb => (Below.heap_setCell w _ v k ?_).trans (h.block k hk hb)⟩
  exact hb b off rfl
theorem Spared.below {a : Option Addr} {w w' : World} {N : Nat} (h : Spared a w w') (hN : N ≤ w.heap.size) (hb : ∀ b off, a = some ⟨b, off, none⟩ → N ≤ b) : Below N w w' :=
  ⟨h.os, h.tape, h.output, h.size, fun k hk => h.block k (by omega) (fun b off e => by have := hb b off e; omega)⟩
theorem At.spared {a c : Option Addr} {l : List (Int × Int)} {w w' : World} {N : Nat} (hA : At N c l w) (h : Spared a w w') (hb : ∀ b off, a = some ⟨b, off, none⟩ → N ≤ b) : At N c l w' := fun i hi => by
  obtain ⟨b, off, e, hN, h0, h1⟩ := hA i hi
  have hlt : b < w.heap.size := World.block_lt_of_cell? w _ h0
  have hbl := h.block b hlt (fun b' off' e' => by have := hb b' off' e'; omega)
  exact ⟨b, off, e, hN, (World.cell?_of_block (w := w) hbl).trans h0, (World.cell?_of_block (w := w) hbl).trans h1⟩
theorem Own.at {N n cap : Nat} {a : Option Addr} {l : List (Int × Int)} {w : World} (h : Own N (.slice a n cap) l w) : At w.heap.size a l w := by
  rcases h with ⟨rfl, e⟩ | ⟨g, c, f, e, h1, h2, h3, h4, h5⟩
  · exact fun i hi => absurd hi (Nat.not_lt_zero _)
  · simp at e
    obtain ⟨rfl, rfl, rfl⟩ := e
    intro i hi
    have q0 := h4.cell (i := i * 2) (by omega)
    have q1 := h4.cell (i := i * 2 + 1) (by omega)
    rw [h5 _ (by omega), cel0] at q0
    rw [h5 _ (by omega), cel1] at q1
    exact ⟨g, 0, rfl, h4.lt, by rw [Nat.zero_add]; exact q0, by rw [Nat.zero_add]; exact q1⟩
theorem Own.len {N n cap : Nat} {a : Option Addr} {l : List (Int × Int)} {w : World} (h : Own N (.slice a n cap) l w) : l.length = n := by
  rcases h with ⟨rfl, e⟩ | ⟨g, c, f, e, _⟩
  · simp at e; simp [e.2.1]
  · simp at e; exact e.2.1.symm
theorem Own.shape {N : Nat} {v : Value} {l : List (Int × Int)} {w : World} (h : Own N v l w) : ∃ a cap, v = .slice a l.length cap := by
  rcases h with ⟨rfl, e⟩ | ⟨g, c, f, e, _⟩
  · exact ⟨none, 0, e⟩
  · exact ⟨_, _, e⟩
theorem Own.ge {N n cap : Nat} {a : Option Addr} {l : List (Int × Int)} {w : World} (h : Own N (.slice a n cap) l w) : ∀ b off, a = some ⟨b, off, none⟩ → N ≤ b := by
  rcases h with ⟨rfl, e⟩ | ⟨g, c, f, e, h1, _⟩
  · simp at e; intro b off hb; rw [e.1] at hb; cases hb
  · simp at e; intro b off hb; rw [e.1] at hb; cases hb; exact h1
theorem Own.later {N : Nat} {v : Value} {l : List (Int × Int)} {w w' : World} (h : Own N v l w) (hb : Below w.heap.size w w') : Own N v l w' := by
  rcases h with h | ⟨g, c, f, e, h1, h2, h3, h4, h5⟩
  · exact .inl h
  · exact .inr ⟨g, c, f, e, h1, h2, h3, rowIs_later h4 hb h4.lt, h5⟩
theorem Own.mono {N M : Nat} {v : Value} {l : List (Int × Int)} {w : World} (h : Own N v l w) (hM : M ≤ N) : Own M v l w := by
  rcases h with h | ⟨g, c, f, e, h1, h2, h3, h4, h5⟩
  · exact .inl h
  · exact .inr ⟨g, c, f, e, by omega, h2, h3, h4, h5⟩
theorem Own.spared {N : Nat} {v : Value} {a : Option Addr} {l : List (Int × Int)} {w w' : World} (h : Own N v l w) (hs : Spared a w w') (hb : ∀ b off, a = some ⟨b, off, none⟩ → b < N) : Own N v l w' := by
  rcases h with h | ⟨g, c, f, e, h1, h2, h3, ⟨cc, k1, k2, k3⟩, h5⟩
  · exact .inl h
  · have hlt : g < w.heap.size := by
      by_cases hg : g < w.heap.size
      · exact hg
      · rw [Array.getElem?_eq_none (by omega)] at k1; cases k1
    exact .inr ⟨g, c, f, e, h1, h2, h3, ⟨cc, (hs.block g hlt (fun b off e' => by have := hb b off e'; omega)).trans k1, k2, k3⟩, h5⟩
theorem Own.nil (N : Nat) (w : World) : Own N (.slice none 0 0) [] w := .inl ⟨rfl, rfl⟩
theorem Row.own {N b : Nat} {l : List (Int × Int)} {w : World} (h : Row N b l w) (hm : l.length ≤ 1048576) : Own N (.slice (some ⟨b, 0, none⟩) l.length l.length) l w :=
  .inr ⟨b, l.length, cel l, rfl, h.le, Nat.le_refl _, by unfold maxLen; omega, h.row, fun _ _ => rfl⟩
/-- The marks. -/
def marks (n : Nat) (k : Int) : List (Int × Int) := (List.range n).map fun (i : Nat) => (k + 2 * (i : Int), k + 2 * (i : Int) + 1)
theorem marks_len (n : Nat) (k : Int) : (marks n k).length = n := by simp [marks]
theorem px_marks {n i : Nat} (k : Int) (h : i < n) : px (marks n k) i = k + 2 * (i : Int) := by simp [px, marks, h]
theorem py_marks {n i : Nat} (k : Int) (h : i < n) : py (marks n k) i = k + 2 * (i : Int) + 1 := by simp [py, marks, h]
theorem cel_marks {n j : Nat} (k : Int) (h : j < n * 2) : cel (marks n k) j = .int .i64 (k + j) := by
  unfold cel
  by_cases hj : j % 2 = 0
  · rw [if_pos hj, px_marks k (by omega)]; congr 1; omega
  · rw [if_neg hj, py_marks k (by omega)]; congr 1; omega
/-- How far a row is marked. -/
structure Mark (g cap : Nat) (k : Int) (j : Nat) (w wr : World) : Prop where
  spared : Spared (some ⟨g, 0, none⟩) w wr
  row : ∃ f, wr.rowIs g 26 (cap * 2) f ∧ ∀ i, i < j * 2 → f i = .int .i64 (k + i)
theorem Mark.cell {g cap : Nat} {k : Int} {j : Nat} {w wr : World} (h : Mark g cap k j w wr) {i : Nat} (hi : i < cap * 2) : ∃ v, wr.cell? ⟨g, i, none⟩ = some v := by
  obtain ⟨f, hf, _⟩ := h.row
  exact ⟨_, hf.cell hi⟩
theorem Mark.frozen {g cap : Nat} {k : Int} {j : Nat} {w wr : World} (h : Mark g cap k j w wr) (i : Nat) : wr.frozen? ⟨g, i, none⟩ = false := by
  obtain ⟨f, hf, _⟩ := h.row
  exact hf.frozen i
theorem Mark.step {g cap : Nat} {k x y : Int} {j : Nat} {w wr : World} (h : Mark g cap k j w wr) (hx : x = k + 2 * (j : Int)) (hy : y = k + 2 * (j : Int) + 1) :
    Mark g cap k (j + 1) w ((wr.setCell ⟨g, j * 2, none⟩ (.int .i64 x)).setCell ⟨g, j * 2 + 1, none⟩ (.int .i64 y)) := by
  obtain ⟨f, hf, he⟩ := h.row
  refine ⟨(h.spared.setCell _ _).setCell _ _, _, (hf.set (j * 2) _).set (j * 2 + 1) _, fun i hi => ?_⟩
  by_cases e1 : i = j * 2 + 1
  · subst e1; rw [if_pos rfl, hy]; congr 1; omega
  · by_cases e0 : i = j * 2
    · subst e0; rw [if_neg e1, if_pos rfl, hx]; congr 1; omega
    · rw [if_neg e1, if_neg e0]; exact he i (by omega)
theorem mark_own {N : Nat} {g cap : Nat} {k : Int} {n : Nat} {w wr : World} (h : Mark g cap k n w wr) (hN : N ≤ g) (hn : n ≤ cap) (hm : cap ≤ maxLen) : Own N (.slice (some ⟨g, 0, none⟩) n cap) (marks n k) wr := by
  obtain ⟨f, hf, he⟩ := h.row
  refine .inr ⟨g, cap, f, by rw [marks_len], hN, by rw [marks_len]; exact hn, hm, hf, fun i hi => ?_⟩
  rw [marks_len] at hi
  rw [he i hi, cel_marks k hi]
set_option maxHeartbeats 4000000 in
theorem mark_c (l : List (Int × Int)) (N : Nat) (a : Option Addr) (n cap : Nat) (k : Int) (w : World) (h0 : 0 ≤ k) (h1 : k ≤ 1073741824) (h2 : n ≤ 1048576) (hO : Own N (.slice a n cap) l w) :
    Calls Tryd.prog 28 #[.slice a n cap, .int .i64 k] w fun e w' => e = .returned (.int .i64 (k + 2 * (n : Int))) ∧ Own N (.slice a n cap) (marks n k) w' ∧ Spared a w w' := by
  rcases hO with ⟨rfl, e⟩ | ⟨g, c, f, e, g1, g2, g3, g4, g5⟩
  · simp at e
    obtain ⟨rfl, rfl, rfl⟩ := e
    go_enter Tryd.func28, Tryd.ntmps28
    go_wp2
    refine wp_loop_rounds 1 ?_
    rw [rounds_succ]
    go_wp2
    go_ret
    exact ⟨by first | rfl | simp, .inl ⟨rfl, rfl⟩, Spared.refl _ _⟩
  · simp at e
    obtain ⟨rfl, rfl, rfl⟩ := e
    have hM : Mark g cap k 0 w w := ⟨Spared.refl _ _, f, g4, fun i hi => absurd hi (by omega)⟩
    have hlc := g2
    have HG := hid (⟨g1, g2, g3⟩ : N ≤ g ∧ l.length ≤ cap ∧ cap ≤ maxLen)
    obtain ⟨n, hn⟩ : ∃ n, l.length = n := ⟨_, rfl⟩
    rw [hn] at h2 hlc HG ⊢
    clear g1 g2 g3 g4 g5 hn
    go_enter Tryd.func28, Tryd.ntmps28
    go_wp2
    go_loopw [1, 5] (fun q i wr => ∃ j : Nat, j ≤ n ∧ i = .int .i64 j ∧ q = .int .i64 (k + 2 * (j : Int)) ∧ Mark g cap k j w wr) (fun q i _ => n - (intOf i).toNat)
    case atStart => exact ⟨0, Nat.zero_le _, rfl, by simp, hM⟩
    case round =>
      obtain ⟨j, hj, rfl, rfl, hC⟩ := hrel
      have HC := hid hC
      clear hC
      by_cases hjn : j < n
      · obtain ⟨v0, q0⟩ := HC.out.cell (i := j * 2) (by omega)
        obtain ⟨v1, q1⟩ := HC.out.cell (i := j * 2 + 1) (by omega)
        have f0 := HC.out.frozen (j * 2)
        have f1 := HC.out.frozen (j * 2 + 1)
        go_wp2
        go_roundw
        case rel => exact ⟨j + 1, by omega, by go_num, by first | go_num | (congr 1; omega), HC.out.step rfl (by omega)⟩
        case measure => simp [intOf]; omega
      · obtain rfl : j = n := by omega
        go_wp2
        go_ret
        exact ⟨rfl, mark_own HC.out HG.out.1 HG.out.2.1 HG.out.2.2, HC.out.spared⟩
set_option maxHeartbeats 4000000 in
theorem held_c (a : Option Addr) (n cap : Nat) (k : Int) (w : World) (h0 : 0 ≤ k) (h1 : k ≤ 1073741824) (h2 : n ≤ 1048576) (hA : At w.heap.size a (marks n k) w) :
    Calls Tryd.prog 35 #[.slice a n cap, .int .i64 k] w fun e w' => e = .returned (.int .i64 (k + 2 * (n : Int))) ∧ Below w.heap.size w w' := by
  have HA := hid hA
  clear hA
  go_enter Tryd.func35, Tryd.ntmps35
  go_wp2
  go_loopw [1, 5] (fun q i wr => ∃ j : Nat, j ≤ n ∧ i = .int .i64 j ∧ q = .int .i64 (k + 2 * (j : Int)) ∧ w = wr) (fun q i _ => n - (intOf i).toNat)
  case atStart => exact ⟨0, Nat.zero_le _, rfl, by simp, rfl⟩
  case round =>
    obtain ⟨j, hj, rfl, rfl, rfl⟩ := hrel
    by_cases hjn : j < n
    · obtain ⟨b, off, rfl, hbN, q0, q1⟩ := HA.out j (by rw [marks_len]; exact hjn)
      rw [px_marks k hjn] at q0
      rw [py_marks k hjn] at q1
      go_wp2
      go_roundw
      case rel => exact ⟨j + 1, by omega, by go_num, by first | go_num | (congr 1; omega), by first | rfl | trivial⟩
      case measure => simp [intOf]; omega
    · obtain rfl : j = n := by omega
      go_wp2
      go_ret
      exact ⟨rfl, Below.refl _ _⟩
end Go.Proofs.YtipiamhnngmjmaaDoor
namespace Go.Proofs.YtipiamhnngmjmaaDoor
open Go.RowKit
set_option linter.unusedVariables false
set_option maxRecDepth 8000
theorem keep2 {w W W' : World} {a0 a1 : Addr} {v0 v1 : Value} (hb : Below W.heap.size W W') (h : W.cell? a0 = some v0 ∧ W.cell? a1 = some v1 ∧ Below w.heap.size w W) :
    W'.cell? a0 = some v0 ∧ W'.cell? a1 = some v1 ∧ Below w.heap.size w W' := ⟨cell_later hb h.1, cell_later hb h.2.1, grew h.2.2 hb⟩
theorem fin2 {w W : World} {a0 a1 : Addr} {v0 v1 : Value} (h : W.cell? a0 = some v0 ∧ W.cell? a1 = some v1 ∧ Below w.heap.size w W) : Below w.heap.size w W := h.2.2
theorem goodSpec_e (x y : Int) (w : World) : Calls Tryd.prog 46 #[.agg #[.int .i64 x, .int .i64 y]] w fun e w' => e = .returned (.bool (goodB x y)) ∧ Below w.heap.size w w' := by
  refine (goodSpec_c x y w).mono ?_
  rintro e w' ⟨he, rfl⟩
  exact ⟨he, by go_grown⟩
theorem goodSetImpl_c (l : List (Int × Int)) (a : Option Addr) (len cap : Nat) (w : World) (hl : l.length = len) (h1 : len ≤ 1048576) (hA : At w.heap.size a l w) (c0 : w.cell? ⟨0, 0, none⟩ = some (.int .i64 1000000)) :
    Calls Tryd.prog 52 #[.slice a len cap] w fun e w' => e = .returned (.bool (goodL l)) ∧ Below w.heap.size w w' := by
  have HA := hid hA
  have C0 := hid c0
  clear hA c0
  cases hE : (decide (l.length ≤ 60) && allGood l)
  all_goals go_enter Tryd.func52, Tryd.ntmps52
  all_goals go_wp2_with (first | (go_at_call 78; refine (fewGood_c l _ _ _ _ hl h1 HA.out C0.out).mono ?_; rw [hE]; rintro e w1 ⟨rfl, hb1⟩) | (go_at_call 79; refine (rising_c l _ _ _ _ hl h1 ((HA.out.later hb1).mono hb1.size)).mono ?_; rintro e w2 ⟨rfl, hb2⟩))
  · go_ret
    exact ⟨by rw [goodL, hE]; rfl, hb1⟩
  · go_ret
    exact ⟨by rw [goodL, hE]; rfl, grew hb1 hb2⟩
theorem goodL_bad {l : List (Int × Int)} {k : Nat} (hk : k < l.length) (e : goodB (px l k) (py l k) = false) : goodL l = false := by
  simp [goodL, allGood_false hk e]
theorem goodL_fall {l : List (Int × Int)} {k : Nat} (hk : k + 1 < l.length) (e : lessB (px l k) (py l k) (px l (k + 1)) (py l (k + 1)) = false) : goodL l = false := by
  simp [goodL, rises_false hk e]
theorem goodL_len {l : List (Int × Int)} (h : GoodTo l l.length) (k : RisesTo l (l.length - 1)) : goodL l = decide (l.length ≤ 60) := by
  simp [goodL, (allGood_iff l).2 h, (rises_iff l).2 k]
set_option maxHeartbeats 8000000 in
theorem l2Good_c (l : List (Int × Int)) (a : Option Addr) (len cap : Nat) (w : World) (hl : l.length = len) (h1 : len ≤ 1048576) (hA : At w.heap.size a l w) :
    Calls Tryd.prog 64 #[.slice a len cap] w fun e w' => e = .returned (.bool (goodL l)) ∧ Below w.heap.size w w' := by
  subst hl
  have HA := hid hA
  clear hA
  go_enter Tryd.func64, Tryd.ntmps64
  go_wp2
  go_loopw [7] (fun i wr => ∃ k : Nat, k ≤ l.length ∧ i = .int .i64 k ∧ GoodTo l k ∧ RisesTo l (k - 1) ∧ Below w.heap.size w wr) (fun i _ => l.length - (intOf i).toNat)
  case atStart => exact ⟨0, Nat.zero_le _, rfl, GoodTo.zero _, RisesTo.zero _, Below.refl _ _⟩
  case round =>
    obtain ⟨k, hk, rfl, hC, hR, hbw⟩ := hrel
    have HC := hid hC
    have HR := hid hR
    clear hC hR
    by_cases hkl : k < l.length
    · obtain ⟨b, off, rfl, hbN, g0, g1⟩ := HA.out k (by omega)
      have q0 := cell_later hbw g0
      have q1 := cell_later hbw g1
      have hsz := hbw.size
      have hne : b < wr.heap.size := by omega
      clear g0 g1
      have hbA : Below w.heap.size w (wr.alloc (.cells #[.int .i64 (px l k), .int .i64 (py l k)] 26)) := grew hbw (by go_grown)
      have r0 : (wr.alloc (.cells #[.int .i64 (px l k), .int .i64 (py l k)] 26)).cell? ⟨wr.heap.size, 0, none⟩ = some (.int .i64 (px l k)) := by simp [go_sem]
      have r1 : (wr.alloc (.cells #[.int .i64 (px l k), .int .i64 (py l k)] 26)).cell? ⟨wr.heap.size, 1, none⟩ = some (.int .i64 (py l k)) := by simp [go_sem]
      cases hE : goodB (px l k) (py l k)
      · go_wp2
        refine wp_region_held_drew (S := (fun u => u.cell? ⟨wr.heap.size, 0, none⟩ = some (.int .i64 (px l k)) ∧ u.cell? ⟨wr.heap.size, 1, none⟩ = some (.int .i64 (py l k)) ∧ Below w.heap.size w u)) (by kernel_rfl) ?_ (fun hHeld => ?_)
        · exact ⟨cell_later (Below.refl _ _).drew r0, cell_later (Below.refl _ _).drew r1, hbA.drew⟩
        refine wpAnyH_take (i := 0) (oi := { dst := some 12, op := Op.load 26 (Operand.tmp 4), type := 26, pos := "l2_set.go:7", after := #[], guard := none }) (v := ?v1x0) rfl (by kernel_rfl) (by kernel_rfl) (by kernel_rfl) (fun _ _ _ h => h) (Or.inl ⟨by rfl, ?hy1x0⟩) (by with_reducible assumption) ?rest1x0
        case hy1x0 => (intro w hSw; (try dsimp only at hSw); go_simp; try with_reducible rfl)
        case' rest1x0 => (try simp only [Act.put, List.setIfInBounds_toArray, List.set_cons_zero, List.set_cons_succ])
        refine wpAnyH_ready (rs := [1]) (by kernel_rfl) (by simp) ?_
        refine AllReadyH.cons (o := { dst := some 13, op := Op.call { callee := Callee.value (Operand.func 46), args := #[Operand.tmp 12], argTypes := #[26] }, type := 4, pos := "l2_set.go:7", after := #[{ on := 0, ground := Ground.data }], guard := none }) rfl (fun K hK => ?_) AllReadyH.nil
        go_simp
        refine (goodSpec_e _ _ _).mono ?_
        rintro e w' ⟨rfl, hb⟩
        go_wp2_with fail
        refine hK.out _ _ ?_ (fun hHeld => ?_)
        · exact keep2 hb (by with_reducible assumption)
        clear hK K
        try simp only [Act.put, List.setIfInBounds_toArray, List.set_cons_zero, List.set_cons_succ]
        refine wpAnyH_take (i := 2) (oi := { dst := some 14, op := Op.unOp UnOp.not 4 (Operand.tmp 13), type := 4, pos := "l2_set.go:7", after := #[{ on := 1, ground := Ground.data }], guard := none }) (v := ?v1x2) rfl (by kernel_rfl) (by kernel_rfl) (by kernel_rfl) (fun _ _ _ h => h) (Or.inl ⟨by rfl, ?hy1x2⟩) (by with_reducible assumption) ?rest1x2
        case hy1x2 => (intro w hSw; (try dsimp only at hSw); go_simp; try with_reducible rfl)
        case' rest1x2 => (try simp only [Act.put, List.setIfInBounds_toArray, List.set_cons_zero, List.set_cons_succ])
        refine wpAnyH_take (i := 3) (oi := { dst := some 15, op := Op.move (Operand.tmp 14), type := 4, pos := "l2_set.go:7", after := #[{ on := 2, ground := Ground.data }, { on := 1, ground := Ground.chain }], guard := none }) (v := ?v1x3) rfl (by kernel_rfl) (by kernel_rfl) (by kernel_rfl) (fun _ _ _ h => h) (Or.inl ⟨by rfl, ?hy1x3⟩) (by with_reducible assumption) ?rest1x3
        case hy1x3 => (intro w hSw; (try dsimp only at hSw); go_simp; try with_reducible rfl)
        case' rest1x3 => (try simp only [Act.put, List.setIfInBounds_toArray, List.set_cons_zero, List.set_cons_succ])
        refine wpAnyH_take (i := 4) (oi := { dst := some 16, op := Op.move (Operand.tmp 3), type := 3, pos := "l2_set.go:7", after := #[{ on := 3, ground := Ground.guard }], guard := some (3, false) }) (v := undef) rfl (by kernel_rfl) (by kernel_rfl) (by kernel_rfl) (fun _ _ _ h => h) (Or.inr ⟨by rfl, rfl⟩) (by with_reducible assumption) ?rest1x4
        case' rest1x4 => (try simp only [Act.put, List.setIfInBounds_toArray, List.set_cons_zero, List.set_cons_succ])
        refine wpAnyH_take (i := 5) (oi := { dst := some 17, op := Op.binOp BinOp.gtr 3 (Operand.tmp 16) (Operand.const (Value.int IntKind.i64 0)) 3, type := 4, pos := "l2_set.go:7", after := #[{ on := 4, ground := Ground.data }, { on := 3, ground := Ground.guard }], guard := some (3, false) }) (v := undef) rfl (by kernel_rfl) (by kernel_rfl) (by kernel_rfl) (fun _ _ _ h => h) (Or.inr ⟨by rfl, rfl⟩) (by with_reducible assumption) ?rest1x5
        case' rest1x5 => (try simp only [Act.put, List.setIfInBounds_toArray, List.set_cons_zero, List.set_cons_succ])
        refine wpAnyH_take (i := 6) (oi := { dst := some 18, op := Op.move (Operand.tmp 17), type := 4, pos := "l2_set.go:7", after := #[{ on := 5, ground := Ground.data }, { on := 3, ground := Ground.chain }, { on := 3, ground := Ground.guard }], guard := some (3, false) }) (v := undef) rfl (by kernel_rfl) (by kernel_rfl) (by kernel_rfl) (fun _ _ _ h => h) (Or.inr ⟨by rfl, rfl⟩) (by with_reducible assumption) ?rest1x6
        case' rest1x6 => (try simp only [Act.put, List.setIfInBounds_toArray, List.set_cons_zero, List.set_cons_succ])
        refine wpAnyH_take (i := 7) (oi := { dst := some 19, op := Op.move (Operand.tmp 0), type := 33, pos := "l2_set.go:7", after := #[{ on := 6, ground := Ground.guard }], guard := some (6, true) }) (v := undef) rfl (by kernel_rfl) (by kernel_rfl) (by kernel_rfl) (fun _ _ _ h => h) (Or.inr ⟨by rfl, rfl⟩) (by with_reducible assumption) ?rest1x7
        case' rest1x7 => (try simp only [Act.put, List.setIfInBounds_toArray, List.set_cons_zero, List.set_cons_succ])
        refine wpAnyH_take (i := 8) (oi := { dst := some 20, op := Op.move (Operand.tmp 3), type := 3, pos := "l2_set.go:7", after := #[{ on := 6, ground := Ground.guard }], guard := some (6, true) }) (v := undef) rfl (by kernel_rfl) (by kernel_rfl) (by kernel_rfl) (fun _ _ _ h => h) (Or.inr ⟨by rfl, rfl⟩) (by with_reducible assumption) ?rest1x8
        case' rest1x8 => (try simp only [Act.put, List.setIfInBounds_toArray, List.set_cons_zero, List.set_cons_succ])
        refine wpAnyH_take (i := 9) (oi := { dst := some 21, op := Op.binOp BinOp.sub 3 (Operand.tmp 20) (Operand.const (Value.int IntKind.i64 1)) 3, type := 3, pos := "l2_set.go:7", after := #[{ on := 8, ground := Ground.data }, { on := 6, ground := Ground.guard }], guard := some (6, true) }) (v := undef) rfl (by kernel_rfl) (by kernel_rfl) (by kernel_rfl) (fun _ _ _ h => h) (Or.inr ⟨by rfl, rfl⟩) (by with_reducible assumption) ?rest1x9
        case' rest1x9 => (try simp only [Act.put, List.setIfInBounds_toArray, List.set_cons_zero, List.set_cons_succ])
        refine wpAnyH_take (i := 10) (oi := { dst := some 22, op := Op.indexAddr 33 (Operand.tmp 19) (Operand.tmp 21), type := 0, pos := "l2_set.go:7", after := #[{ on := 7, ground := Ground.data }, { on := 9, ground := Ground.data }, { on := 6, ground := Ground.guard }], guard := some (6, true) }) (v := undef) rfl (by kernel_rfl) (by kernel_rfl) (by kernel_rfl) (fun _ _ _ h => h) (Or.inr ⟨by rfl, rfl⟩) (by with_reducible assumption) ?rest1x10
        case' rest1x10 => (try simp only [Act.put, List.setIfInBounds_toArray, List.set_cons_zero, List.set_cons_succ])
        refine wpAnyH_take (i := 11) (oi := { dst := some 23, op := Op.load 26 (Operand.tmp 22), type := 26, pos := "l2_set.go:7", after := #[{ on := 10, ground := Ground.data }, { on := 6, ground := Ground.guard }], guard := some (6, true) }) (v := undef) rfl (by kernel_rfl) (by kernel_rfl) (by kernel_rfl) (fun _ _ _ h => h) (Or.inr ⟨by rfl, rfl⟩) (by with_reducible assumption) ?rest1x11
        case' rest1x11 => (try simp only [Act.put, List.setIfInBounds_toArray, List.set_cons_zero, List.set_cons_succ])
        refine wpAnyH_take (i := 12) (oi := { dst := some 24, op := Op.load 26 (Operand.tmp 4), type := 26, pos := "l2_set.go:7", after := #[{ on := 6, ground := Ground.guard }], guard := some (6, true) }) (v := undef) rfl (by kernel_rfl) (by kernel_rfl) (by kernel_rfl) (fun _ _ _ h => h) (Or.inr ⟨by rfl, rfl⟩) (by with_reducible assumption) ?rest1x12
        case' rest1x12 => (try simp only [Act.put, List.setIfInBounds_toArray, List.set_cons_zero, List.set_cons_succ])
        refine wpAnyH_ready (rs := [13]) (by kernel_rfl) (by simp) ?_
        refine AllReadyH.cons (o := { dst := some 25, op := Op.call { callee := Callee.value (Operand.func 89), args := #[Operand.tmp 23, Operand.tmp 24], argTypes := #[26, 26] }, type := 4, pos := "l2_set.go:7", after := #[{ on := 11, ground := Ground.data }, { on := 12, ground := Ground.data }, { on := 6, ground := Ground.chain }, { on := 6, ground := Ground.guard }], guard := some (6, true) }) rfl (fun K hK => ?_) AllReadyH.nil
        go_simp
        refine hK.out _ _ ?_ (fun hHeld => ?_)
        · with_reducible assumption
        clear hK K
        try simp only [Act.put, List.setIfInBounds_toArray, List.set_cons_zero, List.set_cons_succ]
        refine wpAnyH_take (i := 14) (oi := { dst := some 26, op := Op.unOp UnOp.not 4 (Operand.tmp 25), type := 4, pos := "l2_set.go:7", after := #[{ on := 13, ground := Ground.data }, { on := 6, ground := Ground.guard }], guard := some (6, true) }) (v := undef) rfl (by kernel_rfl) (by kernel_rfl) (by kernel_rfl) (fun _ _ _ h => h) (Or.inr ⟨by rfl, rfl⟩) (by with_reducible assumption) ?rest1x14
        case' rest1x14 => (try simp only [Act.put, List.setIfInBounds_toArray, List.set_cons_zero, List.set_cons_succ])
        refine wpAnyH_take (i := 15) (oi := { dst := some 27, op := Op.pick (Operand.tmp 18) (Operand.tmp 26) (Operand.const (Value.bool false)), type := 4, pos := "l2_set.go:7", after := #[{ on := 6, ground := Ground.data }, { on := 14, ground := Ground.data }, { on := 3, ground := Ground.guard }], guard := some (3, false) }) (v := undef) rfl (by kernel_rfl) (by kernel_rfl) (by kernel_rfl) (fun _ _ _ h => h) (Or.inr ⟨by rfl, rfl⟩) (by with_reducible assumption) ?rest1x15
        case' rest1x15 => (try simp only [Act.put, List.setIfInBounds_toArray, List.set_cons_zero, List.set_cons_succ])
        refine wpAnyH_take (i := 16) (oi := { dst := some 28, op := Op.pick (Operand.tmp 15) (Operand.const (Value.bool true)) (Operand.tmp 27), type := 4, pos := "l2_set.go:7", after := #[{ on := 3, ground := Ground.data }, { on := 15, ground := Ground.data }], guard := none }) (v := ?v1x16) rfl (by kernel_rfl) (by kernel_rfl) (by kernel_rfl) (fun _ _ _ h => h) (Or.inl ⟨by rfl, ?hy1x16⟩) (by with_reducible assumption) ?rest1x16
        case hy1x16 => (intro w hSw; (try dsimp only at hSw); go_simp; try with_reducible rfl)
        case' rest1x16 => (try simp only [Act.put, List.setIfInBounds_toArray, List.set_cons_zero, List.set_cons_succ])
        refine wpAnyH_done (by kernel_rfl) ?_ _
        go_wp2
        go_ret
        exact ⟨by rw [goodL_bad hkl hE]; rfl, fin2 (by with_reducible assumption)⟩
      · by_cases hk0 : k = 0
        · have hd : decide (0 < k) = false := decide_eq_false (by omega)
          have HK := hid hk0
          clear hk0
          go_wp2
          refine wp_region_held_drew (S := (fun u => u.cell? ⟨wr.heap.size, 0, none⟩ = some (.int .i64 (px l k)) ∧ u.cell? ⟨wr.heap.size, 1, none⟩ = some (.int .i64 (py l k)) ∧ Below w.heap.size w u)) (by kernel_rfl) ?_ (fun hHeld => ?_)
          · exact ⟨cell_later (Below.refl _ _).drew r0, cell_later (Below.refl _ _).drew r1, hbA.drew⟩
          refine wpAnyH_take (i := 0) (oi := { dst := some 12, op := Op.load 26 (Operand.tmp 4), type := 26, pos := "l2_set.go:7", after := #[], guard := none }) (v := ?v2x0) rfl (by kernel_rfl) (by kernel_rfl) (by kernel_rfl) (fun _ _ _ h => h) (Or.inl ⟨by rfl, ?hy2x0⟩) (by with_reducible assumption) ?rest2x0
          case hy2x0 => (intro w hSw; (try dsimp only at hSw); go_simp; try with_reducible rfl)
          case' rest2x0 => (try simp only [Act.put, List.setIfInBounds_toArray, List.set_cons_zero, List.set_cons_succ])
          refine wpAnyH_ready (rs := [1]) (by kernel_rfl) (by simp) ?_
          refine AllReadyH.cons (o := { dst := some 13, op := Op.call { callee := Callee.value (Operand.func 46), args := #[Operand.tmp 12], argTypes := #[26] }, type := 4, pos := "l2_set.go:7", after := #[{ on := 0, ground := Ground.data }], guard := none }) rfl (fun K hK => ?_) AllReadyH.nil
          go_simp
          refine (goodSpec_e _ _ _).mono ?_
          rintro e w' ⟨rfl, hb⟩
          go_wp2_with fail
          refine hK.out _ _ ?_ (fun hHeld => ?_)
          · exact keep2 hb (by with_reducible assumption)
          clear hK K
          try simp only [Act.put, List.setIfInBounds_toArray, List.set_cons_zero, List.set_cons_succ]
          refine wpAnyH_take (i := 2) (oi := { dst := some 14, op := Op.unOp UnOp.not 4 (Operand.tmp 13), type := 4, pos := "l2_set.go:7", after := #[{ on := 1, ground := Ground.data }], guard := none }) (v := ?v2x2) rfl (by kernel_rfl) (by kernel_rfl) (by kernel_rfl) (fun _ _ _ h => h) (Or.inl ⟨by rfl, ?hy2x2⟩) (by with_reducible assumption) ?rest2x2
          case hy2x2 => (intro w hSw; (try dsimp only at hSw); go_simp; try with_reducible rfl)
          case' rest2x2 => (try simp only [Act.put, List.setIfInBounds_toArray, List.set_cons_zero, List.set_cons_succ])
          refine wpAnyH_take (i := 3) (oi := { dst := some 15, op := Op.move (Operand.tmp 14), type := 4, pos := "l2_set.go:7", after := #[{ on := 2, ground := Ground.data }, { on := 1, ground := Ground.chain }], guard := none }) (v := ?v2x3) rfl (by kernel_rfl) (by kernel_rfl) (by kernel_rfl) (fun _ _ _ h => h) (Or.inl ⟨by rfl, ?hy2x3⟩) (by with_reducible assumption) ?rest2x3
          case hy2x3 => (intro w hSw; (try dsimp only at hSw); go_simp; try with_reducible rfl)
          case' rest2x3 => (try simp only [Act.put, List.setIfInBounds_toArray, List.set_cons_zero, List.set_cons_succ])
          refine wpAnyH_take (i := 4) (oi := { dst := some 16, op := Op.move (Operand.tmp 3), type := 3, pos := "l2_set.go:7", after := #[{ on := 3, ground := Ground.guard }], guard := some (3, false) }) (v := ?v2x4) rfl (by kernel_rfl) (by kernel_rfl) (by kernel_rfl) (fun _ _ _ h => h) (Or.inl ⟨by rfl, ?hy2x4⟩) (by with_reducible assumption) ?rest2x4
          case hy2x4 => (intro w hSw; (try dsimp only at hSw); go_simp; try with_reducible rfl)
          case' rest2x4 => (try simp only [Act.put, List.setIfInBounds_toArray, List.set_cons_zero, List.set_cons_succ])
          refine wpAnyH_take (i := 5) (oi := { dst := some 17, op := Op.binOp BinOp.gtr 3 (Operand.tmp 16) (Operand.const (Value.int IntKind.i64 0)) 3, type := 4, pos := "l2_set.go:7", after := #[{ on := 4, ground := Ground.data }, { on := 3, ground := Ground.guard }], guard := some (3, false) }) (v := ?v2x5) rfl (by kernel_rfl) (by kernel_rfl) (by kernel_rfl) (fun _ _ _ h => h) (Or.inl ⟨by rfl, ?hy2x5⟩) (by with_reducible assumption) ?rest2x5
          case hy2x5 => (intro w hSw; (try dsimp only at hSw); go_simp; try with_reducible rfl)
          case' rest2x5 => (try simp only [Act.put, List.setIfInBounds_toArray, List.set_cons_zero, List.set_cons_succ])
          refine wpAnyH_take (i := 6) (oi := { dst := some 18, op := Op.move (Operand.tmp 17), type := 4, pos := "l2_set.go:7", after := #[{ on := 5, ground := Ground.data }, { on := 3, ground := Ground.chain }, { on := 3, ground := Ground.guard }], guard := some (3, false) }) (v := ?v2x6) rfl (by kernel_rfl) (by kernel_rfl) (by kernel_rfl) (fun _ _ _ h => h) (Or.inl ⟨by rfl, ?hy2x6⟩) (by with_reducible assumption) ?rest2x6
          case hy2x6 => (intro w hSw; (try dsimp only at hSw); go_simp; try with_reducible rfl)
          case' rest2x6 => (try simp only [Act.put, List.setIfInBounds_toArray, List.set_cons_zero, List.set_cons_succ])
          refine wpAnyH_take (i := 7) (oi := { dst := some 19, op := Op.move (Operand.tmp 0), type := 33, pos := "l2_set.go:7", after := #[{ on := 6, ground := Ground.guard }], guard := some (6, true) }) (v := undef) rfl (by kernel_rfl) (by kernel_rfl) (by kernel_rfl) (fun _ _ _ h => h) (Or.inr ⟨by rfl, rfl⟩) (by with_reducible assumption) ?rest2x7
          case' rest2x7 => (try simp only [Act.put, List.setIfInBounds_toArray, List.set_cons_zero, List.set_cons_succ])
          refine wpAnyH_take (i := 8) (oi := { dst := some 20, op := Op.move (Operand.tmp 3), type := 3, pos := "l2_set.go:7", after := #[{ on := 6, ground := Ground.guard }], guard := some (6, true) }) (v := undef) rfl (by kernel_rfl) (by kernel_rfl) (by kernel_rfl) (fun _ _ _ h => h) (Or.inr ⟨by rfl, rfl⟩) (by with_reducible assumption) ?rest2x8
          case' rest2x8 => (try simp only [Act.put, List.setIfInBounds_toArray, List.set_cons_zero, List.set_cons_succ])
          refine wpAnyH_take (i := 9) (oi := { dst := some 21, op := Op.binOp BinOp.sub 3 (Operand.tmp 20) (Operand.const (Value.int IntKind.i64 1)) 3, type := 3, pos := "l2_set.go:7", after := #[{ on := 8, ground := Ground.data }, { on := 6, ground := Ground.guard }], guard := some (6, true) }) (v := undef) rfl (by kernel_rfl) (by kernel_rfl) (by kernel_rfl) (fun _ _ _ h => h) (Or.inr ⟨by rfl, rfl⟩) (by with_reducible assumption) ?rest2x9
          case' rest2x9 => (try simp only [Act.put, List.setIfInBounds_toArray, List.set_cons_zero, List.set_cons_succ])
          refine wpAnyH_take (i := 10) (oi := { dst := some 22, op := Op.indexAddr 33 (Operand.tmp 19) (Operand.tmp 21), type := 0, pos := "l2_set.go:7", after := #[{ on := 7, ground := Ground.data }, { on := 9, ground := Ground.data }, { on := 6, ground := Ground.guard }], guard := some (6, true) }) (v := undef) rfl (by kernel_rfl) (by kernel_rfl) (by kernel_rfl) (fun _ _ _ h => h) (Or.inr ⟨by rfl, rfl⟩) (by with_reducible assumption) ?rest2x10
          case' rest2x10 => (try simp only [Act.put, List.setIfInBounds_toArray, List.set_cons_zero, List.set_cons_succ])
          refine wpAnyH_take (i := 11) (oi := { dst := some 23, op := Op.load 26 (Operand.tmp 22), type := 26, pos := "l2_set.go:7", after := #[{ on := 10, ground := Ground.data }, { on := 6, ground := Ground.guard }], guard := some (6, true) }) (v := undef) rfl (by kernel_rfl) (by kernel_rfl) (by kernel_rfl) (fun _ _ _ h => h) (Or.inr ⟨by rfl, rfl⟩) (by with_reducible assumption) ?rest2x11
          case' rest2x11 => (try simp only [Act.put, List.setIfInBounds_toArray, List.set_cons_zero, List.set_cons_succ])
          refine wpAnyH_take (i := 12) (oi := { dst := some 24, op := Op.load 26 (Operand.tmp 4), type := 26, pos := "l2_set.go:7", after := #[{ on := 6, ground := Ground.guard }], guard := some (6, true) }) (v := undef) rfl (by kernel_rfl) (by kernel_rfl) (by kernel_rfl) (fun _ _ _ h => h) (Or.inr ⟨by rfl, rfl⟩) (by with_reducible assumption) ?rest2x12
          case' rest2x12 => (try simp only [Act.put, List.setIfInBounds_toArray, List.set_cons_zero, List.set_cons_succ])
          refine wpAnyH_ready (rs := [13]) (by kernel_rfl) (by simp) ?_
          refine AllReadyH.cons (o := { dst := some 25, op := Op.call { callee := Callee.value (Operand.func 89), args := #[Operand.tmp 23, Operand.tmp 24], argTypes := #[26, 26] }, type := 4, pos := "l2_set.go:7", after := #[{ on := 11, ground := Ground.data }, { on := 12, ground := Ground.data }, { on := 6, ground := Ground.chain }, { on := 6, ground := Ground.guard }], guard := some (6, true) }) rfl (fun K hK => ?_) AllReadyH.nil
          go_simp
          refine hK.out _ _ ?_ (fun hHeld => ?_)
          · with_reducible assumption
          clear hK K
          try simp only [Act.put, List.setIfInBounds_toArray, List.set_cons_zero, List.set_cons_succ]
          refine wpAnyH_take (i := 14) (oi := { dst := some 26, op := Op.unOp UnOp.not 4 (Operand.tmp 25), type := 4, pos := "l2_set.go:7", after := #[{ on := 13, ground := Ground.data }, { on := 6, ground := Ground.guard }], guard := some (6, true) }) (v := undef) rfl (by kernel_rfl) (by kernel_rfl) (by kernel_rfl) (fun _ _ _ h => h) (Or.inr ⟨by rfl, rfl⟩) (by with_reducible assumption) ?rest2x14
          case' rest2x14 => (try simp only [Act.put, List.setIfInBounds_toArray, List.set_cons_zero, List.set_cons_succ])
          refine wpAnyH_take (i := 15) (oi := { dst := some 27, op := Op.pick (Operand.tmp 18) (Operand.tmp 26) (Operand.const (Value.bool false)), type := 4, pos := "l2_set.go:7", after := #[{ on := 6, ground := Ground.data }, { on := 14, ground := Ground.data }, { on := 3, ground := Ground.guard }], guard := some (3, false) }) (v := ?v2x15) rfl (by kernel_rfl) (by kernel_rfl) (by kernel_rfl) (fun _ _ _ h => h) (Or.inl ⟨by rfl, ?hy2x15⟩) (by with_reducible assumption) ?rest2x15
          case hy2x15 => (intro w hSw; (try dsimp only at hSw); go_simp; try with_reducible rfl)
          case' rest2x15 => (try simp only [Act.put, List.setIfInBounds_toArray, List.set_cons_zero, List.set_cons_succ])
          refine wpAnyH_take (i := 16) (oi := { dst := some 28, op := Op.pick (Operand.tmp 15) (Operand.const (Value.bool true)) (Operand.tmp 27), type := 4, pos := "l2_set.go:7", after := #[{ on := 3, ground := Ground.data }, { on := 15, ground := Ground.data }], guard := none }) (v := ?v2x16) rfl (by kernel_rfl) (by kernel_rfl) (by kernel_rfl) (fun _ _ _ h => h) (Or.inl ⟨by rfl, ?hy2x16⟩) (by with_reducible assumption) ?rest2x16
          case hy2x16 => (intro w hSw; (try dsimp only at hSw); go_simp; try with_reducible rfl)
          case' rest2x16 => (try simp only [Act.put, List.setIfInBounds_toArray, List.set_cons_zero, List.set_cons_succ])
          refine wpAnyH_done (by kernel_rfl) ?_ _
          go_wp2
          go_roundw
          case rel =>
            refine ⟨k + 1, by omega, by go_num, HC.out.succ hE, ?_, fin2 (by with_reducible assumption)⟩
            rw [HK.out]
            exact RisesTo.zero _
          case measure => simp [intOf]; omega
        · obtain ⟨i, hki⟩ : ∃ i, k = i + 1 := ⟨k - 1, by omega⟩
          obtain ⟨b', off', h2, hbN', g2, g3⟩ := HA.out i (by omega)
          obtain ⟨rfl, rfl⟩ : b' = b ∧ off' = off := by simp at h2; exact ⟨h2.1.symm, h2.2.symm⟩
          have q2 := cell_later hbA g2
          have q3 := cell_later hbA g3
          clear g2 g3 h2
          have hi0 : IntKind.i64.wrap ((k : Int) - 1) = (i : Int) := by rw [IntKind.wrap_i64]; omega
          have hi1 : (0 : Int) ≤ (i : Int) := by omega
          have hi2 : (i : Int) < (l.length : Int) := by omega
          have hi3 : 0 < k := by omega
          have hi4 : i < l.length := by omega
          have HK := hid hki
          clear hki hk0
          cases hF : lessB (px l i) (py l i) (px l k) (py l k)
          all_goals go_wp2
          all_goals go_region_held3 (fun u => u.cell? ⟨wr.heap.size, 0, none⟩ = some (.int .i64 (px l k)) ∧ u.cell? ⟨wr.heap.size, 1, none⟩ = some (.int .i64 (py l k)) ∧ u.cell? ⟨b', off' + i * 2, none⟩ = some (.int .i64 (px l i)) ∧ u.cell? ⟨b', off' + i * 2 + 1, none⟩ = some (.int .i64 (py l i)) ∧ Below w.heap.size w u) (first | exact keep4 (by with_reducible assumption) (by with_reducible assumption) | exact start4 (Below.refl _ _).drew r0 r1 q2 q3 hbA) (first | (go_at_call 46; refine (goodSpec_e _ _ _).mono ?_; rintro e w' ⟨rfl, hb⟩) | (go_at_call 89; refine (lessSpec_c _ _ _ _ _).mono ?_; rintro e w' ⟨rfl, hb⟩))
          · go_wp2
            go_ret
            have e := HK.out
            subst e
            exact ⟨by rw [goodL_fall hkl hF]; rfl, fin4 (by with_reducible assumption)⟩
          · go_wp2
            go_roundw
            case rel =>
              have e := HK.out
              subst e
              exact ⟨i + 1 + 1, by omega, by go_num, HC.out.succ hE, HR.out.succ hF, fin4 (by with_reducible assumption)⟩
            case measure => simp [intOf]; omega
    · obtain rfl : k = l.length := by omega
      go_wp2
      all_goals go_ret
      all_goals exact ⟨by rw [goodL_len HC.out HR.out]; first | rfl | (simp; omega), hbw⟩
end Go.Proofs.YtipiamhnngmjmaaDoor
namespace Go.Proofs.YtipiamhnngmjmaaDoor
open Go.RowKit
set_option linter.unusedVariables false
set_option maxRecDepth 8000
/-- How many points at the head of a list are less than (x, y). -/
def plc (l : List (Int × Int)) (x y : Int) : Nat := (l.takeWhile fun q => lessB q.1 q.2 x y).length
/-- Whether (x, y) stands at its place. -/
def hasB (l : List (Int × Int)) (x y : Int) : Bool := decide (plc l x y < l.length) && eqB (px l (plc l x y)) (py l (plc l x y)) x y
theorem plc_is (l : List (Int × Int)) (x y : Int) : ∀ k : Nat, k ≤ l.length → (∀ i, i < k → lessB (px l i) (py l i) x y = true) → (k < l.length → lessB (px l k) (py l k) x y = false) → plc l x y = k := by
  induction l with
  | nil => intro k hk _ _; simp at hk; subst hk; rfl
  | cons q l ih =>
    intro k hk h1 h2
    cases k with
    | zero =>
      have := h2 (by simp)
      simp [px, py] at this
      simp [plc, List.takeWhile, this]
    | succ k =>
      have h0 := h1 0 (by omega)
      simp [px, py] at h0
      have e := ih k (by simpa using hk) (fun i hi => by simpa [px, py] using h1 (i + 1) (by omega)) (fun hk' => by simpa [px, py] using h2 (by simpa using hk'))
      simp [plc, List.takeWhile, h0] at e ⊢
      exact e
theorem less_trans {a b c d e f : Int} (h : lessB a b c d = true) (k : lessB c d e f = true) : lessB a b e f = true := by
  have h' := of_decide_eq_true h
  have k' := of_decide_eq_true k
  exact decide_eq_true (by omega)
theorem less_irrefl (a b : Int) : lessB a b a b = false := decide_eq_false (by omega)
theorem less_eq {a b x y : Int} (h : lessB a b x y = false) : eqB a b x y = !lessB x y a b := by
  have h' := of_decide_eq_false h
  by_cases e : a = x ∧ b = y
  · obtain ⟨rfl, rfl⟩ := e
    rw [less_irrefl, eqB, decide_eq_true ⟨rfl, rfl⟩]; rfl
  · rw [eqB, decide_eq_false e, lessB, decide_eq_true (show x < a ∨ x = a ∧ y < b by omega)]; rfl
theorem rises_lt {l : List (Int × Int)} {n : Nat} (h : RisesTo l n) : ∀ d i, i + d + 1 ≤ n → lessB (px l i) (py l i) (px l (i + d + 1)) (py l (i + d + 1)) = true := by
  intro d
  induction d with
  | zero => intro i hi; exact h i (by omega)
  | succ d ih => intro i hi; exact less_trans (ih i (by omega)) (h (i + d + 1) (by omega))
/-- What a look by halves knows. -/
structure Half (l : List (Int × Int)) (x y : Int) (lo hi : Nat) : Prop where
  le : lo ≤ hi
  top : hi ≤ l.length
  below : ∀ i, i < lo → lessB (px l i) (py l i) x y = true
  above : ∀ i, hi ≤ i → i < l.length → lessB (px l i) (py l i) x y = false
theorem Half.start (l : List (Int × Int)) (x y : Int) : Half l x y 0 l.length := ⟨Nat.zero_le _, Nat.le_refl _, fun i h => absurd h (Nat.not_lt_zero _), fun i h k => by omega⟩
theorem Half.up {l : List (Int × Int)} {x y : Int} {lo hi m : Nat} (h : Half l x y lo hi) (hr : RisesTo l (l.length - 1)) (h2 : m < hi) (e : lessB (px l m) (py l m) x y = true) : Half l x y (m + 1) hi :=
  ⟨h2, h.top, fun i hi' => by
    by_cases hm : i = m
    · subst hm; exact e
    · have := h.top
      have k := rises_lt hr (m - i - 1) i (by omega)
      rw [show i + (m - i - 1) + 1 = m by omega] at k
      exact less_trans k e, h.above⟩
theorem Half.down {l : List (Int × Int)} {x y : Int} {lo hi m : Nat} (h : Half l x y lo hi) (hr : RisesTo l (l.length - 1)) (h1 : lo ≤ m) (h2 : m < hi) (e : lessB (px l m) (py l m) x y = false) : Half l x y lo m :=
  ⟨h1, by have := h.top; omega, h.below, fun i hi' hl => by
    by_cases hm : i = m
    · subst hm; exact e
    · have k := rises_lt hr (i - m - 1) m (by omega)
      rw [show m + (i - m - 1) + 1 = i by omega] at k
      cases f : lessB (px l i) (py l i) x y
      · rfl
      · rw [less_trans k f] at e; cases e⟩
theorem Half.plc {l : List (Int × Int)} {x y : Int} {lo hi : Nat} (h : Half l x y lo hi) (e : ¬ lo < hi) : plc l x y = lo := by
  have := h.le
  have := h.top
  exact plc_is l x y lo (by omega) h.below (fun hl => h.above lo (by omega) hl)
theorem drewN_below (n : Nat) (w : World) : Below w.heap.size w (w.drewN n) := by
  induction n with
  | zero => exact Below.refl _ _
  | succ n ih => exact ih.drew
theorem box4 {w W : World} {a0 a1 a2 a3 : Addr} {v0 v1 v2 v3 : Value} (h : W.cell? a0 = some v0 ∧ W.cell? a1 = some v1 ∧ W.cell? a2 = some v2 ∧ W.cell? a3 = some v3 ∧ Below w.heap.size w W) : W.cell? a0 = some v0 ∧ W.cell? a1 = some v1 ∧ Below w.heap.size w W := ⟨h.1, h.2.1, h.2.2.2.2⟩
theorem box0 (w : World) (x y : Int) (t : TypeId) : (w.alloc (.cells #[.int .i64 x, .int .i64 y] t)).cell? ⟨w.heap.size, 0, none⟩ = some (.int .i64 x) := by simp [go_sem]
theorem box1 (w : World) (x y : Int) (t : TypeId) : (w.alloc (.cells #[.int .i64 x, .int .i64 y] t)).cell? ⟨w.heap.size, 1, none⟩ = some (.int .i64 y) := by simp [go_sem]
set_option maxHeartbeats 4000000 in
theorem l2Place_c (l : List (Int × Int)) (x y : Int) (a : Option Addr) (len cap : Nat) (w : World) (hl : l.length = len) (h1 : len ≤ 1048576) (hA : At w.heap.size a l w) :
    Calls Tryd.prog 116 #[.slice a len cap, .agg #[.int .i64 x, .int .i64 y]] w fun e w' => e = .returned (.int .i64 (plc l x y)) ∧ Below w.heap.size w w' := by
  subst hl
  have HA := hid hA
  clear hA
  go_enter Tryd.func116, Tryd.ntmps116
  go_wp2
  go_loopw [5] (fun i wr => ∃ k : Nat, k ≤ l.length ∧ i = .int .i64 k ∧ (∀ i, i < k → lessB (px l i) (py l i) x y = true) ∧ wr.cell? ⟨w.heap.size, 0, none⟩ = some (.int .i64 x) ∧ wr.cell? ⟨w.heap.size, 1, none⟩ = some (.int .i64 y) ∧ Below w.heap.size w wr) (fun i _ => l.length - (intOf i).toNat)
  case atStart => exact ⟨0, Nat.zero_le _, rfl, fun i h => absurd h (Nat.not_lt_zero _), box0 _ _ _ _, box1 _ _ _ _, by go_grown⟩
  case round =>
    obtain ⟨k, hk, rfl, hC, r0, r1, hbw⟩ := hrel
    have HC := hid hC
    clear hC
    by_cases hkl : k < l.length
    · obtain ⟨b, off, rfl, hbN, g0, g1⟩ := HA.out k (by omega)
      have q0 := cell_later hbw g0
      have q1 := cell_later hbw g1
      clear g0 g1
      have hi1 : (0 : Int) ≤ (k : Int) := by omega
      have hi2 : (k : Int) < (l.length : Int) := by omega
      cases hE : lessB (px l k) (py l k) x y
      all_goals go_wp2
      all_goals go_region_held3 (fun u => u.cell? ⟨w.heap.size, 0, none⟩ = some (.int .i64 x) ∧ u.cell? ⟨w.heap.size, 1, none⟩ = some (.int .i64 y) ∧ u.cell? ⟨b, off + k * 2, none⟩ = some (.int .i64 (px l k)) ∧ u.cell? ⟨b, off + k * 2 + 1, none⟩ = some (.int .i64 (py l k)) ∧ Below w.heap.size w u) (first | exact keep4 (by with_reducible assumption) (by with_reducible assumption) | exact start4 (Below.refl _ _).drew r0 r1 q0 q1 hbw) (first | (go_at_call 89; refine (lessSpec_c _ _ _ _ _).mono ?_; rintro e w' ⟨rfl, hb⟩))
      · go_wp2
        go_ret
        exact ⟨by rw [plc_is l x y k hk HC.out (fun _ => hE)]; rfl, fin4 (by with_reducible assumption)⟩
      · go_wp2
        go_roundw
        case rel =>
          refine ⟨k + 1, by omega, by go_num, fun i hi => ?_, box4 (by with_reducible assumption)⟩
          by_cases hik : i = k
          · rw [hik]; exact hE
          · exact HC.out i (by omega)
        case measure => simp [intOf]; omega
    · obtain rfl : k = l.length := by omega
      have hd : decide (l.length < l.length) = false := decide_eq_false (by omega)
      go_wp2
      refine wp_region_held_drew (S := (fun u => u.cell? ⟨w.heap.size, 0, none⟩ = some (.int .i64 x) ∧ u.cell? ⟨w.heap.size, 1, none⟩ = some (.int .i64 y) ∧ Below w.heap.size w u)) (by kernel_rfl) ?_ (fun hHeld => ?_)
      · exact ⟨cell_later (Below.refl _ _).drew r0, cell_later (Below.refl _ _).drew r1, hbw.drew⟩
      refine wpAnyH_take (i := 0) (oi := { dst := some 6, op := Op.move (Operand.tmp 5), type := 3, pos := "l2_set.go:21", after := #[], guard := none }) (v := ?v1x0) rfl (by kernel_rfl) (by kernel_rfl) (by kernel_rfl) (fun _ _ _ h => h) (Or.inl ⟨by rfl, ?hy1x0⟩) (by with_reducible assumption) ?rest1x0
      case hy1x0 => (intro w hSw; (try dsimp only at hSw); go_simp; try with_reducible rfl)
      case' rest1x0 => (try simp only [Act.put, List.setIfInBounds_toArray, List.set_cons_zero, List.set_cons_succ])
      refine wpAnyH_take (i := 1) (oi := { dst := some 7, op := Op.move (Operand.tmp 0), type := 33, pos := "l2_set.go:21", after := #[], guard := none }) (v := ?v1x1) rfl (by kernel_rfl) (by kernel_rfl) (by kernel_rfl) (fun _ _ _ h => h) (Or.inl ⟨by rfl, ?hy1x1⟩) (by with_reducible assumption) ?rest1x1
      case hy1x1 => (intro w hSw; (try dsimp only at hSw); go_simp; try with_reducible rfl)
      case' rest1x1 => (try simp only [Act.put, List.setIfInBounds_toArray, List.set_cons_zero, List.set_cons_succ])
      refine wpAnyH_take (i := 2) (oi := { dst := some 8, op := Op.call { callee := Callee.builtin Builtin.len, args := #[Operand.tmp 7], argTypes := #[33] }, type := 3, pos := "l2_set.go:21", after := #[{ on := 1, ground := Ground.data }], guard := none }) (v := ?v1x2) rfl (by kernel_rfl) (by kernel_rfl) (by kernel_rfl) (fun _ _ _ h => h) (Or.inl ⟨by rfl, ?hy1x2⟩) (by with_reducible assumption) ?rest1x2
      case hy1x2 => (intro w hSw; (try dsimp only at hSw); go_simp; try with_reducible rfl)
      case' rest1x2 => (try simp only [Act.put, List.setIfInBounds_toArray, List.set_cons_zero, List.set_cons_succ])
      refine wpAnyH_take (i := 3) (oi := { dst := some 9, op := Op.binOp BinOp.lss 3 (Operand.tmp 6) (Operand.tmp 8) 3, type := 4, pos := "l2_set.go:21", after := #[{ on := 0, ground := Ground.data }, { on := 2, ground := Ground.data }], guard := none }) (v := ?v1x3) rfl (by kernel_rfl) (by kernel_rfl) (by kernel_rfl) (fun _ _ _ h => h) (Or.inl ⟨by rfl, ?hy1x3⟩) (by with_reducible assumption) ?rest1x3
      case hy1x3 => (intro w hSw; (try dsimp only at hSw); go_simp; try with_reducible rfl)
      case' rest1x3 => (try simp only [Act.put, List.setIfInBounds_toArray, List.set_cons_zero, List.set_cons_succ])
      refine wpAnyH_take (i := 4) (oi := { dst := some 10, op := Op.move (Operand.tmp 9), type := 4, pos := "l2_set.go:21", after := #[{ on := 3, ground := Ground.data }], guard := none }) (v := ?v1x4) rfl (by kernel_rfl) (by kernel_rfl) (by kernel_rfl) (fun _ _ _ h => h) (Or.inl ⟨by rfl, ?hy1x4⟩) (by with_reducible assumption) ?rest1x4
      case hy1x4 => (intro w hSw; (try dsimp only at hSw); go_simp; try with_reducible rfl)
      case' rest1x4 => (try simp only [Act.put, List.setIfInBounds_toArray, List.set_cons_zero, List.set_cons_succ])
      refine wpAnyH_take (i := 5) (oi := { dst := some 11, op := Op.move (Operand.tmp 0), type := 33, pos := "l2_set.go:21", after := #[{ on := 4, ground := Ground.guard }], guard := some (4, true) }) (v := undef) rfl (by kernel_rfl) (by kernel_rfl) (by kernel_rfl) (fun _ _ _ h => h) (Or.inr ⟨by rfl, rfl⟩) (by with_reducible assumption) ?rest1x5
      case' rest1x5 => (try simp only [Act.put, List.setIfInBounds_toArray, List.set_cons_zero, List.set_cons_succ])
      refine wpAnyH_take (i := 6) (oi := { dst := some 12, op := Op.move (Operand.tmp 5), type := 3, pos := "l2_set.go:21", after := #[{ on := 4, ground := Ground.guard }], guard := some (4, true) }) (v := undef) rfl (by kernel_rfl) (by kernel_rfl) (by kernel_rfl) (fun _ _ _ h => h) (Or.inr ⟨by rfl, rfl⟩) (by with_reducible assumption) ?rest1x6
      case' rest1x6 => (try simp only [Act.put, List.setIfInBounds_toArray, List.set_cons_zero, List.set_cons_succ])
      refine wpAnyH_take (i := 7) (oi := { dst := some 13, op := Op.indexAddr 33 (Operand.tmp 11) (Operand.tmp 12), type := 0, pos := "l2_set.go:21", after := #[{ on := 5, ground := Ground.data }, { on := 6, ground := Ground.data }, { on := 4, ground := Ground.guard }], guard := some (4, true) }) (v := undef) rfl (by kernel_rfl) (by kernel_rfl) (by kernel_rfl) (fun _ _ _ h => h) (Or.inr ⟨by rfl, rfl⟩) (by with_reducible assumption) ?rest1x7
      case' rest1x7 => (try simp only [Act.put, List.setIfInBounds_toArray, List.set_cons_zero, List.set_cons_succ])
      refine wpAnyH_take (i := 8) (oi := { dst := some 14, op := Op.load 26 (Operand.tmp 13), type := 26, pos := "l2_set.go:21", after := #[{ on := 7, ground := Ground.data }, { on := 4, ground := Ground.guard }], guard := some (4, true) }) (v := undef) rfl (by kernel_rfl) (by kernel_rfl) (by kernel_rfl) (fun _ _ _ h => h) (Or.inr ⟨by rfl, rfl⟩) (by with_reducible assumption) ?rest1x8
      case' rest1x8 => (try simp only [Act.put, List.setIfInBounds_toArray, List.set_cons_zero, List.set_cons_succ])
      refine wpAnyH_take (i := 9) (oi := { dst := some 15, op := Op.load 26 (Operand.tmp 3), type := 26, pos := "l2_set.go:21", after := #[{ on := 4, ground := Ground.guard }], guard := some (4, true) }) (v := undef) rfl (by kernel_rfl) (by kernel_rfl) (by kernel_rfl) (fun _ _ _ h => h) (Or.inr ⟨by rfl, rfl⟩) (by with_reducible assumption) ?rest1x9
      case' rest1x9 => (try simp only [Act.put, List.setIfInBounds_toArray, List.set_cons_zero, List.set_cons_succ])
      refine wpAnyH_ready (rs := [10]) (by kernel_rfl) (by simp) ?_
      refine AllReadyH.cons (o := { dst := some 16, op := Op.call { callee := Callee.value (Operand.func 89), args := #[Operand.tmp 14, Operand.tmp 15], argTypes := #[26, 26] }, type := 4, pos := "l2_set.go:21", after := #[{ on := 8, ground := Ground.data }, { on := 9, ground := Ground.data }, { on := 4, ground := Ground.chain }, { on := 4, ground := Ground.guard }], guard := some (4, true) }) rfl (fun K hK => ?_) AllReadyH.nil
      go_simp
      refine hK.out _ _ ?_ (fun hHeld => ?_)
      · with_reducible assumption
      clear hK K
      try simp only [Act.put, List.setIfInBounds_toArray, List.set_cons_zero, List.set_cons_succ]
      refine wpAnyH_take (i := 11) (oi := { dst := some 17, op := Op.pick (Operand.tmp 10) (Operand.tmp 16) (Operand.const (Value.bool false)), type := 4, pos := "l2_set.go:21", after := #[{ on := 4, ground := Ground.data }, { on := 10, ground := Ground.data }], guard := none }) (v := ?v1x11) rfl (by kernel_rfl) (by kernel_rfl) (by kernel_rfl) (fun _ _ _ h => h) (Or.inl ⟨by rfl, ?hy1x11⟩) (by with_reducible assumption) ?rest1x11
      case hy1x11 => (intro w hSw; (try dsimp only at hSw); go_simp; try with_reducible rfl)
      case' rest1x11 => (try simp only [Act.put, List.setIfInBounds_toArray, List.set_cons_zero, List.set_cons_succ])
      refine wpAnyH_done (by kernel_rfl) ?_ _
      go_wp2
      go_ret
      exact ⟨by rw [plc_is l x y _ hk HC.out (fun h => absurd h (by omega))]; rfl, fin2 (by with_reducible assumption)⟩
end Go.Proofs.YtipiamhnngmjmaaDoor
namespace Go.Proofs.YtipiamhnngmjmaaDoor
open Go.RowKit
set_option linter.unusedVariables false
set_option maxRecDepth 8000
set_option maxHeartbeats 8000000 in
theorem search_c (l : List (Int × Int)) (x y : Int) (a : Option Addr) (len cap : Nat) (w : World) (hl : l.length = len) (h1 : len ≤ 1048576) (hr : RisesTo l (l.length - 1)) (hA : At w.heap.size a l w) :
    Calls Tryd.prog 105 #[.slice a len cap, .agg #[.int .i64 x, .int .i64 y]] w fun e w' => e = .returned (.tuple #[.int .i64 (plc l x y), .bool (hasB l x y)]) ∧ Below w.heap.size w w' := by
  subst hl
  have HA := hid hA
  have HR := hid hr
  clear hA hr
  go_enter Tryd.func105, Tryd.ntmps105
  go_wp2
  go_loopw [6, 7] (fun i j wr => ∃ lo hi : Nat, (lo ≤ hi ∧ hi ≤ l.length) ∧ i = .int .i64 lo ∧ j = .int .i64 hi ∧ Half l x y lo hi ∧ wr.cell? ⟨w.heap.size, 0, none⟩ = some (.int .i64 x) ∧ wr.cell? ⟨w.heap.size, 1, none⟩ = some (.int .i64 y) ∧ Below w.heap.size w wr) (fun i j _ => (intOf j).toNat - (intOf i).toNat)
  case atStart => exact ⟨0, l.length, ⟨Nat.zero_le _, Nat.le_refl _⟩, rfl, rfl, Half.start l x y, box0 _ _ _ _, box1 _ _ _ _, by go_grown⟩
  case round =>
    obtain ⟨lo, hi, hk, rfl, rfl, hC, r0, r1, hbw⟩ := hrel
    have HC := hid hC
    clear hC
    by_cases hkl : lo < hi
    · obtain ⟨m, hm⟩ : ∃ m : Nat, m = lo + (hi - lo) / 2 := ⟨_, rfl⟩
      have hm1 : lo ≤ m := by omega
      have hm2 : m < hi := by omega
      have hm3 : m < l.length := by omega
      obtain ⟨b, off, rfl, hbN, g0, g1⟩ := HA.out m hm3
      have q0 := cell_later hbw g0
      have q1 := cell_later hbw g1
      clear g0 g1
      have hi1 : (0 : Int) ≤ (m : Int) := by omega
      have hi2 : (m : Int) < (l.length : Int) := by omega
      have hd1 : IntKind.i64.wrap ((hi : Int) - (lo : Int)) = ((hi - lo : Nat) : Int) := by rw [IntKind.wrap_i64]; omega
      have hd2 : (lo : Int) + ((hi - lo : Nat) : Int) / 2 = (m : Int) := by omega
      have hmm : m ≤ 1048576 := by omega
      clear hm
      cases hE : lessB (px l m) (py l m) x y
      all_goals go_wp2
      all_goals go_region_held3 (fun u => u.cell? ⟨w.heap.size, 0, none⟩ = some (.int .i64 x) ∧ u.cell? ⟨w.heap.size, 1, none⟩ = some (.int .i64 y) ∧ u.cell? ⟨b, off + m * 2, none⟩ = some (.int .i64 (px l m)) ∧ u.cell? ⟨b, off + m * 2 + 1, none⟩ = some (.int .i64 (py l m)) ∧ Below w.heap.size w u) (first | exact keep4 (by with_reducible assumption) (by with_reducible assumption) | exact start4 (Below.refl _ _).drew r0 r1 q0 q1 hbw) (first | (go_at_call 135; refine (lessThan_c _ _ _ _ _).mono ?_; rintro e w' ⟨rfl, hb⟩))
      · go_wp2
        go_roundw
        case rel => exact ⟨lo, m, ⟨hm1, by omega⟩, rfl, rfl, HC.out.down HR.out hm1 hm2 hE, box4 (by with_reducible assumption)⟩
        case measure => simp [intOf]; omega
      · go_wp2
        go_roundw
        case rel => exact ⟨m + 1, hi, ⟨by omega, hk.2⟩, by go_num, rfl, HC.out.up HR.out hm2 hE, box4 (by with_reducible assumption)⟩
        case measure => simp [intOf]; omega
    · obtain rfl : lo = hi := by omega
      have hP : plc l x y = lo := HC.out.plc (by omega)
      by_cases hin : lo < l.length
      · have hF : lessB (px l lo) (py l lo) x y = false := HC.out.above lo (Nat.le_refl _) hin
        have hH : hasB l x y = !lessB x y (px l lo) (py l lo) := by rw [hasB, hP, decide_eq_true hin, Bool.true_and, less_eq hF]
        have HP := hid hP
        have HH := hid hH
        clear hP hH hF
        obtain ⟨b, off, rfl, hbN, g0, g1⟩ := HA.out lo hin
        have q0 := cell_later hbw g0
        have q1 := cell_later hbw g1
        clear g0 g1
        have hi1 : (0 : Int) ≤ (lo : Int) := by omega
        have hi2 : (lo : Int) < (l.length : Int) := by omega
        cases hE : lessB x y (px l lo) (py l lo)
        all_goals go_wp2
        all_goals go_region_held3 (fun u => u.cell? ⟨w.heap.size, 0, none⟩ = some (.int .i64 x) ∧ u.cell? ⟨w.heap.size, 1, none⟩ = some (.int .i64 y) ∧ u.cell? ⟨b, off + lo * 2, none⟩ = some (.int .i64 (px l lo)) ∧ u.cell? ⟨b, off + lo * 2 + 1, none⟩ = some (.int .i64 (py l lo)) ∧ Below w.heap.size w u) (first | exact keep4 (by with_reducible assumption) (by with_reducible assumption) | exact start4 (Below.refl _ _).drew r0 r1 q0 q1 hbw) (first | (go_at_call 135; refine (lessThan_c _ _ _ _ _).mono ?_; rintro e w' ⟨rfl, hb⟩))
        all_goals go_wp2
        all_goals go_ret2
        all_goals exact ⟨by rw [HP.out, HH.out, hE]; rfl, fin4 (by with_reducible assumption)⟩
      · have hH : hasB l x y = false := by rw [hasB, hP, decide_eq_false hin, Bool.false_and]
        have hd : decide (lo < l.length) = false := decide_eq_false hin
        have HP := hid hP
        have HH := hid hH
        clear hP hH
        go_wp2
        refine wp_region_held_drew (S := (fun u => u.cell? ⟨w.heap.size, 0, none⟩ = some (.int .i64 x) ∧ u.cell? ⟨w.heap.size, 1, none⟩ = some (.int .i64 y) ∧ Below w.heap.size w u)) (by kernel_rfl) ?_ (fun hHeld => ?_)
        · exact ⟨cell_later (Below.refl _ _).drew r0, cell_later (Below.refl _ _).drew r1, hbw.drew⟩
        refine wpAnyH_take (i := 0) (oi := { dst := some 30, op := Op.move (Operand.tmp 6), type := 3, pos := "l2_set.go:140", after := #[], guard := none }) (v := ?v2x0) rfl (by kernel_rfl) (by kernel_rfl) (by kernel_rfl) (fun _ _ _ h => h) (Or.inl ⟨by rfl, ?hy2x0⟩) (by with_reducible assumption) ?rest2x0
        case hy2x0 => (intro w hSw; (try dsimp only at hSw); go_simp; try with_reducible rfl)
        case' rest2x0 => (try simp only [Act.put, List.setIfInBounds_toArray, List.set_cons_zero, List.set_cons_succ])
        refine wpAnyH_take (i := 1) (oi := { dst := some 31, op := Op.move (Operand.tmp 6), type := 3, pos := "l2_set.go:140", after := #[], guard := none }) (v := ?v2x1) rfl (by kernel_rfl) (by kernel_rfl) (by kernel_rfl) (fun _ _ _ h => h) (Or.inl ⟨by rfl, ?hy2x1⟩) (by with_reducible assumption) ?rest2x1
        case hy2x1 => (intro w hSw; (try dsimp only at hSw); go_simp; try with_reducible rfl)
        case' rest2x1 => (try simp only [Act.put, List.setIfInBounds_toArray, List.set_cons_zero, List.set_cons_succ])
        refine wpAnyH_take (i := 2) (oi := { dst := some 32, op := Op.move (Operand.tmp 0), type := 95, pos := "l2_set.go:140", after := #[], guard := none }) (v := ?v2x2) rfl (by kernel_rfl) (by kernel_rfl) (by kernel_rfl) (fun _ _ _ h => h) (Or.inl ⟨by rfl, ?hy2x2⟩) (by with_reducible assumption) ?rest2x2
        case hy2x2 => (intro w hSw; (try dsimp only at hSw); go_simp; try with_reducible rfl)
        case' rest2x2 => (try simp only [Act.put, List.setIfInBounds_toArray, List.set_cons_zero, List.set_cons_succ])
        refine wpAnyH_take (i := 3) (oi := { dst := some 33, op := Op.call { callee := Callee.builtin Builtin.len, args := #[Operand.tmp 32], argTypes := #[95] }, type := 3, pos := "l2_set.go:140", after := #[{ on := 2, ground := Ground.data }], guard := none }) (v := ?v2x3) rfl (by kernel_rfl) (by kernel_rfl) (by kernel_rfl) (fun _ _ _ h => h) (Or.inl ⟨by rfl, ?hy2x3⟩) (by with_reducible assumption) ?rest2x3
        case hy2x3 => (intro w hSw; (try dsimp only at hSw); go_simp; try with_reducible rfl)
        case' rest2x3 => (try simp only [Act.put, List.setIfInBounds_toArray, List.set_cons_zero, List.set_cons_succ])
        refine wpAnyH_take (i := 4) (oi := { dst := some 34, op := Op.binOp BinOp.lss 3 (Operand.tmp 31) (Operand.tmp 33) 3, type := 4, pos := "l2_set.go:140", after := #[{ on := 1, ground := Ground.data }, { on := 3, ground := Ground.data }], guard := none }) (v := ?v2x4) rfl (by kernel_rfl) (by kernel_rfl) (by kernel_rfl) (fun _ _ _ h => h) (Or.inl ⟨by rfl, ?hy2x4⟩) (by with_reducible assumption) ?rest2x4
        case hy2x4 => (intro w hSw; (try dsimp only at hSw); go_simp; try with_reducible rfl)
        case' rest2x4 => (try simp only [Act.put, List.setIfInBounds_toArray, List.set_cons_zero, List.set_cons_succ])
        refine wpAnyH_take (i := 5) (oi := { dst := some 35, op := Op.move (Operand.tmp 34), type := 4, pos := "l2_set.go:140", after := #[{ on := 4, ground := Ground.data }], guard := none }) (v := ?v2x5) rfl (by kernel_rfl) (by kernel_rfl) (by kernel_rfl) (fun _ _ _ h => h) (Or.inl ⟨by rfl, ?hy2x5⟩) (by with_reducible assumption) ?rest2x5
        case hy2x5 => (intro w hSw; (try dsimp only at hSw); go_simp; try with_reducible rfl)
        case' rest2x5 => (try simp only [Act.put, List.setIfInBounds_toArray, List.set_cons_zero, List.set_cons_succ])
        refine wpAnyH_take (i := 6) (oi := { dst := some 36, op := Op.load 26 (Operand.tmp 3), type := 26, pos := "l2_set.go:140", after := #[{ on := 5, ground := Ground.guard }], guard := some (5, true) }) (v := undef) rfl (by kernel_rfl) (by kernel_rfl) (by kernel_rfl) (fun _ _ _ h => h) (Or.inr ⟨by rfl, rfl⟩) (by with_reducible assumption) ?rest2x6
        case' rest2x6 => (try simp only [Act.put, List.setIfInBounds_toArray, List.set_cons_zero, List.set_cons_succ])
        refine wpAnyH_take (i := 7) (oi := { dst := some 37, op := Op.makeInterface 26 (Operand.tmp 36), type := 20, pos := "l2_set.go:140", after := #[{ on := 6, ground := Ground.data }, { on := 5, ground := Ground.guard }], guard := some (5, true) }) (v := undef) rfl (by kernel_rfl) (by kernel_rfl) (by kernel_rfl) (fun _ _ _ h => h) (Or.inr ⟨by rfl, rfl⟩) (by with_reducible assumption) ?rest2x7
        case' rest2x7 => (try simp only [Act.put, List.setIfInBounds_toArray, List.set_cons_zero, List.set_cons_succ])
        refine wpAnyH_take (i := 8) (oi := { dst := some 38, op := Op.move (Operand.tmp 0), type := 95, pos := "l2_set.go:140", after := #[{ on := 5, ground := Ground.guard }], guard := some (5, true) }) (v := undef) rfl (by kernel_rfl) (by kernel_rfl) (by kernel_rfl) (fun _ _ _ h => h) (Or.inr ⟨by rfl, rfl⟩) (by with_reducible assumption) ?rest2x8
        case' rest2x8 => (try simp only [Act.put, List.setIfInBounds_toArray, List.set_cons_zero, List.set_cons_succ])
        refine wpAnyH_take (i := 9) (oi := { dst := some 39, op := Op.move (Operand.tmp 6), type := 3, pos := "l2_set.go:140", after := #[{ on := 5, ground := Ground.guard }], guard := some (5, true) }) (v := undef) rfl (by kernel_rfl) (by kernel_rfl) (by kernel_rfl) (fun _ _ _ h => h) (Or.inr ⟨by rfl, rfl⟩) (by with_reducible assumption) ?rest2x9
        case' rest2x9 => (try simp only [Act.put, List.setIfInBounds_toArray, List.set_cons_zero, List.set_cons_succ])
        refine wpAnyH_take (i := 10) (oi := { dst := some 40, op := Op.indexAddr 95 (Operand.tmp 38) (Operand.tmp 39), type := 0, pos := "l2_set.go:140", after := #[{ on := 8, ground := Ground.data }, { on := 9, ground := Ground.data }, { on := 5, ground := Ground.guard }], guard := some (5, true) }) (v := undef) rfl (by kernel_rfl) (by kernel_rfl) (by kernel_rfl) (fun _ _ _ h => h) (Or.inr ⟨by rfl, rfl⟩) (by with_reducible assumption) ?rest2x10
        case' rest2x10 => (try simp only [Act.put, List.setIfInBounds_toArray, List.set_cons_zero, List.set_cons_succ])
        refine wpAnyH_take (i := 11) (oi := { dst := some 41, op := Op.load 26 (Operand.tmp 40), type := 26, pos := "l2_set.go:140", after := #[{ on := 10, ground := Ground.data }, { on := 5, ground := Ground.guard }], guard := some (5, true) }) (v := undef) rfl (by kernel_rfl) (by kernel_rfl) (by kernel_rfl) (fun _ _ _ h => h) (Or.inr ⟨by rfl, rfl⟩) (by with_reducible assumption) ?rest2x11
        case' rest2x11 => (try simp only [Act.put, List.setIfInBounds_toArray, List.set_cons_zero, List.set_cons_succ])
        refine wpAnyH_ready (rs := [12]) (by kernel_rfl) (by simp) ?_
        refine AllReadyH.cons (o := { dst := some 42, op := Op.call { callee := Callee.invoke (Operand.tmp 37) "loop.example/g00780/impl.lessThan", args := #[Operand.tmp 41], argTypes := #[26] }, type := 4, pos := "l2_set.go:140", after := #[{ on := 7, ground := Ground.data }, { on := 11, ground := Ground.data }, { on := 5, ground := Ground.chain }, { on := 5, ground := Ground.guard }], guard := some (5, true) }) rfl (fun K hK => ?_) AllReadyH.nil
        go_simp
        refine hK.out _ _ ?_ (fun hHeld => ?_)
        · with_reducible assumption
        clear hK K
        try simp only [Act.put, List.setIfInBounds_toArray, List.set_cons_zero, List.set_cons_succ]
        refine wpAnyH_take (i := 13) (oi := { dst := some 43, op := Op.unOp UnOp.not 4 (Operand.tmp 42), type := 4, pos := "l2_set.go:140", after := #[{ on := 12, ground := Ground.data }, { on := 5, ground := Ground.guard }, { on := 15, ground := Ground.gcOnly Departure.lateStores }], guard := some (5, true) }) (v := undef) rfl (by kernel_rfl) (by kernel_rfl) (by kernel_rfl) (fun _ _ _ h => h) (Or.inr ⟨by rfl, rfl⟩) (by with_reducible assumption) ?rest2x13
        case' rest2x13 => (try simp only [Act.put, List.setIfInBounds_toArray, List.set_cons_zero, List.set_cons_succ])
        refine wpAnyH_take (i := 14) (oi := { dst := some 44, op := Op.pick (Operand.tmp 35) (Operand.tmp 43) (Operand.const (Value.bool false)), type := 4, pos := "l2_set.go:140", after := #[{ on := 5, ground := Ground.data }, { on := 13, ground := Ground.data }, { on := 15, ground := Ground.gcOnly Departure.lateStores }], guard := none }) (v := ?v2x14) rfl (by kernel_rfl) (by kernel_rfl) (by kernel_rfl) (fun _ _ _ h => h) (Or.inl ⟨by rfl, ?hy2x14⟩) (by with_reducible assumption) ?rest2x14
        case hy2x14 => (intro w hSw; (try dsimp only at hSw); go_simp; try with_reducible rfl)
        case' rest2x14 => (try simp only [Act.put, List.setIfInBounds_toArray, List.set_cons_zero, List.set_cons_succ])
        refine wpAnyH_take (i := 15) (oi := { dst := some 4, op := Op.assign (Operand.tmp 30), type := 3, pos := "l2_set.go:140", after := #[{ on := 0, ground := Ground.data }, { on := 12, ground := Ground.chain }, { on := 0, ground := Ground.phase }, { on := 1, ground := Ground.textOnly Departure.lateStores }, { on := 2, ground := Ground.textOnly Departure.lateStores }, { on := 3, ground := Ground.textOnly Departure.lateStoresUnsure }, { on := 4, ground := Ground.textOnly Departure.lateStores }, { on := 5, ground := Ground.textOnly Departure.lateStores }, { on := 6, ground := Ground.textOnly Departure.lateStores }, { on := 7, ground := Ground.textOnly Departure.lateStores }, { on := 8, ground := Ground.textOnly Departure.lateStores }, { on := 9, ground := Ground.textOnly Departure.lateStores }, { on := 10, ground := Ground.textOnly Departure.lateStores }, { on := 11, ground := Ground.textOnly Departure.lateStores }, { on := 12, ground := Ground.textOnly Departure.lateStoresUnsure }, { on := 13, ground := Ground.textOnly Departure.lateStores }, { on := 14, ground := Ground.textOnly Departure.lateStores }], guard := none }) (v := ?v2x15) rfl (by kernel_rfl) (by kernel_rfl) (by kernel_rfl) (fun _ _ _ h => h) (Or.inl ⟨by rfl, ?hy2x15⟩) (by with_reducible assumption) ?rest2x15
        case hy2x15 => (intro w hSw; (try dsimp only at hSw); go_simp; try with_reducible rfl)
        case' rest2x15 => (try simp only [Act.put, List.setIfInBounds_toArray, List.set_cons_zero, List.set_cons_succ])
        refine wpAnyH_take (i := 16) (oi := { dst := some 5, op := Op.assign (Operand.tmp 44), type := 4, pos := "l2_set.go:140", after := #[{ on := 14, ground := Ground.data }, { on := 15, ground := Ground.chain }, { on := 0, ground := Ground.phase }, { on := 1, ground := Ground.phase }, { on := 2, ground := Ground.phase }, { on := 3, ground := Ground.phase }, { on := 4, ground := Ground.phase }, { on := 5, ground := Ground.phase }, { on := 6, ground := Ground.phase }, { on := 7, ground := Ground.phase }, { on := 8, ground := Ground.phase }, { on := 9, ground := Ground.phase }, { on := 10, ground := Ground.phase }, { on := 11, ground := Ground.phase }, { on := 12, ground := Ground.phase }, { on := 13, ground := Ground.phase }, { on := 14, ground := Ground.phase }, { on := 15, ground := Ground.phase }], guard := none }) (v := ?v2x16) rfl (by kernel_rfl) (by kernel_rfl) (by kernel_rfl) (fun _ _ _ h => h) (Or.inl ⟨by rfl, ?hy2x16⟩) (by with_reducible assumption) ?rest2x16
        case hy2x16 => (intro w hSw; (try dsimp only at hSw); go_simp; try with_reducible rfl)
        case' rest2x16 => (try simp only [Act.put, List.setIfInBounds_toArray, List.set_cons_zero, List.set_cons_succ])
        refine wpAnyH_done (by kernel_rfl) ?_ _
        go_wp2
        go_ret2
        exact ⟨by rw [HP.out, HH.out]; rfl, fin2 (by with_reducible assumption)⟩
end Go.Proofs.YtipiamhnngmjmaaDoor
namespace Go.Proofs.YtipiamhnngmjmaaDoor
open Go.RowKit
set_option linter.unusedVariables false
set_option maxRecDepth 8000
def plcOk (l : List (Int × Int)) (x y : Int) : Bool := goodL l && hasB l x y
def plcN (l : List (Int × Int)) (x y : Int) : Nat := if plcOk l x y then plc l x y else 0
theorem goodL_rises {l : List (Int × Int)} (h : goodL l = true) : RisesTo l (l.length - 1) := by
  rw [goodL, Bool.and_eq_true] at h
  exact (rises_iff l).1 h.2
theorem goodL_few {l : List (Int × Int)} (h : goodL l = true) : l.length ≤ 60 := by
  rw [goodL, Bool.and_eq_true, Bool.and_eq_true] at h
  exact of_decide_eq_true h.1.1
theorem goodL_good {l : List (Int × Int)} (h : goodL l = true) : GoodTo l l.length := by
  rw [goodL, Bool.and_eq_true, Bool.and_eq_true] at h
  exact (allGood_iff l).1 h.1.2
end Go.Proofs.YtipiamhnngmjmaaDoor
namespace Go.Proofs.YtipiamhnngmjmaaDoor
open Go.RowKit
set_option linter.unusedVariables false
set_option maxRecDepth 8000
/-- The cells of a list of points, in a row. -/
def cells (l : List (Int × Int)) : List Value := l.flatMap fun p => [.int .i64 p.1, .int .i64 p.2]
theorem cells_append (l m : List (Int × Int)) : cells (l ++ m) = cells l ++ cells m := by simp [cells]
theorem cells_one (p : Int × Int) : cells [p] = [.int .i64 p.1, .int .i64 p.2] := rfl
theorem cells_len (l : List (Int × Int)) : (cells l).length = l.length * 2 := by
  induction l with
  | nil => rfl
  | cons p l ih =>
    have : cells (p :: l) = .int .i64 p.1 :: .int .i64 p.2 :: cells l := rfl
    rw [this]; simp [ih]; omega
theorem cells_get (l : List (Int × Int)) : ∀ j, j < l.length * 2 → (cells l)[j]? = some (cel l j) := by
  induction l with
  | nil => intro j hj; simp at hj
  | cons p l ih =>
    intro j hj
    have e : cells (p :: l) = .int .i64 p.1 :: .int .i64 p.2 :: cells l := rfl
    rw [e]
    match j, hj with
    | 0, _ => simp [cel, px]
    | 1, _ => simp [cel, py]
    | j + 2, hj =>
      have h := ih j (by simp at hj; omega)
      simp only [List.getElem?_cons_succ]
      rw [h]
      congr 1
      unfold cel
      rw [show (j + 2) % 2 = j % 2 by omega, show (j + 2) / 2 = j / 2 + 1 by omega]
      simp [px, py]
theorem cells_ones (l : List (Int × Int)) : ∀ u ∈ cells l, u.oneCell' = true := by
  intro u hu
  simp only [cells, List.mem_flatMap] at hu
  obtain ⟨p, _, hp⟩ := hu
  simp at hp
  rcases hp with rfl | rfl <;> rfl
theorem own_of {N : Nat} {v : Value} {l : List (Int × Int)} {w : World} {n : Nat} (h : w.ownsRow N 26 2 v n (cells l)) : Own N v l w := by
  obtain ⟨hlen, h⟩ := h
  rw [cells_len] at hlen
  have hn : n = l.length := by omega
  subst hn
  rcases h with ⟨rfl, h0⟩ | ⟨g, cap, cur, rfl, h1, h2, h3, h4, h5, h6⟩
  · exact .inl ⟨List.eq_nil_of_length_eq_zero h0, rfl⟩
  · refine .inr ⟨g, cap, fun i => (cur[i]?).getD undef, rfl, h1, h3, h4, ⟨cur, h2, h5, fun i hi => ?_⟩, fun i hi => ?_⟩
    · show cur[i]? = some ((cur[i]?).getD undef)
      rw [Array.getElem?_eq_getElem (by omega)]; rfl
    · have h := cells_get l i hi
      rw [← h6, List.getElem?_take, if_pos hi, Array.getElem?_toList] at h
      show (cur[i]?).getD undef = cel l i
      rw [h]; rfl
theorem row_of {N : Nat} {v : Value} {l : List (Int × Int)} {w : World} (h : Own N v l w) : w.ownsRow N 26 2 v l.length (cells l) := by
  refine ⟨cells_len l, ?_⟩
  rcases h with ⟨rfl, e⟩ | ⟨g, cap, f, e, h1, h2, h3, ⟨cc, k1, k2, k3⟩, h5⟩
  · exact .inl ⟨e, rfl⟩
  · refine .inr ⟨g, cap, cc, e, h1, k1, h2, h3, k2, ?_⟩
    refine List.ext_getElem? fun i => ?_
    by_cases hi : i < l.length * 2
    · rw [List.getElem?_take, if_pos hi, Array.getElem?_toList, k3 i (by omega), h5 i hi, cells_get l i hi]
    · rw [List.getElem?_eq_none (by simp; omega), List.getElem?_eq_none (by rw [cells_len]; omega)]
theorem Cop.later {l : List (Int × Int)} {k : Nat} {w wr u : World} (h : Cop l k w wr) (hb : Below wr.heap.size wr u) : Cop l k w u := ⟨grew h.below hb, rowIs_later h.row hb h.row.lt⟩
theorem Cop.own {l : List (Int × Int)} {w wr : World} (h : Cop l l.length w wr) (hm : l.length ≤ 1048576) : Own w.heap.size (.slice (some ⟨w.heap.size, 0, none⟩) l.length l.length) l wr :=
  .inr ⟨w.heap.size, l.length, _, rfl, Nat.le_refl _, Nat.le_refl _, by unfold maxLen; omega, h.row, fun i hi => by rw [if_pos hi]⟩
theorem grown_own {w wr u w' : World} {v : Value} {n : Nat} {xs : List Value} (h : Below w.heap.size w wr) (hb : Below wr.heap.size wr u) (hg : u.grownBy w' v.ownBlock) (ho : wr.ownsRow w.heap.size 26 2 v n xs) : Below w.heap.size w w' :=
  (grew h hb).grown hg (Nat.le_trans h.size hb.size) (fun k hk => (ho.lt k hk).1)
/-- Every point moved. -/
def moveL (l : List (Int × Int)) (x y : Int) : List (Int × Int) := l.map fun p => (p.1 + x, p.2 + y)
theorem moveL_len (l : List (Int × Int)) (x y : Int) : (moveL l x y).length = l.length := by simp [moveL]
theorem px_move {l : List (Int × Int)} {k : Nat} (x y : Int) (h : k < l.length) : px (moveL l x y) k = px l k + x := by simp [px, moveL, h]
theorem py_move {l : List (Int × Int)} {k : Nat} (x y : Int) (h : k < l.length) : py (moveL l x y) k = py l k + y := by simp [py, moveL, h]
def movOk (l : List (Int × Int)) (x y : Int) : Bool := goodL l && goodB x y && goodL (moveL l x y)
def movR (l : List (Int × Int)) (x y : Int) : List (Int × Int) := if movOk l x y then moveL l x y else []
theorem move_rises {l : List (Int × Int)} (x y : Int) (h : RisesTo l (l.length - 1)) : RisesTo (moveL l x y) ((moveL l x y).length - 1) := fun i hi => by
  rw [moveL_len] at hi
  have := of_decide_eq_true (h i hi)
  rw [px_move x y (by omega), py_move x y (by omega), px_move x y (by omega), py_move x y (by omega)]
  exact decide_eq_true (by omega)
theorem move_good {l : List (Int × Int)} {x y : Int} (h : goodL l = true) : goodL (moveL l x y) = allGood (moveL l x y) := by
  rw [goodL, (rises_iff _).2 (move_rises x y (goodL_rises h)), decide_eq_true (by rw [moveL_len]; exact goodL_few h)]; simp
theorem moveL_take {l : List (Int × Int)} {k : Nat} (x y : Int) (h : k < l.length) : moveL (l.take (k + 1)) x y = moveL (l.take k) x y ++ [(px l k + x, py l k + y)] := by
  unfold moveL
  rw [List.take_succ_eq_append_getElem h, List.map_append]
  simp [px, py, h]
theorem goodB_b {x y : Int} (h : goodB x y = true) : (-1000000 ≤ x ∧ x ≤ 1000000) ∧ (-1000000 ≤ y ∧ y ≤ 1000000) := by have := of_decide_eq_true h; omega
end Go.Proofs.YtipiamhnngmjmaaDoor
namespace Go.Proofs.YtipiamhnngmjmaaDoor
open Go.RowKit
set_option linter.unusedVariables false
set_option maxRecDepth 8000
/-- A slice as Go has it: nil, or at an address, no longer than its room. -/
def Fit (a : Option Addr) (len cap : Nat) : Prop := (a = none ∧ cap = 0 ∧ len = 0) ∨ ((∃ b off, a = some ⟨b, off, none⟩) ∧ len ≤ cap ∧ cap ≤ maxLen)
theorem cells_src {N b off : Nat} {l : List (Int × Int)} {w : World} (hA : At N (some ⟨b, off, none⟩) l w) {i : Nat} {ao : Option Addr} (hao : i < l.length → ao = some ⟨b, off + i * 2, none⟩) :
    ∀ ad, ao = some ad → ∀ j u, (cells (l.drop i))[j]? = some u → w.cell? (ad.add j) = some u := by
  intro ad had j u hu
  have hj : j < (l.drop i).length * 2 := by
    have := (List.getElem?_eq_some_iff.1 hu).1
    rwa [cells_len] at this
  have hil : i < l.length := by rw [List.length_drop] at hj; omega
  rw [hao hil] at had
  obtain rfl := Option.some.inj had
  rw [cells_get _ _ hj] at hu
  obtain rfl := Option.some.inj hu
  rw [List.length_drop] at hj
  obtain ⟨b', off', e, _, h0, h1⟩ := hA (i + j / 2) (by omega)
  obtain ⟨rfl, rfl⟩ : b = b' ∧ off = off' := by simp at e; exact e
  rw [Go.WideShapes.add_plain]
  unfold cel
  by_cases h2 : j % 2 = 0
  · rw [if_pos h2, show off + i * 2 + j = off + (i + j / 2) * 2 by omega, h0]
    simp [px]
  · rw [if_neg h2, show off + i * 2 + j = off + (i + j / 2) * 2 + 1 by omega, h1]
    simp [py]
theorem cells_pre {N b off : Nat} {l : List (Int × Int)} {w : World} (hA : At N (some ⟨b, off, none⟩) l w) {k : Nat} {ao : Option Addr} (hao : 0 < l.length → ao = some ⟨b, off, none⟩) :
    ∀ ad, ao = some ad → ∀ j u, (cells (l.take k))[j]? = some u → w.cell? (ad.add j) = some u := by
  intro ad had j u hu
  have hj : j < (l.take k).length * 2 := by
    have := (List.getElem?_eq_some_iff.1 hu).1
    rwa [cells_len] at this
  have hj2 : j / 2 < k ∧ j / 2 < l.length := by rw [List.length_take] at hj; omega
  rw [hao (by omega)] at had
  obtain rfl := Option.some.inj had
  rw [cells_get _ _ hj] at hu
  obtain rfl := Option.some.inj hu
  obtain ⟨b', off', e, _, h0, h1⟩ := hA (j / 2) hj2.2
  obtain ⟨rfl, rfl⟩ : b = b' ∧ off = off' := by simp at e; exact e
  rw [Go.WideShapes.add_plain]
  unfold cel
  by_cases h2 : j % 2 = 0
  · rw [if_pos h2, show off + j = off + (j / 2) * 2 by omega, h0]
    simp [px, hj2.1]
  · rw [if_neg h2, show off + j = off + (j / 2) * 2 + 1 by omega, h1]
    simp [py, hj2.1]
theorem one_src (w : World) (x y : Int) : ∀ ad, some (⟨w.heap.size, 0, none⟩ : Addr) = some ad → ∀ j u, (cells [(x, y)])[j]? = some u → (w.alloc (.cells #[.int .i64 x, .int .i64 y] 26)).cell? (ad.add j) = some u := by
  intro ad h j u hu
  obtain rfl := Option.some.inj h
  rw [Go.WideShapes.add_plain, Nat.zero_add]
  match j, hu with
  | 0, hu => simp [cells] at hu; subst hu; exact box0 w x y _
  | 1, hu => simp [cells] at hu; subst hu; exact box1 w x y _
theorem put_cells (l : List (Int × Int)) (k : Nat) (x y : Int) : cells (l.take k) ++ cells [(x, y)] ++ cells (l.drop k) = cells (l.take k ++ (x, y) :: l.drop k) := by
  rw [← cells_append, ← cells_append, List.append_assoc]; rfl
theorem At.laterB {N B : Nat} {a : Option Addr} {l : List (Int × Int)} {w w' : World} (h : At N a l w) (hb : Below B w w') (hN : N ≤ B) : At N a l w' := fun i hi => by
  obtain ⟨b, off, e, hb', h0, h1⟩ := h i hi
  exact ⟨b, off, e, hb', (hb.cell (show b < B by omega)).trans h0, (hb.cell (show b < B by omega)).trans h1⟩
theorem growNone {w w' : World} (h : w.grownBy w' none) : Below w.heap.size w w' := (Below.refl _ _).grown h (Nat.le_refl _) (fun k hk => by cases hk)
theorem grownB {B : Nat} {w w' : World} {g : Nat} (h : w.grownBy w' (some g)) (hB : B ≤ w.heap.size) (hg : B ≤ g) : Below B w w' := (Below.refl _ _).grown h hB (fun k hk => by cases hk; exact hg)
set_option maxHeartbeats 2000000 in
set_option maxRecDepth 4000 in
theorem with_c (l : List (Int × Int)) (k : Nat) (x y : Int) (a : Option Addr) (len cap : Nat) (w : World) (hl : l.length = len) (h1 : len ≤ 1048576) (hk : k ≤ len) (hF : Fit a len cap) (hA : At w.heap.size a l w) :
    Calls Tryd.prog 106 #[.slice a len cap, .int .i64 k, .agg #[.int .i64 x, .int .i64 y]] w fun e w' => ∃ v, e = .returned v ∧ Own w.heap.size v (l.take k ++ (x, y) :: l.drop k) w' ∧ Below w.heap.size w w' := by
  subst hl
  have HA := hid hA
  clear hA
  have B0 := box0 w x y 26
  have B1 := box1 w x y 26
  have hgB : Below w.heap.size w (w.alloc (.cells #[.int .i64 x, .int .i64 y] 26)) := by go_grown
  obtain ⟨i0, hi, hz0, hz1, hz2⟩ := info_parts info_pt
  rcases hF with ⟨rfl, rfl, hl0⟩ | ⟨⟨b, off, rfl⟩, hlc, hcm⟩
  · obtain rfl := List.eq_nil_of_length_eq_zero hl0
    obtain rfl : k = 0 := by simpa using hk
    simp only [List.length_nil]
    go_enter Tryd.func106, Tryd.ntmps106
    go_upto_region 1 with fail
    generalize w.alloc (.cells #[.int .i64 x, .int .i64 y] 26) = wB at B0 B1 hgB ⊢
    have hwB : w.heap.size < wB.heap.size := World.block_lt_of_cell? wB _ B0
    go_wp2_with (first
      | (at_make; refine wpList_make_own _ rfl _ _ 95 rfl wB.heap.size 26 i0 _ 2 Tryd.underlying95 hi hz0 hz1 .i64 .i64 _ (0 + 1) rfl rfl (by omega) (by rw [hz2]; omega) (by unfold maxLen; omega) (Nat.le_refl _) ?_; intro w0 hown0 hgrow0; have hb0 := growNone hgrow0; have s0 := cell_later hb0 B0; have s1 := cell_later hb0 B1; have hsz0 := hb0.size; clear hgrow0)
      | (at_builtin; refine wpList_append_fits_any _ rfl (.tmp 12) (.tmp 15) 95 rfl wB.heap.size 26 i0 2 Tryd.underlying95 hi hz1 wB.heap.size 0 (0 + 1) [] rfl hown0 _ 0 _ [] rfl rfl (by intro h; exact ⟨rfl, rfl⟩) (by intro ad h; cases h) (by intro u h; cases h) (by omega) ?_; intro w1 hown1 hgrow1; simp only [Nat.zero_add, Nat.add_zero, List.append_nil] at hown1; have hb1 : Below wB.heap.size w0 w1 := grownB hgrow1 hsz0 (Nat.le_refl _); have q0 := (hb1.cell hwB).trans s0; have q1 := (hb1.cell hwB).trans s1; have hbw1 := hb0.trans hb1; have hsz1 := hbw1.size; have hblt : w.heap.size < w1.heap.size := by omega)
      | (at_builtin; refine wpList_append_fits_any _ rfl (.tmp 17) (.tmp 19) 95 rfl wB.heap.size 26 i0 2 Tryd.underlying95 hi hz1 wB.heap.size 0 (0 + 1) _ rfl (hown1.alloc _) _ 1 _ (cells [(x, y)]) rfl rfl (by intro h; cases h) (one_src w1 x y) (cells_ones _) (by omega) ?_; intro w2 hown2 hgrow2; have hb2 : Below wB.heap.size w1 w2 := ((Below.refl wB.heap.size w1).alloc hsz1 _).trans (grownB hgrow2 (by simp; omega) (Nat.le_refl _)); have hbw2 := hbw1.trans hb2; skip)
      | (at_builtin; refine wpList_append_fits_any _ rfl (.tmp 21) (.tmp 24) 95 rfl wB.heap.size 26 i0 2 Tryd.underlying95 hi hz1 wB.heap.size (0 + 1) (0 + 1) _ rfl hown2 _ 0 _ (cells []) rfl rfl (by intro h; exact ⟨rfl, rfl⟩) (by intro ad h; cases h) (cells_ones _) (by omega) ?_; intro w3 hown3 hgrow3; have hb3 : Below wB.heap.size w2 w3 := grownB hgrow3 hbw2.size (Nat.le_refl _); have hbw3 := hbw2.trans hb3))
    go_ret
    exact ⟨_, rfl, (own_of (l := [(x, y)]) (by simpa [cells] using hown3)).mono (Nat.le_of_lt hwB), grew hgB hbw3⟩
  · have hk1 : (0 : Int) ≤ (k : Int) := by omega
    have hk2 : (k : Int) ≤ (l.length : Int) := by omega
    have hk3 : (k : Int) ≤ (cap : Int) := by omega
    have hl1 : (l.length : Int) ≤ (cap : Int) := by omega
    go_enter Tryd.func106, Tryd.ntmps106
    go_upto_region 1 with fail
    generalize w.alloc (.cells #[.int .i64 x, .int .i64 y] 26) = wB at B0 B1 hgB ⊢
    have hwB : w.heap.size < wB.heap.size := World.block_lt_of_cell? wB _ B0
    go_wp2_with (first
      | (at_make; refine wpList_make_own _ rfl _ _ 95 rfl wB.heap.size 26 i0 _ 2 Tryd.underlying95 hi hz0 hz1 .i64 .i64 _ (l.length + 1) rfl rfl (by omega) (by rw [hz2]; omega) (by unfold maxLen; omega) (Nat.le_refl _) ?_; intro w0 hown0 hgrow0; have hb0 := growNone hgrow0; have HA0 := hid (HA.out.later (grew hgB hb0)); have s0 := cell_later hb0 B0; have s1 := cell_later hb0 B1; have hsz0 := hb0.size; clear hgrow0)
      | (at_builtin; refine wpList_append_fits_any _ rfl (.tmp 12) (.tmp 15) 95 rfl wB.heap.size 26 i0 2 Tryd.underlying95 hi hz1 wB.heap.size 0 (l.length + 1) [] rfl hown0 _ k _ (cells (l.take k)) rfl (by rw [cells_len, List.length_take, Nat.min_eq_left (by omega)]) (by intro h; first | cases h | (split at h <;> cases h)) (cells_pre HA0.out (by intro h; first | rfl | simp [h])) (cells_ones _) (by omega) ?_; intro w1 hown1 hgrow1; simp only [Nat.zero_add, List.nil_append] at hown1; have hb1 : Below wB.heap.size w0 w1 := grownB hgrow1 hsz0 (Nat.le_refl _); have HA1 := hid ((At.laterB HA0.out hb1 (Nat.le_of_lt hwB))); have q0 := (hb1.cell hwB).trans s0; have q1 := (hb1.cell hwB).trans s1; have hbw1 := hb0.trans hb1; have hsz1 := hbw1.size; have hblt : w.heap.size < w1.heap.size := by omega)
      | (at_builtin; refine wpList_append_fits_any _ rfl (.tmp 17) (.tmp 19) 95 rfl wB.heap.size 26 i0 2 Tryd.underlying95 hi hz1 wB.heap.size k (l.length + 1) _ rfl (hown1.alloc _) _ 1 _ (cells [(x, y)]) rfl rfl (by intro h; cases h) (one_src w1 x y) (cells_ones _) (by omega) ?_; intro w2 hown2 hgrow2; have hb2 : Below wB.heap.size w1 w2 := ((Below.refl wB.heap.size w1).alloc hsz1 _).trans (grownB hgrow2 (by simp; omega) (Nat.le_refl _)); have hbw2 := hbw1.trans hb2; have HA2 := hid (At.laterB HA1.out hb2 (Nat.le_of_lt hwB)))
      | (at_builtin; refine wpList_append_fits_any _ rfl (.tmp 21) (.tmp 24) 95 rfl wB.heap.size 26 i0 2 Tryd.underlying95 hi hz1 wB.heap.size (k + 1) (l.length + 1) _ rfl hown2 _ (l.length - k) _ (cells (l.drop k)) rfl (by rw [cells_len, List.length_drop]) (by intro h; first | cases h | (split at h <;> cases h)) (cells_src HA2.out (by intro h; first | rfl | (exfalso; omega) | (have hne : ¬ cap = k := (by omega); simp [hne]))) (cells_ones _) (by omega) ?_; intro w3 hown3 hgrow3; have hb3 : Below wB.heap.size w2 w3 := grownB hgrow3 hbw2.size (Nat.le_refl _); have hbw3 := hbw2.trans hb3))
    all_goals go_ret
    all_goals rw [put_cells] at hown3
    all_goals exact ⟨_, rfl, (own_of hown3).mono (Nat.le_of_lt hwB), grew hgB hbw3⟩
end Go.Proofs.YtipiamhnngmjmaaDoor
namespace Go.Proofs.YtipiamhnngmjmaaDoor
open Go.RowKit
set_option linter.unusedVariables false
set_option maxRecDepth 8000
theorem cells_all {N b off : Nat} {l : List (Int × Int)} {w : World} (hA : At N (some ⟨b, off, none⟩) l w) : ∀ ad, some (⟨b, off, none⟩ : Addr) = some ad → ∀ j u, (cells l)[j]? = some u → w.cell? (ad.add j) = some u := by
  have h := cells_src hA (i := 0) (ao := some ⟨b, off, none⟩) (fun _ => by simp)
  rwa [List.drop_zero] at h
theorem own_empty (w : World) : (w.alloc (.cells #[] 26)).ownsRow w.heap.size 26 2 (.slice (some ⟨w.heap.size, 0, none⟩) 0 0) 0 [] :=
  World.ownsRow_made w #[] 0 (Nat.le_refl _) (Nat.zero_le _) rfl
set_option maxHeartbeats 2000000 in
theorem l2Own_c (l : List (Int × Int)) (a : Option Addr) (len cap : Nat) (w : World) (hl : l.length = len) (h1 : len ≤ 1048576) (hF : Fit a len cap) (hA : At w.heap.size a l w) :
    Calls Tryd.prog 100 #[.slice a len cap] w fun e w' => ∃ v, e = .returned v ∧ Own w.heap.size v l w' ∧ Below w.heap.size w w' := by
  subst hl
  have HA := hid hA
  clear hA
  obtain ⟨i0, hi, hz0, hz1, hz2⟩ := info_parts info_pt
  rcases hF with ⟨rfl, rfl, hl0⟩ | ⟨⟨b, off, rfl⟩, hlc, hcm⟩
  · obtain rfl := List.eq_nil_of_length_eq_zero hl0
    simp only [List.length_nil]
    go_enter Tryd.func100, Tryd.ntmps100
    go_wp2_with (at_builtin; refine wpList_append_own_none rfl (.tmp 3) (.tmp 4) 33 rfl w.heap.size 26 i0 2 Tryd.underlying33 hi _ _ _ rfl (own_empty w) rfl ?_)
    go_ret
    exact ⟨_, rfl, own_of (l := []) (own_empty w), by go_grown⟩
  · go_enter Tryd.func100, Tryd.ntmps100
    go_wp2_with (at_builtin; refine wpList_append_own _ rfl (.tmp 3) (.tmp 4) 33 rfl w.heap.size 26 i0 _ 2 16 Tryd.underlying33 hi hz0 hz1 hz2 rfl (by decide) _ _ _ rfl (own_empty w) _ _ _ (cells l) rfl (cells_len l) (by intro j u hu; exact cells_all (HA.out.later (by go_grown)) _ rfl j u hu) (cells_ones _) (by unfold maxLen; omega) (by omega) (by simp) ?_; intro v' w1 hown1 hgrow1 _)
    go_ret
    refine ⟨_, rfl, own_of (by rw [List.nil_append] at hown1; exact hown1), ?_⟩
    exact (by go_grown : Below w.heap.size w _).grown hgrow1 (by simp) (fun k hk => by cases hk; exact Nat.le_refl _)
end Go.Proofs.YtipiamhnngmjmaaDoor
namespace Go.Proofs.YtipiamhnngmjmaaDoor
open Go.RowKit
set_option linter.unusedVariables false
set_option maxRecDepth 8000
theorem At.take {N : Nat} {a : Option Addr} {l : List (Int × Int)} {w : World} (h : At N a l w) (k : Nat) : At N a (l.take k) w := fun i hi => by
  rw [List.length_take] at hi
  obtain ⟨b, off, e, hb, h0, h1⟩ := h i (by omega)
  have e0 : px (l.take k) i = px l i := by simp [px, show i < k by omega]
  have e1 : py (l.take k) i = py l i := by simp [py, show i < k by omega]
  exact ⟨b, off, e, hb, by rw [e0]; exact h0, by rw [e1]; exact h1⟩
theorem at_nil (N : Nat) (a : Option Addr) (w : World) : At N a [] w := fun i hi => absurd hi (Nat.not_lt_zero _)
theorem cut_own {N k : Nat} {v : Value} {l : List (Int × Int)} {w : World} (h : Own N v (l.take k) w) (hk : (l.take k).length = k) : w.ownsRow N 26 2 v k (cells (l.take k)) := by
  have := row_of h
  rwa [hk] at this
theorem keepG {w3 W W' : World} {n : Nat} {i j : Nat} {v0 v1 : Value} {row : Option Nat} (hg : W.grownBy W' row) (hr : ∀ q, row = some q → w3.heap.size ≤ q) (hn : n < w3.heap.size) (h : W.cell? ⟨n, i, none⟩ = some v0 ∧ W.cell? ⟨n, j, none⟩ = some v1 ∧ Below w3.heap.size w3 W) :
    W'.cell? ⟨n, i, none⟩ = some v0 ∧ W'.cell? ⟨n, j, none⟩ = some v1 ∧ Below w3.heap.size w3 W' := by
  have hb : Below w3.heap.size W W' := (Below.refl _ _).grown hg h.2.2.size hr
  exact ⟨(hb.cell hn).trans h.1, (hb.cell hn).trans h.2.1, h.2.2.trans hb⟩
theorem plc_le (l : List (Int × Int)) (x y : Int) : plc l x y ≤ l.length := by
  unfold plc
  exact (List.takeWhile_prefix _).length_le
def putR (l : List (Int × Int)) (x y : Int) : List (Int × Int) := l.take (plc l x y) ++ (x, y) :: l.drop (plc l x y)
set_option maxHeartbeats 2000000 in
theorem l2Put_new (l : List (Int × Int)) (x y : Int) (a : Option Addr) (len cap : Nat) (w : World) (hl : l.length = len) (h1 : len ≤ 1048576) (hF : Fit a len cap) (hA : At w.heap.size a l w) (hN : hasB l x y = false) :
    Calls Tryd.prog 103 #[.slice a len cap, .agg #[.int .i64 x, .int .i64 y]] w fun e w' => ∃ v, e = .returned v ∧ Own w.heap.size v (putR l x y) w' ∧ Below w.heap.size w w' := by
  subst hl
  have HA := hid hA
  clear hA
  obtain ⟨i0, hi, hz0, hz1, hz2⟩ := info_parts info_pt
  have hC := l2Place_c l x y a l.length cap (w.alloc (.cells #[.int .i64 x, .int .i64 y] 26)) rfl h1 ((HA.out.later (by go_grown)).mono (by simp))
  obtain ⟨k, hk⟩ : ∃ k, plc l x y = k := ⟨_, rfl⟩
  have hkl : k ≤ l.length := by rw [← hk]; exact plc_le l x y
  rw [hk] at hC
  rw [putR, hk]
  rw [hasB, hk] at hN
  rcases hF with ⟨rfl, rfl, hl0⟩ | ⟨⟨b, off, rfl⟩, hlc, hcm⟩
  · obtain rfl := List.eq_nil_of_length_eq_zero hl0
    obtain rfl : k = 0 := by simpa using hkl
    have hd : decide (0 < 0) = false := rfl
    clear hN hk hkl
    simp only [List.length_nil] at hC h1 ⊢
    go_enter Tryd.func103, Tryd.ntmps103
    go_wp2_with (go_at_call 116; refine hC.mono ?_; rintro e w2 ⟨rfl, hb⟩; have hb2 : Below w.heap.size w w2 := grew (by go_grown) hb; have c0 := cell_later hb (box0 w x y 26); have c1 := cell_later hb (box1 w x y 26))
    go_quiet (fail)
    rename_i nq
    go_wp2
    have hbq := drewN_below nq w2
    have d0 := cell_later hbq c0
    have d1 := cell_later hbq c1
    have hb3 : Below w.heap.size w (w2.drewN nq) := grew hb2 hbq
    generalize w2.drewN nq = w3 at d0 d1 hb3 ⊢
    clear hbq
    have hsz3 := hb3.size
    have hlt3 : w.heap.size < w3.heap.size := World.block_lt_of_cell? w3 _ d0
    refine wp_region_noPanic ?_
    refine wp_region_held_drew (S := (fun u => u.cell? ⟨w.heap.size, 0, none⟩ = some (.int .i64 x) ∧ u.cell? ⟨w.heap.size, 1, none⟩ = some (.int .i64 y) ∧ Below w3.heap.size w3 u)) (by kernel_rfl) ?_ (fun hHeld => ?_)
    · exact ⟨cell_later (Below.refl _ _).drew d0, cell_later (Below.refl _ _).drew d1, (Below.refl _ _).drew⟩
    refine wpAnyH_take (i := 0) (oi := { dst := some 23, op := Op.move (Operand.tmp 0), type := 33, pos := "l2_set.go:37", after := #[], guard := none }) (v := ?v104x0) rfl (by kernel_rfl) (by kernel_rfl) (by kernel_rfl) (fun _ _ _ h => h) (Or.inl ⟨by rfl, ?hy104x0⟩) (by with_reducible assumption) ?rest104x0
    case hy104x0 => (intro w hSw; (try dsimp only at hSw); go_simp; try with_reducible rfl)
    case' rest104x0 => (try simp only [Act.put, List.setIfInBounds_toArray, List.set_cons_zero, List.set_cons_succ])
    refine wpAnyH_take (i := 1) (oi := { dst := some 24, op := Op.move (Operand.tmp 5), type := 3, pos := "l2_set.go:37", after := #[], guard := none }) (v := ?v104x1) rfl (by kernel_rfl) (by kernel_rfl) (by kernel_rfl) (fun _ _ _ h => h) (Or.inl ⟨by rfl, ?hy104x1⟩) (by with_reducible assumption) ?rest104x1
    case hy104x1 => (intro w hSw; (try dsimp only at hSw); go_simp; try with_reducible rfl)
    case' rest104x1 => (try simp only [Act.put, List.setIfInBounds_toArray, List.set_cons_zero, List.set_cons_succ])
    refine wpAnyH_take (i := 2) (oi := { dst := some 25, op := Op.slice 33 (Operand.tmp 23) none (some (Operand.tmp 24)) none, type := 33, pos := "l2_set.go:37", after := #[{ on := 0, ground := Ground.data }, { on := 1, ground := Ground.data }], guard := none }) (v := ?v104x2) rfl (by kernel_rfl) (by kernel_rfl) (by kernel_rfl) (fun _ _ _ h => h) (Or.inl ⟨by rfl, ?hy104x2⟩) (by with_reducible assumption) ?rest104x2
    case hy104x2 => (intro w hSw; (try dsimp only at hSw); go_simp; try with_reducible rfl)
    case' rest104x2 => (try simp only [Act.put, List.setIfInBounds_toArray, List.set_cons_zero, List.set_cons_succ])
    refine wpAnyH_take (i := 4) (oi := { dst := some 27, op := Op.load 26 (Operand.tmp 3), type := 26, pos := "l2_set.go:37", after := #[], guard := none }) (v := ?v104x4) rfl (by kernel_rfl) (by kernel_rfl) (by kernel_rfl) (fun _ _ _ h => h) (Or.inl ⟨by rfl, ?hy104x4⟩) (by with_reducible assumption) ?rest104x4
    case hy104x4 => (intro w hSw; (try dsimp only at hSw); go_simp; try with_reducible rfl)
    case' rest104x4 => (try simp only [Act.put, List.setIfInBounds_toArray, List.set_cons_zero, List.set_cons_succ])
    refine wpAnyH_ready (rs := [3, 5]) (by kernel_rfl) (by simp) ?_
    refine AllReadyH.cons (o := { dst := some 26, op := Op.call { callee := Callee.value (Operand.func 100), args := #[Operand.tmp 25], argTypes := #[33] }, type := 33, pos := "l2_set.go:37", after := #[{ on := 2, ground := Ground.data }], guard := none }) rfl (fun K hK => ?_) (AllReadyH.cons (o := { dst := some 28, op := Op.buildSlice 33 1 #[(0, Operand.tmp 27)], type := 33, pos := "l2_set.go:37", after := #[{ on := 4, ground := Ground.data }], guard := none }) rfl (fun K hK => ?_) AllReadyH.nil)
    · go_simp
      refine (l2Own_c [] _ _ _ _ rfl (by omega) (.inl ⟨rfl, rfl, rfl⟩) (at_nil _ _ _)).mono ?_
      rintro e w4 ⟨v4, rfl, ho4, hb4⟩
      replace ho4 := ho4.mono (fin2 (by with_reducible assumption) : Below w3.heap.size w3 _).size
      go_wp2_with fail
      refine hK.out _ _ ?_ (fun hHeld => ?_)
      · exact keep2 hb4 (by with_reducible assumption)
      clear hK K
      try simp only [Act.put, List.setIfInBounds_toArray, List.set_cons_zero, List.set_cons_succ]
      refine wpAnyH_ready (rs := [5]) (by kernel_rfl) (by simp) ?_
      refine AllReadyH.cons (o := { dst := some 28, op := Op.buildSlice 33 1 #[(0, Operand.tmp 27)], type := 33, pos := "l2_set.go:37", after := #[{ on := 4, ground := Ground.data }], guard := none }) rfl (fun K hK => ?_) AllReadyH.nil
      go_simp
      refine hK.out _ _ ?_ (fun hHeld => ?_)
      · (refine keep2 ?_ (by with_reducible assumption); go_grown)
      clear hK K
      try simp only [Act.put, List.setIfInBounds_toArray, List.set_cons_zero, List.set_cons_succ]
      refine wpAnyH_ready (rs := [6]) (by kernel_rfl) (by simp) ?_
      refine AllReadyH.cons (o := { dst := some 29, op := Op.call { callee := Callee.builtin Builtin.append, args := #[Operand.tmp 26, Operand.tmp 28], argTypes := #[33, 33] }, type := 33, pos := "l2_set.go:37", after := #[{ on := 3, ground := Ground.data }, { on := 5, ground := Ground.data }, { on := 3, ground := Ground.chain }], guard := none }) rfl (fun K hK => ?_) AllReadyH.nil
      refine step_append_lies _ rfl (.tmp 26) (.tmp 28) 33 rfl w3.heap.size 26 i0 _ 2 16 Tryd.underlying33 hi hz0 hz1 hz2 rfl (by decide) _ _ _ rfl ((row_of ho4).alloc _) ⟨w4.heap.size, 0, none⟩ 1 1 (cells [(x, y)]) rfl rfl (one_src w4 x y _ rfl) (cells_ones _) (by decide) (by unfold maxLen; omega) (by omega) (fin2 (by with_reducible assumption)).size _ rfl ?_
      intro g5 cp5 w5 hown5 hgrow5 _ _
      have hS5 := keepG hgrow5 (fun q hq => ((row_of ho4).lt q hq).1) hlt3 (by with_reducible assumption)
      have HO5 := hid hown5
      clear hgrow5 hown5
      refine hK.out _ _ ?_ (fun hHeld => ?_)
      · with_reducible exact hS5
      clear hK K
      try simp only [Act.put, List.setIfInBounds_toArray, List.set_cons_zero, List.set_cons_succ]
      refine wpAnyH_take (i := 7) (oi := { dst := some 6, op := Op.assign (Operand.tmp 29), type := 33, pos := "l2_set.go:37", after := #[{ on := 6, ground := Ground.data }, { on := 6, ground := Ground.chain }, { on := 0, ground := Ground.phase }, { on := 1, ground := Ground.phase }, { on := 2, ground := Ground.phase }, { on := 3, ground := Ground.phase }, { on := 4, ground := Ground.phase }, { on := 5, ground := Ground.phase }, { on := 6, ground := Ground.phase }], guard := none }) (v := ?v104ax7) rfl (by kernel_rfl) (by kernel_rfl) (by kernel_rfl) (fun _ _ _ h => h) (Or.inl ⟨by rfl, ?hy104ax7⟩) (by with_reducible assumption) ?rest104ax7
      case hy104ax7 => (intro w hSw; (try dsimp only at hSw); go_simp; try with_reducible rfl)
      case' rest104ax7 => (try simp only [Act.put, List.setIfInBounds_toArray, List.set_cons_zero, List.set_cons_succ])
      refine wpAnyH_done (by kernel_rfl) ?_ _
      refine NoPanic.normal ?_
      have hb35 : Below w3.heap.size w3 w5 := hS5.2.2
      go_wp2_with (at_builtin; refine wpList_append_own_none rfl (.tmp 30) (.tmp 33) 33 rfl w3.heap.size 26 i0 2 Tryd.underlying33 hi _ _ _ rfl HO5.out rfl ?_)
      go_ret
      exact ⟨_, rfl, (own_of (l := [(x, y)]) HO5.out).mono hsz3, grew hb3 hb35⟩
    · go_simp
      refine hK.out _ _ ?_ (fun hHeld => ?_)
      · exact ⟨cell_later (w := w3) (by go_grown) d0, cell_later (w := w3) (by go_grown) d1, (by go_grown : Below w3.heap.size w3 _)⟩
      clear hK K
      try simp only [Act.put, List.setIfInBounds_toArray, List.set_cons_zero, List.set_cons_succ]
      refine wpAnyH_ready (rs := [3]) (by kernel_rfl) (by simp) ?_
      refine AllReadyH.cons (o := { dst := some 26, op := Op.call { callee := Callee.value (Operand.func 100), args := #[Operand.tmp 25], argTypes := #[33] }, type := 33, pos := "l2_set.go:37", after := #[{ on := 2, ground := Ground.data }], guard := none }) rfl (fun K hK => ?_) AllReadyH.nil
      go_simp
      refine (l2Own_c [] _ _ _ _ rfl (by omega) (.inl ⟨rfl, rfl, rfl⟩) (at_nil _ _ _)).mono ?_
      rintro e w4 ⟨v4, rfl, ho4, hb4⟩
      replace ho4 := ho4.mono (fin2 (by with_reducible assumption) : Below w3.heap.size w3 _).size
      go_wp2_with fail
      refine hK.out _ _ ?_ (fun hHeld => ?_)
      · exact keep2 hb4 (by with_reducible assumption)
      clear hK K
      try simp only [Act.put, List.setIfInBounds_toArray, List.set_cons_zero, List.set_cons_succ]
      refine wpAnyH_ready (rs := [6]) (by kernel_rfl) (by simp) ?_
      refine AllReadyH.cons (o := { dst := some 29, op := Op.call { callee := Callee.builtin Builtin.append, args := #[Operand.tmp 26, Operand.tmp 28], argTypes := #[33, 33] }, type := 33, pos := "l2_set.go:37", after := #[{ on := 3, ground := Ground.data }, { on := 5, ground := Ground.data }, { on := 3, ground := Ground.chain }], guard := none }) rfl (fun K hK => ?_) AllReadyH.nil
      refine step_append_lies _ rfl (.tmp 26) (.tmp 28) 33 rfl w3.heap.size 26 i0 _ 2 16 Tryd.underlying33 hi hz0 hz1 hz2 rfl (by decide) _ _ _ rfl (row_of ho4) ⟨w3.heap.size, 0, none⟩ 1 1 (cells [(x, y)]) rfl rfl (fun j u hu => cell_later hb4 (one_src w3 x y _ rfl j u hu)) (cells_ones _) (by decide) (by unfold maxLen; omega) (by omega) (fin2 (by with_reducible assumption)).size _ rfl ?_
      intro g5 cp5 w5 hown5 hgrow5 _ _
      have hS5 := keepG hgrow5 (fun q hq => ((row_of ho4).lt q hq).1) hlt3 (by with_reducible assumption)
      have HO5 := hid hown5
      clear hgrow5 hown5
      refine hK.out _ _ ?_ (fun hHeld => ?_)
      · with_reducible exact hS5
      clear hK K
      try simp only [Act.put, List.setIfInBounds_toArray, List.set_cons_zero, List.set_cons_succ]
      refine wpAnyH_take (i := 7) (oi := { dst := some 6, op := Op.assign (Operand.tmp 29), type := 33, pos := "l2_set.go:37", after := #[{ on := 6, ground := Ground.data }, { on := 6, ground := Ground.chain }, { on := 0, ground := Ground.phase }, { on := 1, ground := Ground.phase }, { on := 2, ground := Ground.phase }, { on := 3, ground := Ground.phase }, { on := 4, ground := Ground.phase }, { on := 5, ground := Ground.phase }, { on := 6, ground := Ground.phase }], guard := none }) (v := ?v104bx7) rfl (by kernel_rfl) (by kernel_rfl) (by kernel_rfl) (fun _ _ _ h => h) (Or.inl ⟨by rfl, ?hy104bx7⟩) (by with_reducible assumption) ?rest104bx7
      case hy104bx7 => (intro w hSw; (try dsimp only at hSw); go_simp; try with_reducible rfl)
      case' rest104bx7 => (try simp only [Act.put, List.setIfInBounds_toArray, List.set_cons_zero, List.set_cons_succ])
      refine wpAnyH_done (by kernel_rfl) ?_ _
      refine NoPanic.normal ?_
      have hb35 : Below w3.heap.size w3 w5 := hS5.2.2
      go_wp2_with (at_builtin; refine wpList_append_own_none rfl (.tmp 30) (.tmp 33) 33 rfl w3.heap.size 26 i0 2 Tryd.underlying33 hi _ _ _ rfl HO5.out rfl ?_)
      go_ret
      exact ⟨_, rfl, (own_of (l := [(x, y)]) HO5.out).mono hsz3, grew hb3 hb35⟩
  · have hk1 : (0 : Int) ≤ (k : Int) := by omega
    have hk2 : (k : Int) ≤ (l.length : Int) := by omega
    have hk3 : (k : Int) ≤ (cap : Int) := by omega
    have hl1 : (l.length : Int) ≤ (cap : Int) := by omega
    by_cases hlt : k < l.length
    · obtain ⟨b', off', hbo, hbN, g0, g1⟩ := HA.out k hlt
      obtain ⟨rfl, rfl⟩ : b = b' ∧ off = off' := by simp at hbo; exact hbo
      have hi2 : (k : Int) < (l.length : Int) := by omega
      rw [decide_eq_true hlt, Bool.true_and] at hN
      by_cases e1 : px l k = x
      · by_cases e2 : py l k = y
        · rw [eqB, decide_eq_true ⟨e1, e2⟩] at hN; cases hN
        · have e3 : (py l k == y) = false := by simpa using e2
          rw [e1] at g0
          clear e1 e2 hN
          go_enter Tryd.func103, Tryd.ntmps103
          go_wp2_with (go_at_call 116; refine hC.mono ?_; rintro e w2 ⟨rfl, hb⟩; have hb2 : Below w.heap.size w w2 := grew (by go_grown) hb; have c0 := cell_later hb (box0 w x y 26); have c1 := cell_later hb (box1 w x y 26); have c2 := cell_later hb2 g0; have c3 := cell_later hb2 g1)
          go_quiet (fail)
          rename_i nq
          go_wp2
          have hbq := drewN_below nq w2
          have d0 := cell_later hbq c0
          have d1 := cell_later hbq c1
          have hb3 : Below w.heap.size w (w2.drewN nq) := grew hb2 hbq
          generalize w2.drewN nq = w3 at d0 d1 hb3 ⊢
          clear hbq
          have hsz3 := hb3.size
          have hlt3 : w.heap.size < w3.heap.size := World.block_lt_of_cell? w3 _ d0
          refine wp_region_noPanic ?_
          refine wp_region_held_drew (S := (fun u => u.cell? ⟨w.heap.size, 0, none⟩ = some (.int .i64 x) ∧ u.cell? ⟨w.heap.size, 1, none⟩ = some (.int .i64 y) ∧ Below w3.heap.size w3 u)) (by kernel_rfl) ?_ (fun hHeld => ?_)
          · exact ⟨cell_later (Below.refl _ _).drew d0, cell_later (Below.refl _ _).drew d1, (Below.refl _ _).drew⟩
          refine wpAnyH_take (i := 0) (oi := { dst := some 23, op := Op.move (Operand.tmp 0), type := 33, pos := "l2_set.go:37", after := #[], guard := none }) (v := ?v103x0) rfl (by kernel_rfl) (by kernel_rfl) (by kernel_rfl) (fun _ _ _ h => h) (Or.inl ⟨by rfl, ?hy103x0⟩) (by with_reducible assumption) ?rest103x0
          case hy103x0 => (intro w hSw; (try dsimp only at hSw); go_simp; try with_reducible rfl)
          case' rest103x0 => (try simp only [Act.put, List.setIfInBounds_toArray, List.set_cons_zero, List.set_cons_succ])
          refine wpAnyH_take (i := 1) (oi := { dst := some 24, op := Op.move (Operand.tmp 5), type := 3, pos := "l2_set.go:37", after := #[], guard := none }) (v := ?v103x1) rfl (by kernel_rfl) (by kernel_rfl) (by kernel_rfl) (fun _ _ _ h => h) (Or.inl ⟨by rfl, ?hy103x1⟩) (by with_reducible assumption) ?rest103x1
          case hy103x1 => (intro w hSw; (try dsimp only at hSw); go_simp; try with_reducible rfl)
          case' rest103x1 => (try simp only [Act.put, List.setIfInBounds_toArray, List.set_cons_zero, List.set_cons_succ])
          refine wpAnyH_take (i := 2) (oi := { dst := some 25, op := Op.slice 33 (Operand.tmp 23) none (some (Operand.tmp 24)) none, type := 33, pos := "l2_set.go:37", after := #[{ on := 0, ground := Ground.data }, { on := 1, ground := Ground.data }], guard := none }) (v := ?v103x2) rfl (by kernel_rfl) (by kernel_rfl) (by kernel_rfl) (fun _ _ _ h => h) (Or.inl ⟨by rfl, ?hy103x2⟩) (by with_reducible assumption) ?rest103x2
          case hy103x2 => (intro w hSw; (try dsimp only at hSw); go_simp; try with_reducible rfl)
          case' rest103x2 => (try simp only [Act.put, List.setIfInBounds_toArray, List.set_cons_zero, List.set_cons_succ])
          refine wpAnyH_take (i := 4) (oi := { dst := some 27, op := Op.load 26 (Operand.tmp 3), type := 26, pos := "l2_set.go:37", after := #[], guard := none }) (v := ?v103x4) rfl (by kernel_rfl) (by kernel_rfl) (by kernel_rfl) (fun _ _ _ h => h) (Or.inl ⟨by rfl, ?hy103x4⟩) (by with_reducible assumption) ?rest103x4
          case hy103x4 => (intro w hSw; (try dsimp only at hSw); go_simp; try with_reducible rfl)
          case' rest103x4 => (try simp only [Act.put, List.setIfInBounds_toArray, List.set_cons_zero, List.set_cons_succ])
          refine wpAnyH_ready (rs := [3, 5]) (by kernel_rfl) (by simp) ?_
          refine AllReadyH.cons (o := { dst := some 26, op := Op.call { callee := Callee.value (Operand.func 100), args := #[Operand.tmp 25], argTypes := #[33] }, type := 33, pos := "l2_set.go:37", after := #[{ on := 2, ground := Ground.data }], guard := none }) rfl (fun K hK => ?_) (AllReadyH.cons (o := { dst := some 28, op := Op.buildSlice 33 1 #[(0, Operand.tmp 27)], type := 33, pos := "l2_set.go:37", after := #[{ on := 4, ground := Ground.data }], guard := none }) rfl (fun K hK => ?_) AllReadyH.nil)
          · go_simp
            refine (l2Own_c (l.take k) _ _ _ _ (by rw [List.length_take]; omega) (by omega) (.inr ⟨⟨b, off, rfl⟩, by omega, hcm⟩) (((HA.out.take k).later (grew hb3 (fin2 (by with_reducible assumption)))).mono (grew hb3 (fin2 (by with_reducible assumption))).size)).mono ?_
            rintro e w4 ⟨v4, rfl, ho4, hb4⟩
            replace ho4 := ho4.mono (fin2 (by with_reducible assumption) : Below w3.heap.size w3 _).size
            go_wp2_with fail
            refine hK.out _ _ ?_ (fun hHeld => ?_)
            · exact keep2 hb4 (by with_reducible assumption)
            clear hK K
            try simp only [Act.put, List.setIfInBounds_toArray, List.set_cons_zero, List.set_cons_succ]
            refine wpAnyH_ready (rs := [5]) (by kernel_rfl) (by simp) ?_
            refine AllReadyH.cons (o := { dst := some 28, op := Op.buildSlice 33 1 #[(0, Operand.tmp 27)], type := 33, pos := "l2_set.go:37", after := #[{ on := 4, ground := Ground.data }], guard := none }) rfl (fun K hK => ?_) AllReadyH.nil
            go_simp
            refine hK.out _ _ ?_ (fun hHeld => ?_)
            · (refine keep2 ?_ (by with_reducible assumption); go_grown)
            clear hK K
            try simp only [Act.put, List.setIfInBounds_toArray, List.set_cons_zero, List.set_cons_succ]
            refine wpAnyH_ready (rs := [6]) (by kernel_rfl) (by simp) ?_
            refine AllReadyH.cons (o := { dst := some 29, op := Op.call { callee := Callee.builtin Builtin.append, args := #[Operand.tmp 26, Operand.tmp 28], argTypes := #[33, 33] }, type := 33, pos := "l2_set.go:37", after := #[{ on := 3, ground := Ground.data }, { on := 5, ground := Ground.data }, { on := 3, ground := Ground.chain }], guard := none }) rfl (fun K hK => ?_) AllReadyH.nil
            refine step_append_lies _ rfl (.tmp 26) (.tmp 28) 33 rfl w3.heap.size 26 i0 _ 2 16 Tryd.underlying33 hi hz0 hz1 hz2 rfl (by decide) _ _ _ rfl ((cut_own ho4 (by rw [List.length_take]; omega)).alloc _) ⟨w4.heap.size, 0, none⟩ 1 1 (cells [(x, y)]) rfl rfl (one_src w4 x y _ rfl) (cells_ones _) (by decide) (by unfold maxLen; omega) (by omega) (fin2 (by with_reducible assumption)).size _ rfl ?_
            intro g5 cp5 w5 hown5 hgrow5 _ _
            have hS5 := keepG hgrow5 (fun q hq => ((cut_own ho4 (by rw [List.length_take]; omega)).lt q hq).1) hlt3 (by with_reducible assumption)
            have HO5 := hid hown5
            clear hgrow5 hown5
            refine hK.out _ _ ?_ (fun hHeld => ?_)
            · with_reducible exact hS5
            clear hK K
            try simp only [Act.put, List.setIfInBounds_toArray, List.set_cons_zero, List.set_cons_succ]
            refine wpAnyH_take (i := 7) (oi := { dst := some 6, op := Op.assign (Operand.tmp 29), type := 33, pos := "l2_set.go:37", after := #[{ on := 6, ground := Ground.data }, { on := 6, ground := Ground.chain }, { on := 0, ground := Ground.phase }, { on := 1, ground := Ground.phase }, { on := 2, ground := Ground.phase }, { on := 3, ground := Ground.phase }, { on := 4, ground := Ground.phase }, { on := 5, ground := Ground.phase }, { on := 6, ground := Ground.phase }], guard := none }) (v := ?v103ax7) rfl (by kernel_rfl) (by kernel_rfl) (by kernel_rfl) (fun _ _ _ h => h) (Or.inl ⟨by rfl, ?hy103ax7⟩) (by with_reducible assumption) ?rest103ax7
            case hy103ax7 => (intro w hSw; (try dsimp only at hSw); go_simp; try with_reducible rfl)
            case' rest103ax7 => (try simp only [Act.put, List.setIfInBounds_toArray, List.set_cons_zero, List.set_cons_succ])
            refine wpAnyH_done (by kernel_rfl) ?_ _
            refine NoPanic.normal ?_
            have hb35 : Below w3.heap.size w3 w5 := hS5.2.2
            have HA5 := hid (HA.out.later (grew hb3 hb35))
            go_wp2_with (at_builtin; refine wpList_append_own _ rfl (.tmp 30) (.tmp 33) 33 rfl w3.heap.size 26 i0 _ 2 16 Tryd.underlying33 hi hz0 hz1 hz2 rfl (by decide) _ _ _ rfl HO5.out _ _ _ (cells (l.drop k)) rfl (by rw [cells_len, List.length_drop] ; try omega) ((cells_src HA5.out (by intro h; first | rfl | (exfalso; omega) | (have hne : ¬ cap = k := (by omega); simp [hne]))) _ rfl) (cells_ones _) (by unfold maxLen; omega) (by omega) hb35.size ?_; intro v6 w6 hown6 hgrow6 _)
            all_goals go_ret
            all_goals rw [put_cells] at hown6
            all_goals exact ⟨_, rfl, (own_of hown6).mono hsz3, grew hb3 (hb35.grown hgrow6 hb35.size (fun q hq => (HO5.out.lt q hq).1))⟩
          · go_simp
            refine hK.out _ _ ?_ (fun hHeld => ?_)
            · exact ⟨cell_later (w := w3) (by go_grown) d0, cell_later (w := w3) (by go_grown) d1, (by go_grown : Below w3.heap.size w3 _)⟩
            clear hK K
            try simp only [Act.put, List.setIfInBounds_toArray, List.set_cons_zero, List.set_cons_succ]
            refine wpAnyH_ready (rs := [3]) (by kernel_rfl) (by simp) ?_
            refine AllReadyH.cons (o := { dst := some 26, op := Op.call { callee := Callee.value (Operand.func 100), args := #[Operand.tmp 25], argTypes := #[33] }, type := 33, pos := "l2_set.go:37", after := #[{ on := 2, ground := Ground.data }], guard := none }) rfl (fun K hK => ?_) AllReadyH.nil
            go_simp
            refine (l2Own_c (l.take k) _ _ _ _ (by rw [List.length_take]; omega) (by omega) (.inr ⟨⟨b, off, rfl⟩, by omega, hcm⟩) (((HA.out.take k).later (grew hb3 (fin2 (by with_reducible assumption)))).mono (grew hb3 (fin2 (by with_reducible assumption))).size)).mono ?_
            rintro e w4 ⟨v4, rfl, ho4, hb4⟩
            replace ho4 := ho4.mono (fin2 (by with_reducible assumption) : Below w3.heap.size w3 _).size
            go_wp2_with fail
            refine hK.out _ _ ?_ (fun hHeld => ?_)
            · exact keep2 hb4 (by with_reducible assumption)
            clear hK K
            try simp only [Act.put, List.setIfInBounds_toArray, List.set_cons_zero, List.set_cons_succ]
            refine wpAnyH_ready (rs := [6]) (by kernel_rfl) (by simp) ?_
            refine AllReadyH.cons (o := { dst := some 29, op := Op.call { callee := Callee.builtin Builtin.append, args := #[Operand.tmp 26, Operand.tmp 28], argTypes := #[33, 33] }, type := 33, pos := "l2_set.go:37", after := #[{ on := 3, ground := Ground.data }, { on := 5, ground := Ground.data }, { on := 3, ground := Ground.chain }], guard := none }) rfl (fun K hK => ?_) AllReadyH.nil
            refine step_append_lies _ rfl (.tmp 26) (.tmp 28) 33 rfl w3.heap.size 26 i0 _ 2 16 Tryd.underlying33 hi hz0 hz1 hz2 rfl (by decide) _ _ _ rfl (cut_own ho4 (by rw [List.length_take]; omega)) ⟨w3.heap.size, 0, none⟩ 1 1 (cells [(x, y)]) rfl rfl (fun j u hu => cell_later hb4 (one_src w3 x y _ rfl j u hu)) (cells_ones _) (by decide) (by unfold maxLen; omega) (by omega) (fin2 (by with_reducible assumption)).size _ rfl ?_
            intro g5 cp5 w5 hown5 hgrow5 _ _
            have hS5 := keepG hgrow5 (fun q hq => ((cut_own ho4 (by rw [List.length_take]; omega)).lt q hq).1) hlt3 (by with_reducible assumption)
            have HO5 := hid hown5
            clear hgrow5 hown5
            refine hK.out _ _ ?_ (fun hHeld => ?_)
            · with_reducible exact hS5
            clear hK K
            try simp only [Act.put, List.setIfInBounds_toArray, List.set_cons_zero, List.set_cons_succ]
            refine wpAnyH_take (i := 7) (oi := { dst := some 6, op := Op.assign (Operand.tmp 29), type := 33, pos := "l2_set.go:37", after := #[{ on := 6, ground := Ground.data }, { on := 6, ground := Ground.chain }, { on := 0, ground := Ground.phase }, { on := 1, ground := Ground.phase }, { on := 2, ground := Ground.phase }, { on := 3, ground := Ground.phase }, { on := 4, ground := Ground.phase }, { on := 5, ground := Ground.phase }, { on := 6, ground := Ground.phase }], guard := none }) (v := ?v103bx7) rfl (by kernel_rfl) (by kernel_rfl) (by kernel_rfl) (fun _ _ _ h => h) (Or.inl ⟨by rfl, ?hy103bx7⟩) (by with_reducible assumption) ?rest103bx7
            case hy103bx7 => (intro w hSw; (try dsimp only at hSw); go_simp; try with_reducible rfl)
            case' rest103bx7 => (try simp only [Act.put, List.setIfInBounds_toArray, List.set_cons_zero, List.set_cons_succ])
            refine wpAnyH_done (by kernel_rfl) ?_ _
            refine NoPanic.normal ?_
            have hb35 : Below w3.heap.size w3 w5 := hS5.2.2
            have HA5 := hid (HA.out.later (grew hb3 hb35))
            go_wp2_with (at_builtin; refine wpList_append_own _ rfl (.tmp 30) (.tmp 33) 33 rfl w3.heap.size 26 i0 _ 2 16 Tryd.underlying33 hi hz0 hz1 hz2 rfl (by decide) _ _ _ rfl HO5.out _ _ _ (cells (l.drop k)) rfl (by rw [cells_len, List.length_drop] ; try omega) ((cells_src HA5.out (by intro h; first | rfl | (exfalso; omega) | (have hne : ¬ cap = k := (by omega); simp [hne]))) _ rfl) (cells_ones _) (by unfold maxLen; omega) (by omega) hb35.size ?_; intro v6 w6 hown6 hgrow6 _)
            all_goals go_ret
            all_goals rw [put_cells] at hown6
            all_goals exact ⟨_, rfl, (own_of hown6).mono hsz3, grew hb3 (hb35.grown hgrow6 hb35.size (fun q hq => (HO5.out.lt q hq).1))⟩
      · have e3 : (px l k == x) = false := by simpa using e1
        clear e1 hN
        go_enter Tryd.func103, Tryd.ntmps103
        go_wp2_with (go_at_call 116; refine hC.mono ?_; rintro e w2 ⟨rfl, hb⟩; have hb2 : Below w.heap.size w w2 := grew (by go_grown) hb; have c0 := cell_later hb (box0 w x y 26); have c1 := cell_later hb (box1 w x y 26); have c2 := cell_later hb2 g0; have c3 := cell_later hb2 g1)
        go_quiet (fail)
        rename_i nq
        go_wp2
        have hbq := drewN_below nq w2
        have d0 := cell_later hbq c0
        have d1 := cell_later hbq c1
        have hb3 : Below w.heap.size w (w2.drewN nq) := grew hb2 hbq
        generalize w2.drewN nq = w3 at d0 d1 hb3 ⊢
        clear hbq
        have hsz3 := hb3.size
        have hlt3 : w.heap.size < w3.heap.size := World.block_lt_of_cell? w3 _ d0
        refine wp_region_noPanic ?_
        refine wp_region_held_drew (S := (fun u => u.cell? ⟨w.heap.size, 0, none⟩ = some (.int .i64 x) ∧ u.cell? ⟨w.heap.size, 1, none⟩ = some (.int .i64 y) ∧ Below w3.heap.size w3 u)) (by kernel_rfl) ?_ (fun hHeld => ?_)
        · exact ⟨cell_later (Below.refl _ _).drew d0, cell_later (Below.refl _ _).drew d1, (Below.refl _ _).drew⟩
        refine wpAnyH_take (i := 0) (oi := { dst := some 23, op := Op.move (Operand.tmp 0), type := 33, pos := "l2_set.go:37", after := #[], guard := none }) (v := ?v102x0) rfl (by kernel_rfl) (by kernel_rfl) (by kernel_rfl) (fun _ _ _ h => h) (Or.inl ⟨by rfl, ?hy102x0⟩) (by with_reducible assumption) ?rest102x0
        case hy102x0 => (intro w hSw; (try dsimp only at hSw); go_simp; try with_reducible rfl)
        case' rest102x0 => (try simp only [Act.put, List.setIfInBounds_toArray, List.set_cons_zero, List.set_cons_succ])
        refine wpAnyH_take (i := 1) (oi := { dst := some 24, op := Op.move (Operand.tmp 5), type := 3, pos := "l2_set.go:37", after := #[], guard := none }) (v := ?v102x1) rfl (by kernel_rfl) (by kernel_rfl) (by kernel_rfl) (fun _ _ _ h => h) (Or.inl ⟨by rfl, ?hy102x1⟩) (by with_reducible assumption) ?rest102x1
        case hy102x1 => (intro w hSw; (try dsimp only at hSw); go_simp; try with_reducible rfl)
        case' rest102x1 => (try simp only [Act.put, List.setIfInBounds_toArray, List.set_cons_zero, List.set_cons_succ])
        refine wpAnyH_take (i := 2) (oi := { dst := some 25, op := Op.slice 33 (Operand.tmp 23) none (some (Operand.tmp 24)) none, type := 33, pos := "l2_set.go:37", after := #[{ on := 0, ground := Ground.data }, { on := 1, ground := Ground.data }], guard := none }) (v := ?v102x2) rfl (by kernel_rfl) (by kernel_rfl) (by kernel_rfl) (fun _ _ _ h => h) (Or.inl ⟨by rfl, ?hy102x2⟩) (by with_reducible assumption) ?rest102x2
        case hy102x2 => (intro w hSw; (try dsimp only at hSw); go_simp; try with_reducible rfl)
        case' rest102x2 => (try simp only [Act.put, List.setIfInBounds_toArray, List.set_cons_zero, List.set_cons_succ])
        refine wpAnyH_take (i := 4) (oi := { dst := some 27, op := Op.load 26 (Operand.tmp 3), type := 26, pos := "l2_set.go:37", after := #[], guard := none }) (v := ?v102x4) rfl (by kernel_rfl) (by kernel_rfl) (by kernel_rfl) (fun _ _ _ h => h) (Or.inl ⟨by rfl, ?hy102x4⟩) (by with_reducible assumption) ?rest102x4
        case hy102x4 => (intro w hSw; (try dsimp only at hSw); go_simp; try with_reducible rfl)
        case' rest102x4 => (try simp only [Act.put, List.setIfInBounds_toArray, List.set_cons_zero, List.set_cons_succ])
        refine wpAnyH_ready (rs := [3, 5]) (by kernel_rfl) (by simp) ?_
        refine AllReadyH.cons (o := { dst := some 26, op := Op.call { callee := Callee.value (Operand.func 100), args := #[Operand.tmp 25], argTypes := #[33] }, type := 33, pos := "l2_set.go:37", after := #[{ on := 2, ground := Ground.data }], guard := none }) rfl (fun K hK => ?_) (AllReadyH.cons (o := { dst := some 28, op := Op.buildSlice 33 1 #[(0, Operand.tmp 27)], type := 33, pos := "l2_set.go:37", after := #[{ on := 4, ground := Ground.data }], guard := none }) rfl (fun K hK => ?_) AllReadyH.nil)
        · go_simp
          refine (l2Own_c (l.take k) _ _ _ _ (by rw [List.length_take]; omega) (by omega) (.inr ⟨⟨b, off, rfl⟩, by omega, hcm⟩) (((HA.out.take k).later (grew hb3 (fin2 (by with_reducible assumption)))).mono (grew hb3 (fin2 (by with_reducible assumption))).size)).mono ?_
          rintro e w4 ⟨v4, rfl, ho4, hb4⟩
          replace ho4 := ho4.mono (fin2 (by with_reducible assumption) : Below w3.heap.size w3 _).size
          go_wp2_with fail
          refine hK.out _ _ ?_ (fun hHeld => ?_)
          · exact keep2 hb4 (by with_reducible assumption)
          clear hK K
          try simp only [Act.put, List.setIfInBounds_toArray, List.set_cons_zero, List.set_cons_succ]
          refine wpAnyH_ready (rs := [5]) (by kernel_rfl) (by simp) ?_
          refine AllReadyH.cons (o := { dst := some 28, op := Op.buildSlice 33 1 #[(0, Operand.tmp 27)], type := 33, pos := "l2_set.go:37", after := #[{ on := 4, ground := Ground.data }], guard := none }) rfl (fun K hK => ?_) AllReadyH.nil
          go_simp
          refine hK.out _ _ ?_ (fun hHeld => ?_)
          · (refine keep2 ?_ (by with_reducible assumption); go_grown)
          clear hK K
          try simp only [Act.put, List.setIfInBounds_toArray, List.set_cons_zero, List.set_cons_succ]
          refine wpAnyH_ready (rs := [6]) (by kernel_rfl) (by simp) ?_
          refine AllReadyH.cons (o := { dst := some 29, op := Op.call { callee := Callee.builtin Builtin.append, args := #[Operand.tmp 26, Operand.tmp 28], argTypes := #[33, 33] }, type := 33, pos := "l2_set.go:37", after := #[{ on := 3, ground := Ground.data }, { on := 5, ground := Ground.data }, { on := 3, ground := Ground.chain }], guard := none }) rfl (fun K hK => ?_) AllReadyH.nil
          refine step_append_lies _ rfl (.tmp 26) (.tmp 28) 33 rfl w3.heap.size 26 i0 _ 2 16 Tryd.underlying33 hi hz0 hz1 hz2 rfl (by decide) _ _ _ rfl ((cut_own ho4 (by rw [List.length_take]; omega)).alloc _) ⟨w4.heap.size, 0, none⟩ 1 1 (cells [(x, y)]) rfl rfl (one_src w4 x y _ rfl) (cells_ones _) (by decide) (by unfold maxLen; omega) (by omega) (fin2 (by with_reducible assumption)).size _ rfl ?_
          intro g5 cp5 w5 hown5 hgrow5 _ _
          have hS5 := keepG hgrow5 (fun q hq => ((cut_own ho4 (by rw [List.length_take]; omega)).lt q hq).1) hlt3 (by with_reducible assumption)
          have HO5 := hid hown5
          clear hgrow5 hown5
          refine hK.out _ _ ?_ (fun hHeld => ?_)
          · with_reducible exact hS5
          clear hK K
          try simp only [Act.put, List.setIfInBounds_toArray, List.set_cons_zero, List.set_cons_succ]
          refine wpAnyH_take (i := 7) (oi := { dst := some 6, op := Op.assign (Operand.tmp 29), type := 33, pos := "l2_set.go:37", after := #[{ on := 6, ground := Ground.data }, { on := 6, ground := Ground.chain }, { on := 0, ground := Ground.phase }, { on := 1, ground := Ground.phase }, { on := 2, ground := Ground.phase }, { on := 3, ground := Ground.phase }, { on := 4, ground := Ground.phase }, { on := 5, ground := Ground.phase }, { on := 6, ground := Ground.phase }], guard := none }) (v := ?v102ax7) rfl (by kernel_rfl) (by kernel_rfl) (by kernel_rfl) (fun _ _ _ h => h) (Or.inl ⟨by rfl, ?hy102ax7⟩) (by with_reducible assumption) ?rest102ax7
          case hy102ax7 => (intro w hSw; (try dsimp only at hSw); go_simp; try with_reducible rfl)
          case' rest102ax7 => (try simp only [Act.put, List.setIfInBounds_toArray, List.set_cons_zero, List.set_cons_succ])
          refine wpAnyH_done (by kernel_rfl) ?_ _
          refine NoPanic.normal ?_
          have hb35 : Below w3.heap.size w3 w5 := hS5.2.2
          have HA5 := hid (HA.out.later (grew hb3 hb35))
          go_wp2_with (at_builtin; refine wpList_append_own _ rfl (.tmp 30) (.tmp 33) 33 rfl w3.heap.size 26 i0 _ 2 16 Tryd.underlying33 hi hz0 hz1 hz2 rfl (by decide) _ _ _ rfl HO5.out _ _ _ (cells (l.drop k)) rfl (by rw [cells_len, List.length_drop] ; try omega) ((cells_src HA5.out (by intro h; first | rfl | (exfalso; omega) | (have hne : ¬ cap = k := (by omega); simp [hne]))) _ rfl) (cells_ones _) (by unfold maxLen; omega) (by omega) hb35.size ?_; intro v6 w6 hown6 hgrow6 _)
          all_goals go_ret
          all_goals rw [put_cells] at hown6
          all_goals exact ⟨_, rfl, (own_of hown6).mono hsz3, grew hb3 (hb35.grown hgrow6 hb35.size (fun q hq => (HO5.out.lt q hq).1))⟩
        · go_simp
          refine hK.out _ _ ?_ (fun hHeld => ?_)
          · exact ⟨cell_later (w := w3) (by go_grown) d0, cell_later (w := w3) (by go_grown) d1, (by go_grown : Below w3.heap.size w3 _)⟩
          clear hK K
          try simp only [Act.put, List.setIfInBounds_toArray, List.set_cons_zero, List.set_cons_succ]
          refine wpAnyH_ready (rs := [3]) (by kernel_rfl) (by simp) ?_
          refine AllReadyH.cons (o := { dst := some 26, op := Op.call { callee := Callee.value (Operand.func 100), args := #[Operand.tmp 25], argTypes := #[33] }, type := 33, pos := "l2_set.go:37", after := #[{ on := 2, ground := Ground.data }], guard := none }) rfl (fun K hK => ?_) AllReadyH.nil
          go_simp
          refine (l2Own_c (l.take k) _ _ _ _ (by rw [List.length_take]; omega) (by omega) (.inr ⟨⟨b, off, rfl⟩, by omega, hcm⟩) (((HA.out.take k).later (grew hb3 (fin2 (by with_reducible assumption)))).mono (grew hb3 (fin2 (by with_reducible assumption))).size)).mono ?_
          rintro e w4 ⟨v4, rfl, ho4, hb4⟩
          replace ho4 := ho4.mono (fin2 (by with_reducible assumption) : Below w3.heap.size w3 _).size
          go_wp2_with fail
          refine hK.out _ _ ?_ (fun hHeld => ?_)
          · exact keep2 hb4 (by with_reducible assumption)
          clear hK K
          try simp only [Act.put, List.setIfInBounds_toArray, List.set_cons_zero, List.set_cons_succ]
          refine wpAnyH_ready (rs := [6]) (by kernel_rfl) (by simp) ?_
          refine AllReadyH.cons (o := { dst := some 29, op := Op.call { callee := Callee.builtin Builtin.append, args := #[Operand.tmp 26, Operand.tmp 28], argTypes := #[33, 33] }, type := 33, pos := "l2_set.go:37", after := #[{ on := 3, ground := Ground.data }, { on := 5, ground := Ground.data }, { on := 3, ground := Ground.chain }], guard := none }) rfl (fun K hK => ?_) AllReadyH.nil
          refine step_append_lies _ rfl (.tmp 26) (.tmp 28) 33 rfl w3.heap.size 26 i0 _ 2 16 Tryd.underlying33 hi hz0 hz1 hz2 rfl (by decide) _ _ _ rfl (cut_own ho4 (by rw [List.length_take]; omega)) ⟨w3.heap.size, 0, none⟩ 1 1 (cells [(x, y)]) rfl rfl (fun j u hu => cell_later hb4 (one_src w3 x y _ rfl j u hu)) (cells_ones _) (by decide) (by unfold maxLen; omega) (by omega) (fin2 (by with_reducible assumption)).size _ rfl ?_
          intro g5 cp5 w5 hown5 hgrow5 _ _
          have hS5 := keepG hgrow5 (fun q hq => ((cut_own ho4 (by rw [List.length_take]; omega)).lt q hq).1) hlt3 (by with_reducible assumption)
          have HO5 := hid hown5
          clear hgrow5 hown5
          refine hK.out _ _ ?_ (fun hHeld => ?_)
          · with_reducible exact hS5
          clear hK K
          try simp only [Act.put, List.setIfInBounds_toArray, List.set_cons_zero, List.set_cons_succ]
          refine wpAnyH_take (i := 7) (oi := { dst := some 6, op := Op.assign (Operand.tmp 29), type := 33, pos := "l2_set.go:37", after := #[{ on := 6, ground := Ground.data }, { on := 6, ground := Ground.chain }, { on := 0, ground := Ground.phase }, { on := 1, ground := Ground.phase }, { on := 2, ground := Ground.phase }, { on := 3, ground := Ground.phase }, { on := 4, ground := Ground.phase }, { on := 5, ground := Ground.phase }, { on := 6, ground := Ground.phase }], guard := none }) (v := ?v102bx7) rfl (by kernel_rfl) (by kernel_rfl) (by kernel_rfl) (fun _ _ _ h => h) (Or.inl ⟨by rfl, ?hy102bx7⟩) (by with_reducible assumption) ?rest102bx7
          case hy102bx7 => (intro w hSw; (try dsimp only at hSw); go_simp; try with_reducible rfl)
          case' rest102bx7 => (try simp only [Act.put, List.setIfInBounds_toArray, List.set_cons_zero, List.set_cons_succ])
          refine wpAnyH_done (by kernel_rfl) ?_ _
          refine NoPanic.normal ?_
          have hb35 : Below w3.heap.size w3 w5 := hS5.2.2
          have HA5 := hid (HA.out.later (grew hb3 hb35))
          go_wp2_with (at_builtin; refine wpList_append_own _ rfl (.tmp 30) (.tmp 33) 33 rfl w3.heap.size 26 i0 _ 2 16 Tryd.underlying33 hi hz0 hz1 hz2 rfl (by decide) _ _ _ rfl HO5.out _ _ _ (cells (l.drop k)) rfl (by rw [cells_len, List.length_drop] ; try omega) ((cells_src HA5.out (by intro h; first | rfl | (exfalso; omega) | (have hne : ¬ cap = k := (by omega); simp [hne]))) _ rfl) (cells_ones _) (by unfold maxLen; omega) (by omega) hb35.size ?_; intro v6 w6 hown6 hgrow6 _)
          all_goals go_ret
          all_goals rw [put_cells] at hown6
          all_goals exact ⟨_, rfl, (own_of hown6).mono hsz3, grew hb3 (hb35.grown hgrow6 hb35.size (fun q hq => (HO5.out.lt q hq).1))⟩
    · have hd : decide (k < l.length) = false := decide_eq_false hlt
      clear hN
      go_enter Tryd.func103, Tryd.ntmps103
      go_wp2_with (go_at_call 116; refine hC.mono ?_; rintro e w2 ⟨rfl, hb⟩; have hb2 : Below w.heap.size w w2 := grew (by go_grown) hb; have c0 := cell_later hb (box0 w x y 26); have c1 := cell_later hb (box1 w x y 26))
      go_quiet (fail)
      rename_i nq
      go_wp2
      have hbq := drewN_below nq w2
      have d0 := cell_later hbq c0
      have d1 := cell_later hbq c1
      have hb3 : Below w.heap.size w (w2.drewN nq) := grew hb2 hbq
      generalize w2.drewN nq = w3 at d0 d1 hb3 ⊢
      clear hbq
      have hsz3 := hb3.size
      have hlt3 : w.heap.size < w3.heap.size := World.block_lt_of_cell? w3 _ d0
      refine wp_region_noPanic ?_
      refine wp_region_held_drew (S := (fun u => u.cell? ⟨w.heap.size, 0, none⟩ = some (.int .i64 x) ∧ u.cell? ⟨w.heap.size, 1, none⟩ = some (.int .i64 y) ∧ Below w3.heap.size w3 u)) (by kernel_rfl) ?_ (fun hHeld => ?_)
      · exact ⟨cell_later (Below.refl _ _).drew d0, cell_later (Below.refl _ _).drew d1, (Below.refl _ _).drew⟩
      refine wpAnyH_take (i := 0) (oi := { dst := some 23, op := Op.move (Operand.tmp 0), type := 33, pos := "l2_set.go:37", after := #[], guard := none }) (v := ?v101x0) rfl (by kernel_rfl) (by kernel_rfl) (by kernel_rfl) (fun _ _ _ h => h) (Or.inl ⟨by rfl, ?hy101x0⟩) (by with_reducible assumption) ?rest101x0
      case hy101x0 => (intro w hSw; (try dsimp only at hSw); go_simp; try with_reducible rfl)
      case' rest101x0 => (try simp only [Act.put, List.setIfInBounds_toArray, List.set_cons_zero, List.set_cons_succ])
      refine wpAnyH_take (i := 1) (oi := { dst := some 24, op := Op.move (Operand.tmp 5), type := 3, pos := "l2_set.go:37", after := #[], guard := none }) (v := ?v101x1) rfl (by kernel_rfl) (by kernel_rfl) (by kernel_rfl) (fun _ _ _ h => h) (Or.inl ⟨by rfl, ?hy101x1⟩) (by with_reducible assumption) ?rest101x1
      case hy101x1 => (intro w hSw; (try dsimp only at hSw); go_simp; try with_reducible rfl)
      case' rest101x1 => (try simp only [Act.put, List.setIfInBounds_toArray, List.set_cons_zero, List.set_cons_succ])
      refine wpAnyH_take (i := 2) (oi := { dst := some 25, op := Op.slice 33 (Operand.tmp 23) none (some (Operand.tmp 24)) none, type := 33, pos := "l2_set.go:37", after := #[{ on := 0, ground := Ground.data }, { on := 1, ground := Ground.data }], guard := none }) (v := ?v101x2) rfl (by kernel_rfl) (by kernel_rfl) (by kernel_rfl) (fun _ _ _ h => h) (Or.inl ⟨by rfl, ?hy101x2⟩) (by with_reducible assumption) ?rest101x2
      case hy101x2 => (intro w hSw; (try dsimp only at hSw); go_simp; try with_reducible rfl)
      case' rest101x2 => (try simp only [Act.put, List.setIfInBounds_toArray, List.set_cons_zero, List.set_cons_succ])
      refine wpAnyH_take (i := 4) (oi := { dst := some 27, op := Op.load 26 (Operand.tmp 3), type := 26, pos := "l2_set.go:37", after := #[], guard := none }) (v := ?v101x4) rfl (by kernel_rfl) (by kernel_rfl) (by kernel_rfl) (fun _ _ _ h => h) (Or.inl ⟨by rfl, ?hy101x4⟩) (by with_reducible assumption) ?rest101x4
      case hy101x4 => (intro w hSw; (try dsimp only at hSw); go_simp; try with_reducible rfl)
      case' rest101x4 => (try simp only [Act.put, List.setIfInBounds_toArray, List.set_cons_zero, List.set_cons_succ])
      refine wpAnyH_ready (rs := [3, 5]) (by kernel_rfl) (by simp) ?_
      refine AllReadyH.cons (o := { dst := some 26, op := Op.call { callee := Callee.value (Operand.func 100), args := #[Operand.tmp 25], argTypes := #[33] }, type := 33, pos := "l2_set.go:37", after := #[{ on := 2, ground := Ground.data }], guard := none }) rfl (fun K hK => ?_) (AllReadyH.cons (o := { dst := some 28, op := Op.buildSlice 33 1 #[(0, Operand.tmp 27)], type := 33, pos := "l2_set.go:37", after := #[{ on := 4, ground := Ground.data }], guard := none }) rfl (fun K hK => ?_) AllReadyH.nil)
      · go_simp
        refine (l2Own_c (l.take k) _ _ _ _ (by rw [List.length_take]; omega) (by omega) (.inr ⟨⟨b, off, rfl⟩, by omega, hcm⟩) (((HA.out.take k).later (grew hb3 (fin2 (by with_reducible assumption)))).mono (grew hb3 (fin2 (by with_reducible assumption))).size)).mono ?_
        rintro e w4 ⟨v4, rfl, ho4, hb4⟩
        replace ho4 := ho4.mono (fin2 (by with_reducible assumption) : Below w3.heap.size w3 _).size
        go_wp2_with fail
        refine hK.out _ _ ?_ (fun hHeld => ?_)
        · exact keep2 hb4 (by with_reducible assumption)
        clear hK K
        try simp only [Act.put, List.setIfInBounds_toArray, List.set_cons_zero, List.set_cons_succ]
        refine wpAnyH_ready (rs := [5]) (by kernel_rfl) (by simp) ?_
        refine AllReadyH.cons (o := { dst := some 28, op := Op.buildSlice 33 1 #[(0, Operand.tmp 27)], type := 33, pos := "l2_set.go:37", after := #[{ on := 4, ground := Ground.data }], guard := none }) rfl (fun K hK => ?_) AllReadyH.nil
        go_simp
        refine hK.out _ _ ?_ (fun hHeld => ?_)
        · (refine keep2 ?_ (by with_reducible assumption); go_grown)
        clear hK K
        try simp only [Act.put, List.setIfInBounds_toArray, List.set_cons_zero, List.set_cons_succ]
        refine wpAnyH_ready (rs := [6]) (by kernel_rfl) (by simp) ?_
        refine AllReadyH.cons (o := { dst := some 29, op := Op.call { callee := Callee.builtin Builtin.append, args := #[Operand.tmp 26, Operand.tmp 28], argTypes := #[33, 33] }, type := 33, pos := "l2_set.go:37", after := #[{ on := 3, ground := Ground.data }, { on := 5, ground := Ground.data }, { on := 3, ground := Ground.chain }], guard := none }) rfl (fun K hK => ?_) AllReadyH.nil
        refine step_append_lies _ rfl (.tmp 26) (.tmp 28) 33 rfl w3.heap.size 26 i0 _ 2 16 Tryd.underlying33 hi hz0 hz1 hz2 rfl (by decide) _ _ _ rfl ((cut_own ho4 (by rw [List.length_take]; omega)).alloc _) ⟨w4.heap.size, 0, none⟩ 1 1 (cells [(x, y)]) rfl rfl (one_src w4 x y _ rfl) (cells_ones _) (by decide) (by unfold maxLen; omega) (by omega) (fin2 (by with_reducible assumption)).size _ rfl ?_
        intro g5 cp5 w5 hown5 hgrow5 _ _
        have hS5 := keepG hgrow5 (fun q hq => ((cut_own ho4 (by rw [List.length_take]; omega)).lt q hq).1) hlt3 (by with_reducible assumption)
        have HO5 := hid hown5
        clear hgrow5 hown5
        refine hK.out _ _ ?_ (fun hHeld => ?_)
        · with_reducible exact hS5
        clear hK K
        try simp only [Act.put, List.setIfInBounds_toArray, List.set_cons_zero, List.set_cons_succ]
        refine wpAnyH_take (i := 7) (oi := { dst := some 6, op := Op.assign (Operand.tmp 29), type := 33, pos := "l2_set.go:37", after := #[{ on := 6, ground := Ground.data }, { on := 6, ground := Ground.chain }, { on := 0, ground := Ground.phase }, { on := 1, ground := Ground.phase }, { on := 2, ground := Ground.phase }, { on := 3, ground := Ground.phase }, { on := 4, ground := Ground.phase }, { on := 5, ground := Ground.phase }, { on := 6, ground := Ground.phase }], guard := none }) (v := ?v101ax7) rfl (by kernel_rfl) (by kernel_rfl) (by kernel_rfl) (fun _ _ _ h => h) (Or.inl ⟨by rfl, ?hy101ax7⟩) (by with_reducible assumption) ?rest101ax7
        case hy101ax7 => (intro w hSw; (try dsimp only at hSw); go_simp; try with_reducible rfl)
        case' rest101ax7 => (try simp only [Act.put, List.setIfInBounds_toArray, List.set_cons_zero, List.set_cons_succ])
        refine wpAnyH_done (by kernel_rfl) ?_ _
        refine NoPanic.normal ?_
        have hb35 : Below w3.heap.size w3 w5 := hS5.2.2
        have HA5 := hid (HA.out.later (grew hb3 hb35))
        by_cases hck : cap = k
        · go_wp2_with (at_builtin; refine wpList_append_own _ rfl (.tmp 30) (.tmp 33) 33 rfl w3.heap.size 26 i0 _ 2 16 Tryd.underlying33 hi hz0 hz1 hz2 rfl (by decide) _ _ _ rfl HO5.out _ _ _ (cells (l.drop k)) rfl (by rw [cells_len, List.length_drop] ; try omega) ((cells_src HA5.out (by intro h; exact absurd h hlt)) _ rfl) (cells_ones _) (by unfold maxLen; omega) (by omega) hb35.size ?_; intro v6 w6 hown6 hgrow6 _)
          go_ret
          rw [put_cells] at hown6
          exact ⟨_, rfl, (own_of hown6).mono hsz3, grew hb3 (hb35.grown hgrow6 hb35.size (fun q hq => (HO5.out.lt q hq).1))⟩
        · go_wp2_with (at_builtin; refine wpList_append_own _ rfl (.tmp 30) (.tmp 33) 33 rfl w3.heap.size 26 i0 _ 2 16 Tryd.underlying33 hi hz0 hz1 hz2 rfl (by decide) _ _ _ rfl HO5.out _ _ _ (cells (l.drop k)) rfl (by rw [cells_len, List.length_drop] ; try omega) ((cells_src HA5.out (by intro h; exact absurd h hlt)) _ rfl) (cells_ones _) (by unfold maxLen; omega) (by omega) hb35.size ?_; intro v6 w6 hown6 hgrow6 _)
          go_ret
          rw [put_cells] at hown6
          exact ⟨_, rfl, (own_of hown6).mono hsz3, grew hb3 (hb35.grown hgrow6 hb35.size (fun q hq => (HO5.out.lt q hq).1))⟩
      · go_simp
        refine hK.out _ _ ?_ (fun hHeld => ?_)
        · exact ⟨cell_later (w := w3) (by go_grown) d0, cell_later (w := w3) (by go_grown) d1, (by go_grown : Below w3.heap.size w3 _)⟩
        clear hK K
        try simp only [Act.put, List.setIfInBounds_toArray, List.set_cons_zero, List.set_cons_succ]
        refine wpAnyH_ready (rs := [3]) (by kernel_rfl) (by simp) ?_
        refine AllReadyH.cons (o := { dst := some 26, op := Op.call { callee := Callee.value (Operand.func 100), args := #[Operand.tmp 25], argTypes := #[33] }, type := 33, pos := "l2_set.go:37", after := #[{ on := 2, ground := Ground.data }], guard := none }) rfl (fun K hK => ?_) AllReadyH.nil
        go_simp
        refine (l2Own_c (l.take k) _ _ _ _ (by rw [List.length_take]; omega) (by omega) (.inr ⟨⟨b, off, rfl⟩, by omega, hcm⟩) (((HA.out.take k).later (grew hb3 (fin2 (by with_reducible assumption)))).mono (grew hb3 (fin2 (by with_reducible assumption))).size)).mono ?_
        rintro e w4 ⟨v4, rfl, ho4, hb4⟩
        replace ho4 := ho4.mono (fin2 (by with_reducible assumption) : Below w3.heap.size w3 _).size
        go_wp2_with fail
        refine hK.out _ _ ?_ (fun hHeld => ?_)
        · exact keep2 hb4 (by with_reducible assumption)
        clear hK K
        try simp only [Act.put, List.setIfInBounds_toArray, List.set_cons_zero, List.set_cons_succ]
        refine wpAnyH_ready (rs := [6]) (by kernel_rfl) (by simp) ?_
        refine AllReadyH.cons (o := { dst := some 29, op := Op.call { callee := Callee.builtin Builtin.append, args := #[Operand.tmp 26, Operand.tmp 28], argTypes := #[33, 33] }, type := 33, pos := "l2_set.go:37", after := #[{ on := 3, ground := Ground.data }, { on := 5, ground := Ground.data }, { on := 3, ground := Ground.chain }], guard := none }) rfl (fun K hK => ?_) AllReadyH.nil
        refine step_append_lies _ rfl (.tmp 26) (.tmp 28) 33 rfl w3.heap.size 26 i0 _ 2 16 Tryd.underlying33 hi hz0 hz1 hz2 rfl (by decide) _ _ _ rfl (cut_own ho4 (by rw [List.length_take]; omega)) ⟨w3.heap.size, 0, none⟩ 1 1 (cells [(x, y)]) rfl rfl (fun j u hu => cell_later hb4 (one_src w3 x y _ rfl j u hu)) (cells_ones _) (by decide) (by unfold maxLen; omega) (by omega) (fin2 (by with_reducible assumption)).size _ rfl ?_
        intro g5 cp5 w5 hown5 hgrow5 _ _
        have hS5 := keepG hgrow5 (fun q hq => ((cut_own ho4 (by rw [List.length_take]; omega)).lt q hq).1) hlt3 (by with_reducible assumption)
        have HO5 := hid hown5
        clear hgrow5 hown5
        refine hK.out _ _ ?_ (fun hHeld => ?_)
        · with_reducible exact hS5
        clear hK K
        try simp only [Act.put, List.setIfInBounds_toArray, List.set_cons_zero, List.set_cons_succ]
        refine wpAnyH_take (i := 7) (oi := { dst := some 6, op := Op.assign (Operand.tmp 29), type := 33, pos := "l2_set.go:37", after := #[{ on := 6, ground := Ground.data }, { on := 6, ground := Ground.chain }, { on := 0, ground := Ground.phase }, { on := 1, ground := Ground.phase }, { on := 2, ground := Ground.phase }, { on := 3, ground := Ground.phase }, { on := 4, ground := Ground.phase }, { on := 5, ground := Ground.phase }, { on := 6, ground := Ground.phase }], guard := none }) (v := ?v101bx7) rfl (by kernel_rfl) (by kernel_rfl) (by kernel_rfl) (fun _ _ _ h => h) (Or.inl ⟨by rfl, ?hy101bx7⟩) (by with_reducible assumption) ?rest101bx7
        case hy101bx7 => (intro w hSw; (try dsimp only at hSw); go_simp; try with_reducible rfl)
        case' rest101bx7 => (try simp only [Act.put, List.setIfInBounds_toArray, List.set_cons_zero, List.set_cons_succ])
        refine wpAnyH_done (by kernel_rfl) ?_ _
        refine NoPanic.normal ?_
        have hb35 : Below w3.heap.size w3 w5 := hS5.2.2
        have HA5 := hid (HA.out.later (grew hb3 hb35))
        by_cases hck : cap = k
        · go_wp2_with (at_builtin; refine wpList_append_own _ rfl (.tmp 30) (.tmp 33) 33 rfl w3.heap.size 26 i0 _ 2 16 Tryd.underlying33 hi hz0 hz1 hz2 rfl (by decide) _ _ _ rfl HO5.out _ _ _ (cells (l.drop k)) rfl (by rw [cells_len, List.length_drop] ; try omega) ((cells_src HA5.out (by intro h; exact absurd h hlt)) _ rfl) (cells_ones _) (by unfold maxLen; omega) (by omega) hb35.size ?_; intro v6 w6 hown6 hgrow6 _)
          go_ret
          rw [put_cells] at hown6
          exact ⟨_, rfl, (own_of hown6).mono hsz3, grew hb3 (hb35.grown hgrow6 hb35.size (fun q hq => (HO5.out.lt q hq).1))⟩
        · go_wp2_with (at_builtin; refine wpList_append_own _ rfl (.tmp 30) (.tmp 33) 33 rfl w3.heap.size 26 i0 _ 2 16 Tryd.underlying33 hi hz0 hz1 hz2 rfl (by decide) _ _ _ rfl HO5.out _ _ _ (cells (l.drop k)) rfl (by rw [cells_len, List.length_drop] ; try omega) ((cells_src HA5.out (by intro h; exact absurd h hlt)) _ rfl) (cells_ones _) (by unfold maxLen; omega) (by omega) hb35.size ?_; intro v6 w6 hown6 hgrow6 _)
          go_ret
          rw [put_cells] at hown6
          exact ⟨_, rfl, (own_of hown6).mono hsz3, grew hb3 (hb35.grown hgrow6 hb35.size (fun q hq => (HO5.out.lt q hq).1))⟩
end Go.Proofs.YtipiamhnngmjmaaDoor
namespace Go.Proofs.YtipiamhnngmjmaaDoor
open Go.RowKit
set_option linter.unusedVariables false
set_option maxRecDepth 8000
theorem goodImpl_e (x y : Int) (w : World) (c0 : w.cell? ⟨0, 0, none⟩ = some (.int .i64 1000000)) : Calls Tryd.prog 48 #[.agg #[.int .i64 x, .int .i64 y]] w fun e w' => e = .returned (.bool (goodB x y)) ∧ Below w.heap.size w w' := by
  refine (goodImpl_c x y w c0).mono ?_
  rintro e w' ⟨he, rfl⟩
  exact ⟨he, by go_grown⟩
theorem Cop.step2 {l : List (Int × Int)} {k : Nat} {w wr u : World} {x y : Int} (h : Cop l k w wr) (hb : Below wr.heap.size wr u) (hk : k < l.length) (hx : px l k = x) (hy : py l k = y) :
    Cop l (k + 1) w ((u.setCell ⟨w.heap.size, k * 2, none⟩ (.int .i64 x)).setCell ⟨w.heap.size, k * 2 + 1, none⟩ (.int .i64 y)) := by
  subst hx hy
  exact h.step hb hk
end Go.Proofs.YtipiamhnngmjmaaDoor
namespace Go.Proofs.YtipiamhnngmjmaaDoor
open Go.RowKit
set_option linter.unusedVariables false
set_option maxRecDepth 8000
theorem fit_row (b n : Nat) (h : n ≤ 1048576) : Fit (some ⟨b, 0, none⟩) n n := .inr ⟨⟨b, 0, rfl⟩, Nat.le_refl _, by unfold maxLen; omega⟩
def putOk (l : List (Int × Int)) (x y : Int) : Bool := goodL l && (goodB x y && (!decide (l.length = 60) && !hasB l x y))
def putA (l : List (Int × Int)) (x y : Int) : List (Int × Int) := if putOk l x y then putR l x y else []
theorem putA_len (l : List (Int × Int)) (x y : Int) (h : l.length ≤ 1048576) : (putA l x y).length ≤ 1048576 := by
  unfold putA
  split
  · rename_i e
    rw [putOk, Bool.and_eq_true] at e
    have h60 := goodL_few e.1
    have hp := plc_le l x y
    rw [putR, List.length_append, List.length_take, List.length_cons, List.length_drop]
    omega
  · exact Nat.zero_le _
end Go.Proofs.YtipiamhnngmjmaaDoor
namespace Go.Proofs.YtipiamhnngmjmaaDoor
open Go.RowKit
set_option linter.unusedVariables false
set_option maxRecDepth 8000
/-- A point put in where it lacks. -/
def put1 (l : List (Int × Int)) (x y : Int) : List (Int × Int) := if hasB l x y then l else putR l x y
/-- The set of a list. -/
def fromL (l : List (Int × Int)) : List (Int × Int) := l.foldl (fun s p => put1 s p.1 p.2) []
theorem put1_len (l : List (Int × Int)) (x y : Int) : (put1 l x y).length ≤ l.length + 1 := by
  unfold put1
  split
  · omega
  · have := plc_le l x y
    rw [putR, List.length_append, List.length_take, List.length_cons, List.length_drop]; omega
theorem fromL_succ {l : List (Int × Int)} {k : Nat} (h : k < l.length) : fromL (l.take (k + 1)) = put1 (fromL (l.take k)) (px l k) (py l k) := by
  unfold fromL
  rw [List.take_succ_eq_append_getElem h, List.foldl_append]
  simp [px, py, h]
theorem fromL_len (l : List (Int × Int)) : ∀ k, k ≤ l.length → (fromL (l.take k)).length ≤ k := by
  intro k
  induction k with
  | zero => intro _; simp [fromL]
  | succ k ih =>
    intro hk
    rw [fromL_succ (by omega)]
    have := put1_len (fromL (l.take k)) (px l k) (py l k)
    have := ih (by omega)
    omega
theorem plc_below (l : List (Int × Int)) (x y : Int) : ∀ i, i < plc l x y → lessB (px l i) (py l i) x y = true := by
  induction l with
  | nil => intro i hi; simp [plc] at hi
  | cons q l ih =>
    intro i hi
    cases hq : lessB q.1 q.2 x y
    · simp [plc, List.takeWhile, hq] at hi
    · cases i with
      | zero => simpa [px, py] using hq
      | succ i =>
        have e : plc (q :: l) x y = plc l x y + 1 := by simp [plc, List.takeWhile, hq]
        have := ih i (by omega)
        simpa [px, py] using this
theorem plc_at (l : List (Int × Int)) (x y : Int) : plc l x y < l.length → lessB (px l (plc l x y)) (py l (plc l x y)) x y = false := by
  induction l with
  | nil => intro h; simp [plc] at h
  | cons q l ih =>
    intro h
    cases hq : lessB q.1 q.2 x y
    · have e : plc (q :: l) x y = 0 := by simp [plc, List.takeWhile, hq]
      rw [e]; simpa [px, py] using hq
    · have e : plc (q :: l) x y = plc l x y + 1 := by simp [plc, List.takeWhile, hq]
      rw [e] at h ⊢
      have := ih (by simpa using h)
      simpa [px, py] using this
theorem pxy_put (l : List (Int × Int)) (k : Nat) (x y : Int) (hk : k ≤ l.length) : ∀ i, ((l.take k ++ (x, y) :: l.drop k).getD i (0, 0)) = if i < k then l.getD i (0, 0) else if i = k then (x, y) else l.getD (i - 1) (0, 0) := by
  intro i
  rw [List.getD_eq_getElem?_getD, List.getElem?_append, List.length_take]
  by_cases h1 : i < k
  · rw [if_pos (by omega), if_pos h1, List.getElem?_take, if_pos h1, List.getD_eq_getElem?_getD]
  · rw [if_neg (by omega), if_neg h1]
    by_cases h2 : i = k
    · subst h2; simp [Nat.min_eq_left hk]
    · rw [if_neg h2, Nat.min_eq_left hk, show i - k = (i - 1 - k) + 1 by omega, List.getElem?_cons_succ, List.getElem?_drop, show k + (i - 1 - k) = i - 1 by omega, List.getD_eq_getElem?_getD]
theorem put_rises {l : List (Int × Int)} {x y : Int} (h : RisesTo l (l.length - 1)) (hn : hasB l x y = false) : RisesTo (putR l x y) ((putR l x y).length - 1) := by
  have hk := plc_le l x y
  have hlen : (putR l x y).length = l.length + 1 := by rw [putR, List.length_append, List.length_take, List.length_cons, List.length_drop]; omega
  rw [hlen]
  intro i hi
  have hb := plc_below l x y
  have hat := plc_at l x y
  have hno : plc l x y < l.length → lessB x y (px l (plc l x y)) (py l (plc l x y)) = true := fun hl => by
    have e2 := less_eq (hat hl)
    rw [hasB, decide_eq_true hl, Bool.true_and, e2] at hn
    simpa using hn
  clear hn
  unfold putR px py
  rw [pxy_put l _ x y hk i, pxy_put l _ x y hk (i + 1)]
  generalize plc l x y = k at *
  by_cases h1 : i + 1 < k
  · rw [if_pos (by omega), if_pos h1]; exact h i (by omega)
  · by_cases h2 : i + 1 = k
    · rw [if_pos (by omega), if_neg h1, if_pos h2]; exact hb i (by omega)
    · by_cases h3 : i = k
      · subst h3
        rw [if_neg (by omega), if_pos rfl, if_neg (by omega), if_neg (by omega)]
        exact hno (by omega)
      · rw [if_neg (by omega), if_neg h3, if_neg (by omega), if_neg (by omega)]
        have := h (i - 1) (by omega)
        rw [show i - 1 + 1 = i by omega] at this
        exact this
theorem Own.fit {N n cap : Nat} {a : Option Addr} {l : List (Int × Int)} {w : World} (h : Own N (.slice a n cap) l w) : Fit a n cap := by
  rcases h with ⟨rfl, e⟩ | ⟨g, c, f, e, _, h2, h3, _⟩
  · simp at e
    exact .inl ⟨e.1, e.2.2, e.2.1⟩
  · simp at e
    obtain ⟨rfl, rfl, rfl⟩ := e
    exact .inr ⟨⟨g, 0, rfl⟩, h2, h3⟩
set_option maxHeartbeats 1000000 in
theorem l2Put_has (l : List (Int × Int)) (x y : Int) (a : Option Addr) (len cap : Nat) (w : World) (hl : l.length = len) (h1 : len ≤ 1048576) (hA : At w.heap.size a l w) (hN : hasB l x y = true) :
    Calls Tryd.prog 103 #[.slice a len cap, .agg #[.int .i64 x, .int .i64 y]] w fun e w' => e = .returned (.slice a len cap) ∧ Below w.heap.size w w' := by
  subst hl
  have HA := hid hA
  clear hA
  have hC := l2Place_c l x y a l.length cap (w.alloc (.cells #[.int .i64 x, .int .i64 y] 26)) rfl h1 ((HA.out.later (by go_grown)).mono (by simp))
  obtain ⟨k, hk⟩ : ∃ k, plc l x y = k := ⟨_, rfl⟩
  rw [hk] at hC
  rw [hasB, hk, Bool.and_eq_true] at hN
  have hlt := of_decide_eq_true hN.1
  obtain ⟨e1, e2⟩ := of_decide_eq_true hN.2
  clear hN hk
  obtain ⟨b, off, rfl, hbN, g0, g1⟩ := HA.out k hlt
  rw [e1] at g0
  rw [e2] at g1
  clear e1 e2
  have hi1 : (0 : Int) ≤ (k : Int) := by omega
  have hi2 : (k : Int) < (l.length : Int) := by omega
  go_enter Tryd.func103, Tryd.ntmps103
  go_wp2_with (go_at_call 116; refine hC.mono ?_; rintro e w2 ⟨rfl, hb⟩; have hb2 : Below w.heap.size w w2 := grew (by go_grown) hb; have c0 := cell_later hb (box0 w x y 26); have c1 := cell_later hb (box1 w x y 26); have c2 := cell_later hb2 g0; have c3 := cell_later hb2 g1)
  go_quiet (fail)
  go_wp2
  go_ret
  exact ⟨rfl, grew hb2 (drewN_below _ _)⟩
theorem l2Put_own (l : List (Int × Int)) (x y : Int) (N : Nat) (a : Option Addr) (n cap : Nat) (w : World) (h1 : n ≤ 1048576) (hN : N ≤ w.heap.size) (hO : Own N (.slice a n cap) l w) :
    Calls Tryd.prog 103 #[.slice a n cap, .agg #[.int .i64 x, .int .i64 y]] w fun e w' => ∃ v, e = .returned v ∧ Own N v (put1 l x y) w' ∧ Below w.heap.size w w' := by
  cases hT : hasB l x y
  · refine (l2Put_new l x y a n cap w hO.len h1 hO.fit hO.at hT).mono ?_
    rintro e w' ⟨v, he, ho, hb⟩
    exact ⟨v, he, by rw [put1, hT]; exact ho.mono hN, hb⟩
  · refine (l2Put_has l x y a n cap w hO.len h1 hO.at hT).mono ?_
    rintro e w' ⟨he, hb⟩
    exact ⟨_, he, by rw [put1, hT]; exact hO.later hb, hb⟩
set_option maxHeartbeats 1000000 in
theorem l2From_c (l : List (Int × Int)) (a : Option Addr) (len cap : Nat) (w : World) (hl : l.length = len) (h1 : len ≤ 1048576) (hA : At w.heap.size a l w) :
    Calls Tryd.prog 83 #[.slice a len cap] w fun e w' => ∃ v, e = .returned v ∧ Own w.heap.size v (fromL l) w' ∧ Below w.heap.size w w' := by
  subst hl
  have HA := hid hA
  clear hA
  go_enter Tryd.func83, Tryd.ntmps83
  go_wp2
  go_loopw [3, 8] (fun v i wr => ∃ k : Nat, k ≤ l.length ∧ i = .int .i64 k ∧ Own w.heap.size v (fromL (l.take k)) wr ∧ Below w.heap.size w wr) (fun v i _ => l.length - (intOf i).toNat)
  case atStart => exact ⟨0, Nat.zero_le _, rfl, Own.nil _ _, Below.refl _ _⟩
  case round =>
    obtain ⟨k, hk, rfl, hO, hbw⟩ := hrel
    by_cases hkl : k < l.length
    · obtain ⟨b, off, rfl, hbN, g0, g1⟩ := HA.out k hkl
      have q0 := cell_later hbw g0
      have q1 := cell_later hbw g1
      have hsz := hbw.size
      have hbb : b < wr.heap.size := by omega
      clear g0 g1
      have hL := fromL_len l k hk
      have HS := hid (fromL_succ hkl)
      obtain ⟨av, cv, hv⟩ := hO.shape
      subst hv
      generalize fromL (l.take k) = L at hO hL HS ⊢
      have HO := hid hO
      clear hO
      go_wp2_with (go_at_call 103; refine (l2Put_own L _ _ w.heap.size _ _ _ _ ?_ ?_ (HO.out.later (by go_grown))).mono ?_; (omega); (go_size); rintro e w3 ⟨v3, rfl, ho3, hb3⟩)
      go_roundw
      case rel => exact ⟨k + 1, by omega, by go_num, by rw [HS.out]; exact ho3, grew hbw (grew (by go_grown) hb3)⟩
      case measure => simp [intOf]; omega
    · obtain rfl : k = l.length := by omega
      rw [List.take_length] at hO
      go_wp2
      go_ret
      exact ⟨_, rfl, hO, hbw⟩
theorem fromL_rises (l : List (Int × Int)) : ∀ k, k ≤ l.length → RisesTo (fromL (l.take k)) ((fromL (l.take k)).length - 1) := by
  intro k
  induction k with
  | zero => intro _; exact fun i hi => absurd hi (by simp [fromL])
  | succ k ih =>
    intro hk
    rw [fromL_succ (by omega)]
    unfold put1
    split
    · exact ih (by omega)
    · rename_i e
      exact put_rises (ih (by omega)) (by simpa using e)
set_option maxHeartbeats 1000000 in
theorem sortedFrom_c (l : List (Int × Int)) (a : Option Addr) (len cap : Nat) (w : World) (hl : l.length = len) (h1 : len ≤ 1048576) (hA : At w.heap.size a l w) :
    Calls Tryd.prog 87 #[.slice a len cap] w fun e w' => ∃ v, e = .returned v ∧ Own w.heap.size v (fromL l) w' ∧ Below w.heap.size w w' := by
  subst hl
  have HA := hid hA
  clear hA
  go_enter Tryd.func87, Tryd.ntmps87
  go_wp2
  go_loopw [3, 10] (fun v i wr => ∃ k : Nat, k ≤ l.length ∧ i = .int .i64 k ∧ Own w.heap.size v (fromL (l.take k)) wr ∧ Below w.heap.size w wr) (fun v i _ => l.length - (intOf i).toNat)
  case atStart => exact ⟨0, Nat.zero_le _, rfl, Own.nil _ _, Below.refl _ _⟩
  case round =>
    obtain ⟨k, hk, rfl, hO, hbw⟩ := hrel
    by_cases hkl : k < l.length
    · obtain ⟨b, off, rfl, hbN, g0, g1⟩ := HA.out k hkl
      have q0 := cell_later hbw g0
      have q1 := cell_later hbw g1
      have hsz := hbw.size
      have hbb : b < wr.heap.size := by omega
      clear g0 g1
      have hL := fromL_len l k hk
      have HS := hid (fromL_succ hkl)
      have HR := hid (fromL_rises l k hk)
      obtain ⟨av, cv, hv⟩ := hO.shape
      subst hv
      generalize fromL (l.take k) = L at hO hL HS HR ⊢
      have HO := hid hO
      clear hO
      have hLm : L.length ≤ 1048576 := by omega
      have HB := hid (box0 wr (px l k) (py l k) 26)
      have HC := hid (box1 wr (px l k) (py l k) 26)
      cases hT : hasB L (px l k) (py l k)
      · go_wp2_with (first
          | (go_at_call 105; refine (search_c L _ _ _ _ _ _ rfl hLm HR.out (HO.out.later (by go_grown)).at).mono ?_; rintro e w3 ⟨rfl, hb3⟩; have c0 := cell_later hb3 HB.out; have c1 := cell_later hb3 HC.out; have ho3 := (HO.out.later (by go_grown)).later hb3)
          | (go_at_call 106; refine (with_c L (plc L (px l k) (py l k)) _ _ _ _ _ w3 rfl hLm (plc_le _ _ _) ho3.fit ho3.at).mono ?_; rintro e w4 ⟨v4, rfl, ho4, hb4⟩))
        go_roundw
        case rel =>
          have hb03 : Below w.heap.size w w3 := grew hbw (grew (by go_grown) hb3)
          exact ⟨k + 1, by omega, by go_num, by rw [HS.out, put1, hT]; exact ho4.mono hb03.size, grew hb03 hb4⟩
        case measure => simp [intOf]; omega
      · go_wp2_with (go_at_call 105; refine (search_c L _ _ _ _ _ _ rfl hLm HR.out (HO.out.later (by go_grown)).at).mono ?_; rintro e w3 ⟨rfl, hb3⟩; have c0 := cell_later hb3 HB.out; have c1 := cell_later hb3 HC.out; have ho3 := (HO.out.later (by go_grown)).later hb3)
        go_roundw
        case rel =>
          have hb03 : Below w.heap.size w w3 := grew hbw (grew (by go_grown) hb3)
          exact ⟨k + 1, by omega, by go_num, by rw [HS.out, put1, hT]; exact ho3, hb03⟩
        case measure => simp [intOf]; omega
    · obtain rfl : k = l.length := by omega
      rw [List.take_length] at hO
      go_wp2
      go_ret
      exact ⟨_, rfl, hO, hbw⟩
end Go.Proofs.YtipiamhnngmjmaaDoor
