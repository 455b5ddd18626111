/-
  Lists of points in memory, and the law's own functions over them (contracts for the walks).
  Conditions: as each theorem states them.
-/
import Derived.Test.YtegmlemejmahiaaDoorPts
import Derived.Deep.OwnRows
import Derived.Deep.RegionHeld3
namespace Go.Proofs.YtegmlemejmahiaaDoor
open Go.RowKit
set_option linter.unusedVariables false
/-- The numbers of the point at a place. -/
def px (l : List (Int × Int)) (i : Nat) : Int := (l.getD i (0, 0)).1
def py (l : List (Int × Int)) (i : Nat) : Int := (l.getD i (0, 0)).2
/-- The cells of a list of points. -/
def cel (l : List (Int × Int)) (j : Nat) : Value := if j % 2 = 0 then .int .i64 (px l (j / 2)) else .int .i64 (py l (j / 2))
theorem cel0 (l : List (Int × Int)) (i : Nat) : cel l (i * 2) = .int .i64 (px l i) := by
  unfold cel; rw [if_pos (by omega), show i * 2 / 2 = i by omega]
theorem cel1 (l : List (Int × Int)) (i : Nat) : cel l (i * 2 + 1) = .int .i64 (py l i) := by
  unfold cel; rw [if_neg (by omega), show (i * 2 + 1) / 2 = i by omega]
/-- A list of points lies at an address, below block N. -/
def At (N : Nat) (a : Option Addr) (l : List (Int × Int)) (w : World) : Prop :=
  ∀ i, i < l.length → ∃ b off, a = some ⟨b, off, none⟩ ∧ b < N ∧ w.cell? ⟨b, off + i * 2, none⟩ = some (.int .i64 (px l i)) ∧ w.cell? ⟨b, off + i * 2 + 1, none⟩ = some (.int .i64 (py l i))
theorem At.later {N : Nat} {a : Option Addr} {l : List (Int × Int)} {w w' : World} (h : At N a l w) (hb : Below w.heap.size w w') : At N a l w' := fun i hi => by
  obtain ⟨b, off, e, hN, h0, h1⟩ := h i hi
  exact ⟨b, off, e, hN, cell_later hb h0, cell_later hb h1⟩
theorem At.mono {N M : Nat} {a : Option Addr} {l : List (Int × Int)} {w : World} (h : At N a l w) (hNM : N ≤ M) : At M a l w := fun i hi => by
  obtain ⟨b, off, e, hN, h0, h1⟩ := h i hi
  exact ⟨b, off, e, by omega, h0, h1⟩
theorem info_pt : (Tryd.prog.info? 26).map (fun i => (i.zero, i.size, i.bytes)) = some (some (.agg #[.int .i64 0, .int .i64 0]), 2, 16) := by kernel_rfl
theorem rowIs_later {w w' : World} {b t n N : Nat} {f : Nat → Value} (h : w.rowIs b t n f) (hb : Below N w w') (hN : b < N) : w'.rowIs b t n f := by
  obtain ⟨c, h1, h2, h3⟩ := h
  exact ⟨c, (hb.block b hN).trans h1, h2, h3⟩
/-- How far a list is copied. -/
structure Cop (l : List (Int × Int)) (k : Nat) (w wr : World) : Prop where
  below : Below w.heap.size w wr
  row : wr.rowIs w.heap.size 26 (l.length * 2) (fun j => if j < k * 2 then cel l j else .int .i64 0)
theorem Cop.step {l : List (Int × Int)} {k : Nat} {w wr u : World} (h : Cop l k w wr) (hb : Below wr.heap.size wr u) (hk : k < l.length) :
    Cop l (k + 1) w ((u.setCell ⟨w.heap.size, k * 2, none⟩ (.int .i64 (px l k))).setCell ⟨w.heap.size, k * 2 + 1, none⟩ (.int .i64 (py l k))) := by
  have hlt := h.row.lt
  have hbu : Below w.heap.size w u := h.below.trans (hb.mono h.below.size)
  refine ⟨(hbu.setCell (Nat.le_refl _) _).setCell (Nat.le_refl _) _, (((rowIs_later h.row hb hlt).set (k * 2) _).set (k * 2 + 1) _).congr fun j hj => ?_⟩
  by_cases e1 : j = k * 2 + 1
  · subst e1
    rw [if_pos rfl, if_pos (by omega), cel1]
  · by_cases e0 : j = k * 2
    · subst e0
      rw [if_neg e1, if_pos rfl, if_pos (by omega), cel0]
    · simp only [e0, e1, if_false]
      by_cases hlk : j < k * 2
      · rw [if_pos hlk, if_pos (by omega)]
      · rw [if_neg hlk, if_neg (by omega)]
theorem Cop.start (l : List (Int × Int)) (w : World) : Cop l 0 w (w.alloc (.cells (madeCells #[.int .i64 0, .int .i64 0] (l.length * 2)) 26)) := by
  refine ⟨(Below.refl _ _).alloc (Nat.le_refl _) _, _, heap_alloc_new _ _, size_madeCells _ _, fun i hi => ?_⟩
  simp [madeCells, hi]
  rcases (show i % 2 = 0 ∨ i % 2 = 1 by omega) with h | h <;> simp [h]
theorem Cop.t0 {l : List (Int × Int)} {k : Nat} {w wr u : World} (h : Cop l k w wr) (hb : Below wr.heap.size wr u) (hk : k < l.length) : u.cell? ⟨w.heap.size, k * 2, none⟩ = some (.int .i64 0) := by
  have := (rowIs_later h.row hb h.row.lt).cell (i := k * 2) (by omega)
  rwa [if_neg (by omega)] at this
theorem Cop.t1 {l : List (Int × Int)} {k : Nat} {w wr u : World} (h : Cop l k w wr) (hb : Below wr.heap.size wr u) (hk : k < l.length) : u.cell? ⟨w.heap.size, k * 2 + 1, none⟩ = some (.int .i64 0) := by
  have := (rowIs_later h.row hb h.row.lt).cell (i := k * 2 + 1) (by omega)
  rwa [if_neg (by omega)] at this
theorem Cop.f {l : List (Int × Int)} {k : Nat} {w wr u : World} (h : Cop l k w wr) (hb : Below wr.heap.size wr u) (i : Nat) : u.frozen? ⟨w.heap.size, i, none⟩ = false := (rowIs_later h.row hb h.row.lt).frozen i
set_option maxHeartbeats 2000000 in
theorem toPointS_c (l : List (Int × Int)) (a : Option Addr) (len cap : Nat) (w : World) (hl : l.length = len) (hm : len ≤ 1048576) (hA : At w.heap.size a l w) :
    Calls Tryd.prog 12 #[.slice a len cap] w fun e w' => e = .returned (.slice (some ⟨w.heap.size, 0, none⟩) len len) ∧ Cop l l.length w w' := by
  obtain ⟨i0, hi, hz0, hz1, hz2⟩ := info_parts info_pt
  subst hl
  have HA := hid hA
  clear hA
  have hmk := fun (u : World) => run_make (P := Tryd.prog) u 29 26 i0 _ Tryd.underlying29 hi hz0 .i64 .i64 l.length l.length (by omega) (by omega) (by rw [hz2]; omega) (by omega)
  simp only [hz1, Int.toNat_natCast] at hmk
  clear hz0 hz1 hz2 hi
  go_enter Tryd.func12, Tryd.ntmps12
  go_wp2
  go_loopw [4] (fun i wr => ∃ k : Nat, k ≤ l.length ∧ i = .int .i64 k ∧ Cop l k w wr) (fun i _ => l.length - (intOf i).toNat)
  case atStart => exact ⟨0, Nat.zero_le _, rfl, Cop.start _ _⟩
  case round =>
    obtain ⟨k, hk, rfl, hC⟩ := hrel
    have HC := hid hC
    have hsz : w.heap.size < wr.heap.size := hC.row.lt
    clear hC
    by_cases hkl : k < l.length
    · obtain ⟨b, off, rfl, hbN, g0, g1⟩ := HA.out k (by omega)
      have q0 := cell_later HC.out.below g0
      have q1 := cell_later HC.out.below g1
      clear g0 g1
      go_wp2_with (go_at_call 13; refine (toPoint_c _ _ _).mono ?_; rintro e w' ⟨rfl, hb⟩; have t0 := HC.out.t0 hb hkl; have t1 := HC.out.t1 hb hkl; have f0 := HC.out.f hb (k * 2); have f1 := HC.out.f hb (k * 2 + 1))
      go_roundw
      case rel => exact ⟨k + 1, by omega, by go_num, HC.out.step hb hkl⟩
      case measure => simp [intOf]; omega
    · obtain rfl : k = l.length := by omega
      go_wp2
      go_ret
      exact ⟨rfl, HC.out⟩
theorem Cop.at {l : List (Int × Int)} {w wr : World} (h : Cop l l.length w wr) : At wr.heap.size (some ⟨w.heap.size, 0, none⟩) l wr := fun i hi => by
  have h0 := h.row.cell (i := i * 2) (by omega)
  have h1 := h.row.cell (i := i * 2 + 1) (by omega)
  rw [if_pos (by omega), cel0] at h0
  rw [if_pos (by omega), cel1] at h1
  exact ⟨w.heap.size, 0, rfl, h.row.lt, by rw [Nat.zero_add]; exact h0, by rw [Nat.zero_add]; exact h1⟩
/-- A list of points fills a block, at N or later. -/
structure Row (N b : Nat) (l : List (Int × Int)) (w : World) : Prop where
  le : N ≤ b
  row : w.rowIs b 26 (l.length * 2) (cel l)
theorem Row.at {N b : Nat} {l : List (Int × Int)} {w : World} (h : Row N b l w) : At w.heap.size (some ⟨b, 0, none⟩) l w := fun i hi => by
  have h0 := h.row.cell (i := i * 2) (by omega)
  have h1 := h.row.cell (i := i * 2 + 1) (by omega)
  rw [cel0] at h0
  rw [cel1] at h1
  exact ⟨b, 0, rfl, h.row.lt, by rw [Nat.zero_add]; exact h0, by rw [Nat.zero_add]; exact h1⟩
theorem Row.later {N b : Nat} {l : List (Int × Int)} {w w' : World} (h : Row N b l w) (hb : Below w.heap.size w w') : Row N b l w' := ⟨h.le, rowIs_later h.row hb h.row.lt⟩
theorem toPointS_e (l : List (Int × Int)) (a : Option Addr) (len cap : Nat) (w : World) (hl : l.length = len) (hm : len ≤ 1048576) (hA : At w.heap.size a l w) :
    Calls Tryd.prog 12 #[.slice a len cap] w fun e w' => ∃ b, e = .returned (.slice (some ⟨b, 0, none⟩) len len) ∧ Row w.heap.size b l w' ∧ Below w.heap.size w w' := by
  refine (toPointS_c l a len cap w hl hm hA).mono ?_
  rintro e w' ⟨he, hc⟩
  exact ⟨w.heap.size, he, ⟨Nat.le_refl _, hc.row.congr fun j hj => by rw [if_pos hj]⟩, hc.below⟩
end Go.Proofs.YtegmlemejmahiaaDoor
