/-
  For every two numbers, impl.MulWide tells what the specification's MulWide tells, returns, and leaves its arguments as they were.
  Conditions: the package-level table 'loop.example/g00780/impl.bounds' holds what the program's own text lays in it (the card ties it); none beyond it.
-/
import Derived.Test.YtbmfiphfobbfcaoDoorCards
import Derived.Test.YtbmfiphfobbfcaoDoorTie
import Derived.WalkKit
import Derived.ProofKit
import Derived.OpenShut
import Derived.Lib.SmallJoins
import Derived.Handy
import Derived.Deep.DeepHandedRow
import Derived.Lib.LaidTab
import Derived.WalkSmall
import Derived.WalkSpells
import Derived.Test.YtbmfiphfobbfcaoDoorMul
namespace Go.Proofs.YtbmfiphfobbfcaoDoor.fnExactMulWide
open Go.ChangeShapes Go.WideShapes Go.ChangeAt Go.RowKit Go.Joins
set_option linter.unusedVariables false
theorem laidOut : laidOutB Tryd.prog = true := by kernel_rfl
theorem own : ownKnob Tryd.prog.godebug = none := by kernel_rfl
theorem gTab : Tryd.prog.globalNamed "loop.example/g00780/impl.bounds" = some 0 := by kernel_rfl
theorem gTabType : (Tryd.prog.globals[0]?).map (·.type) = some 48 := by kernel_rfl
theorem tabCells : Tryd.prog.cellsOf 48 = 3 := by kernel_rfl
theorem elemCells : Tryd.prog.cellsOf 3 = 1 := by kernel_rfl
theorem table {W : World} (h : laidMetH Tryd.prog Rows.fnExactMulWideRow.laid W) : Lib.TabIs Tryd.prog W "loop.example/g00780/impl.bounds" .i64 [1000000, 1099511627776, 4398046511104] :=
  Lib.tabIs_of_head (rest := []) gTab gTabType Tryd.underlying48 Tryd.underlying3 elemCells tabCells h
set_option maxHeartbeats 1000000 in
theorem l1MulWide_c (x y : Int) (bx : -4611686018427387904 ≤ x) (bx' : x ≤ 4611686018427387904) (b_y : -4611686018427387904 ≤ y) (b_y' : y ≤ 4611686018427387904) (w : World) :
    Calls Tryd.prog 24 #[.int .i64 x, .int .i64 y] w fun e w' => e = .returned (.agg #[.int .i64 (mulHi x y), .int .u64 (mulLo x y)]) ∧ Below w.heap.size w w' := by
  obtain ⟨hi, lo, hc, hhi, hlo⟩ := l1mulE (absI x) (absI y) (abs_lo _) (abs_hi _ bx bx') (abs_lo _) (abs_hi _ b_y b_y')
  have l0 : 0 ≤ lo := by have := hlo.out; omega
  have l1 : lo ≤ 18446744073709551615 := by have := hlo.out; omega
  have hc' := hid hc
  clear hc
  by_cases hx : x < 0
  · by_cases hy : y < 0
    · obtain ⟨e1, e2⟩ := spec_same ⟨fun _ => hy, fun _ => hx⟩ hhi.out hlo.out
      have E1 := hid e1
      have E2 := hid e2
      clear e1 e2 hhi hlo
      go_enter Tryd.func24, Tryd.ntmps24
      go_wp2_with (first | (go_at_call 30; refine (abs_c _ ?_ ?_ _).mono ?_; omega; omega; rintro e w' ⟨rfl, rfl⟩) | (go_at_call 29; refine (hc'.out _).mono ?_; rintro e w' ⟨rfl, rfl⟩))
      go_returns
      exact ⟨ret_pair E1.out E2.out, by go_grown⟩
    · obtain ⟨e1, e2⟩ := spec_other (fun h => hy (h.1 hx)) hhi.out hlo.out
      have dy : decide (y < 0) = false := decide_eq_false hy
      have E1 := hid e1
      have E2 := hid e2
      clear e1 e2 hhi hlo
      go_enter Tryd.func24, Tryd.ntmps24
      go_wp2_with (first | (go_at_call 30; refine (abs_c _ ?_ ?_ _).mono ?_; omega; omega; rintro e w' ⟨rfl, rfl⟩) | (go_at_call 29; refine (hc'.out _).mono ?_; rintro e w' ⟨rfl, rfl⟩) | (go_at_call 31; refine (subSpec_c _ _ _ _ _ ?_ ?_ ?_ ?_).mono ?_; omega; omega; omega; omega; rintro e w' ⟨rfl, hb⟩; have hc0 : w'.cell? ⟨w.heap.size, 0, none⟩ = some (.int .i64 0) := (hb.cell (by go_size)).trans (by go_simp); have hc1 : w'.cell? ⟨w.heap.size, 1, none⟩ = some (.int .u64 0) := (hb.cell (by go_size)).trans (by go_simp); have hf0 : w'.frozen? ⟨w.heap.size, 0, none⟩ = false := (hb.frozen (by go_size)).trans (by go_simp); have hf1 : w'.frozen? ⟨w.heap.size, 1, none⟩ = false := (hb.frozen (by go_size)).trans (by go_simp)))
      refine bodyPost_ret (v := .agg #[.int .i64 (subHi 0 0 (wrap64 hi) lo), .int .u64 (subLo 0 lo)]) (by simp [results, Tryd.results24, go_sem, hc0, hc1]) rfl ⟨ret_pair E1.out E2.out, ?_⟩
      exact (by go_grown : Below w.heap.size w _).trans (((hb.mono (by go_size)).setCell (by go_size) _).setCell (by go_size) _)
  · by_cases hy : y < 0
    · obtain ⟨e1, e2⟩ := spec_other (fun h => hx (h.2 hy)) hhi.out hlo.out
      have dx : decide (x < 0) = false := decide_eq_false hx
      have E1 := hid e1
      have E2 := hid e2
      clear e1 e2 hhi hlo
      go_enter Tryd.func24, Tryd.ntmps24
      go_wp2_with (first | (go_at_call 30; refine (abs_c _ ?_ ?_ _).mono ?_; omega; omega; rintro e w' ⟨rfl, rfl⟩) | (go_at_call 29; refine (hc'.out _).mono ?_; rintro e w' ⟨rfl, rfl⟩) | (go_at_call 31; refine (subSpec_c _ _ _ _ _ ?_ ?_ ?_ ?_).mono ?_; omega; omega; omega; omega; rintro e w' ⟨rfl, hb⟩; have hc0 : w'.cell? ⟨w.heap.size, 0, none⟩ = some (.int .i64 0) := (hb.cell (by go_size)).trans (by go_simp); have hc1 : w'.cell? ⟨w.heap.size, 1, none⟩ = some (.int .u64 0) := (hb.cell (by go_size)).trans (by go_simp); have hf0 : w'.frozen? ⟨w.heap.size, 0, none⟩ = false := (hb.frozen (by go_size)).trans (by go_simp); have hf1 : w'.frozen? ⟨w.heap.size, 1, none⟩ = false := (hb.frozen (by go_size)).trans (by go_simp)))
      refine bodyPost_ret (v := .agg #[.int .i64 (subHi 0 0 (wrap64 hi) lo), .int .u64 (subLo 0 lo)]) (by simp [results, Tryd.results24, go_sem, hc0, hc1]) rfl ⟨ret_pair E1.out E2.out, ?_⟩
      exact (by go_grown : Below w.heap.size w _).trans (((hb.mono (by go_size)).setCell (by go_size) _).setCell (by go_size) _)
    · obtain ⟨e1, e2⟩ := spec_same ⟨fun h => absurd h hx, fun h => absurd h hy⟩ hhi.out hlo.out
      have dx : decide (x < 0) = false := decide_eq_false hx
      have dy : decide (y < 0) = false := decide_eq_false hy
      have E1 := hid e1
      have E2 := hid e2
      clear e1 e2 hhi hlo
      go_enter Tryd.func24, Tryd.ntmps24
      go_wp2_with (first | (go_at_call 30; refine (abs_c _ ?_ ?_ _).mono ?_; omega; omega; rintro e w' ⟨rfl, rfl⟩) | (go_at_call 29; refine (hc'.out _).mono ?_; rintro e w' ⟨rfl, rfl⟩))
      go_returns
      exact ⟨ret_pair E1.out E2.out, by go_grown⟩
def wideB (n : Int) : Bool := decide (-4398046511104 ≤ n ∧ n ≤ 4398046511104)
theorem l1Wide_c (n : Int) (w : World) : Calls Tryd.prog 23 #[.int .i64 n] w fun e w' => e = .returned (.bool (wideB n)) ∧ w = w' := by
  by_cases h1 : -4398046511104 ≤ n
  · by_cases h2 : n ≤ 4398046511104
    · have e : wideB n = true := decide_eq_true (by omega)
      go_enter Tryd.func23, Tryd.ntmps23
      go_wp2
      go_ret
      exact ⟨by first | rfl | (rw [e]; rfl), rfl⟩
    · have e : wideB n = false := decide_eq_false (by omega)
      go_enter Tryd.func23, Tryd.ntmps23
      go_wp2
      go_ret
      exact ⟨by first | rfl | (rw [e]; rfl), rfl⟩
  · have e : wideB n = false := decide_eq_false (by omega)
    go_enter Tryd.func23, Tryd.ntmps23
    go_wp2
    go_ret
    exact ⟨by first | rfl | (rw [e]; rfl), rfl⟩
theorem inB2_c (n : Int) (w : World) (c2 : w.cell? ⟨0, 2, none⟩ = some (.int .i64 4398046511104)) : Calls Tryd.prog 25 #[.int .i64 n, .int .i64 2] w fun e w' => e = .returned (.bool (wideB n)) ∧ w = w' := by
  have hz : 0 < w.heap.size := World.block_lt_of_cell? w _ c2
  by_cases h1 : -4398046511104 ≤ n
  · by_cases h2 : n ≤ 4398046511104
    · have e : wideB n = true := decide_eq_true (by omega)
      go_enter Tryd.func25, Tryd.ntmps25
      go_wp2
      go_ret
      exact ⟨by first | rfl | (rw [e]; rfl), rfl⟩
    · have e : wideB n = false := decide_eq_false (by omega)
      go_enter Tryd.func25, Tryd.ntmps25
      go_wp2
      go_ret
      exact ⟨by first | rfl | (rw [e]; rfl), rfl⟩
  · have e : wideB n = false := decide_eq_false (by omega)
    go_enter Tryd.func25, Tryd.ntmps25
    go_wp2
    go_ret
    exact ⟨by first | rfl | (rw [e]; rfl), rfl⟩
theorem wideB_b {n : Int} (h : wideB n = true) : -4398046511104 ≤ n ∧ n ≤ 4398046511104 := of_decide_eq_true h
def mwOk (x y : Int) : Bool := wideB x && wideB y
def mwHi (x y : Int) : Int := if mwOk x y then mulHi x y else 0
def mwLo (x y : Int) : Int := if mwOk x y then mulLo x y else 0
theorem ret_pb {a b c d : Int} {e f : Bool} (h : a = c) (k : b = d) (g : e = f) : Ending.returned (.tuple #[.agg #[.int .i64 a, .int .u64 b], .bool e]) = .returned (.tuple #[.agg #[.int .i64 c, .int .u64 d], .bool f]) := by rw [h, k, g]
set_option maxHeartbeats 1000000 in
theorem mulWideSpec_c (x y : Int) (w : World) : Calls Tryd.prog 14 #[.int .i64 x, .int .i64 y] w fun e w' => e = .returned (.tuple #[.agg #[.int .i64 (mwHi x y), .int .u64 (mwLo x y)], .bool (mwOk x y)]) ∧ Below w.heap.size w w' := by
  cases hX : wideB x
  · have e0 : mwOk x y = false := by simp [mwOk, hX]
    have e1 : mwHi x y = 0 := by unfold mwHi; rw [e0]; rfl
    have e2 : mwLo x y = 0 := by unfold mwLo; rw [e0]; rfl
    have E := hid (And.intro e0 (And.intro e1 e2))
    clear e0 e1 e2
    go_enter Tryd.func14, Tryd.ntmps14
    go_wp2_with (first | (go_at_call 23; refine (l1Wide_c _ _).mono ?_; rintro e w' ⟨rfl, rfl⟩) | (go_at_call 24; refine (l1MulWide_c _ _ ?_ ?_ ?_ ?_ _).mono ?_; omega; omega; omega; omega; rintro e w' ⟨rfl, hb⟩; have hc0 : w'.cell? ⟨w.heap.size, 0, none⟩ = some (.int .i64 0) := (hb.cell (by go_size)).trans (by go_simp); have hc1 : w'.cell? ⟨w.heap.size, 1, none⟩ = some (.int .u64 0) := (hb.cell (by go_size)).trans (by go_simp); have hf0 : w'.frozen? ⟨w.heap.size, 0, none⟩ = false := (hb.frozen (by go_size)).trans (by go_simp); have hf1 : w'.frozen? ⟨w.heap.size, 1, none⟩ = false := (hb.frozen (by go_size)).trans (by go_simp)))
    go_returns
    exact ⟨ret_pb E.out.2.1.symm E.out.2.2.symm E.out.1.symm, by go_grown⟩
  · cases hY : wideB y
    · have e0 : mwOk x y = false := by simp [mwOk, hX, hY]
      have e1 : mwHi x y = 0 := by unfold mwHi; rw [e0]; rfl
      have e2 : mwLo x y = 0 := by unfold mwLo; rw [e0]; rfl
      have E := hid (And.intro e0 (And.intro e1 e2))
      clear e0 e1 e2
      go_enter Tryd.func14, Tryd.ntmps14
      go_wp2_with (first | (go_at_call 23; refine (l1Wide_c _ _).mono ?_; rintro e w' ⟨rfl, rfl⟩) | (go_at_call 24; refine (l1MulWide_c _ _ ?_ ?_ ?_ ?_ _).mono ?_; omega; omega; omega; omega; rintro e w' ⟨rfl, hb⟩; have hc0 : w'.cell? ⟨w.heap.size, 0, none⟩ = some (.int .i64 0) := (hb.cell (by go_size)).trans (by go_simp); have hc1 : w'.cell? ⟨w.heap.size, 1, none⟩ = some (.int .u64 0) := (hb.cell (by go_size)).trans (by go_simp); have hf0 : w'.frozen? ⟨w.heap.size, 0, none⟩ = false := (hb.frozen (by go_size)).trans (by go_simp); have hf1 : w'.frozen? ⟨w.heap.size, 1, none⟩ = false := (hb.frozen (by go_size)).trans (by go_simp)))
      go_returns
      exact ⟨ret_pb E.out.2.1.symm E.out.2.2.symm E.out.1.symm, by go_grown⟩
    · have e0 : mwOk x y = true := by simp [mwOk, hX, hY]
      have e1 : mwHi x y = mulHi x y := by unfold mwHi; rw [e0]; rfl
      have e2 : mwLo x y = mulLo x y := by unfold mwLo; rw [e0]; rfl
      obtain ⟨bx, bx'⟩ := wideB_b hX
      obtain ⟨b_y, b_y'⟩ := wideB_b hY
      have E := hid (And.intro e0 (And.intro e1 e2))
      clear e0 e1 e2
      go_enter Tryd.func14, Tryd.ntmps14
      go_wp2_with (first | (go_at_call 23; refine (l1Wide_c _ _).mono ?_; rintro e w' ⟨rfl, rfl⟩) | (go_at_call 24; refine (l1MulWide_c _ _ ?_ ?_ ?_ ?_ _).mono ?_; omega; omega; omega; omega; rintro e w' ⟨rfl, hb⟩; have hc0 : w'.cell? ⟨w.heap.size, 0, none⟩ = some (.int .i64 0) := (hb.cell (by go_size)).trans (by go_simp); have hc1 : w'.cell? ⟨w.heap.size, 1, none⟩ = some (.int .u64 0) := (hb.cell (by go_size)).trans (by go_simp); have hf0 : w'.frozen? ⟨w.heap.size, 0, none⟩ = false := (hb.frozen (by go_size)).trans (by go_simp); have hf1 : w'.frozen? ⟨w.heap.size, 1, none⟩ = false := (hb.frozen (by go_size)).trans (by go_simp)))
      refine bodyPost_ret (v := .tuple #[.agg #[.int .i64 (mulHi x y), .int .u64 (mulLo x y)], .bool true]) (by simp [results, Tryd.results14, go_sem, hc0, hc1]) rfl ⟨ret_pb E.out.2.1.symm E.out.2.2.symm E.out.1.symm, ?_⟩
      exact (by go_grown : Below w.heap.size w _).trans (((hb.mono (by go_size)).setCell (by go_size) _).setCell (by go_size) _)
set_option maxHeartbeats 1000000 in
theorem mulWideImpl_c (x y : Int) (w : World) (c2 : w.cell? ⟨0, 2, none⟩ = some (.int .i64 4398046511104)) : Calls Tryd.prog 15 #[.int .i64 x, .int .i64 y] w fun e w' => e = .returned (.tuple #[.agg #[.int .i64 (mwHi x y), .int .u64 (mwLo x y)], .bool (mwOk x y)]) ∧ Below w.heap.size w w' := by
  have C2 := hid c2
  clear c2
  cases hX : wideB x
  · have e0 : mwOk x y = false := by simp [mwOk, hX]
    have e1 : mwHi x y = 0 := by unfold mwHi; rw [e0]; rfl
    have e2 : mwLo x y = 0 := by unfold mwLo; rw [e0]; rfl
    have E := hid (And.intro e0 (And.intro e1 e2))
    clear e0 e1 e2
    go_enter Tryd.func15, Tryd.ntmps15
    go_wp2_with (first | (go_at_call 25; refine (inB2_c _ _ ?_).mono ?_; exact cell_later (by go_grown : Below w.heap.size w _) C2.out; rintro e w' ⟨rfl, rfl⟩) | (go_at_call 26; refine (product_c _ _ ?_ ?_ ?_ ?_ _).mono ?_; omega; omega; omega; omega; rintro e w' ⟨rfl, hb⟩; have hc0 : w'.cell? ⟨w.heap.size, 0, none⟩ = some (.int .i64 0) := (hb.cell (by go_size)).trans (by go_simp); have hc1 : w'.cell? ⟨w.heap.size, 1, none⟩ = some (.int .u64 0) := (hb.cell (by go_size)).trans (by go_simp); have hf0 : w'.frozen? ⟨w.heap.size, 0, none⟩ = false := (hb.frozen (by go_size)).trans (by go_simp); have hf1 : w'.frozen? ⟨w.heap.size, 1, none⟩ = false := (hb.frozen (by go_size)).trans (by go_simp)))
    go_returns
    exact ⟨ret_pb E.out.2.1.symm E.out.2.2.symm E.out.1.symm, by go_grown⟩
  · cases hY : wideB y
    · have e0 : mwOk x y = false := by simp [mwOk, hX, hY]
      have e1 : mwHi x y = 0 := by unfold mwHi; rw [e0]; rfl
      have e2 : mwLo x y = 0 := by unfold mwLo; rw [e0]; rfl
      have E := hid (And.intro e0 (And.intro e1 e2))
      clear e0 e1 e2
      go_enter Tryd.func15, Tryd.ntmps15
      go_wp2_with (first | (go_at_call 25; refine (inB2_c _ _ ?_).mono ?_; exact cell_later (by go_grown : Below w.heap.size w _) C2.out; rintro e w' ⟨rfl, rfl⟩) | (go_at_call 26; refine (product_c _ _ ?_ ?_ ?_ ?_ _).mono ?_; omega; omega; omega; omega; rintro e w' ⟨rfl, hb⟩; have hc0 : w'.cell? ⟨w.heap.size, 0, none⟩ = some (.int .i64 0) := (hb.cell (by go_size)).trans (by go_simp); have hc1 : w'.cell? ⟨w.heap.size, 1, none⟩ = some (.int .u64 0) := (hb.cell (by go_size)).trans (by go_simp); have hf0 : w'.frozen? ⟨w.heap.size, 0, none⟩ = false := (hb.frozen (by go_size)).trans (by go_simp); have hf1 : w'.frozen? ⟨w.heap.size, 1, none⟩ = false := (hb.frozen (by go_size)).trans (by go_simp)))
      go_returns
      exact ⟨ret_pb E.out.2.1.symm E.out.2.2.symm E.out.1.symm, by go_grown⟩
    · have e0 : mwOk x y = true := by simp [mwOk, hX, hY]
      have e1 : mwHi x y = mulHi x y := by unfold mwHi; rw [e0]; rfl
      have e2 : mwLo x y = mulLo x y := by unfold mwLo; rw [e0]; rfl
      obtain ⟨bx, bx'⟩ := wideB_b hX
      obtain ⟨b_y, b_y'⟩ := wideB_b hY
      have E := hid (And.intro e0 (And.intro e1 e2))
      clear e0 e1 e2
      go_enter Tryd.func15, Tryd.ntmps15
      go_wp2_with (first | (go_at_call 25; refine (inB2_c _ _ ?_).mono ?_; exact cell_later (by go_grown : Below w.heap.size w _) C2.out; rintro e w' ⟨rfl, rfl⟩) | (go_at_call 26; refine (product_c _ _ ?_ ?_ ?_ ?_ _).mono ?_; omega; omega; omega; omega; rintro e w' ⟨rfl, hb⟩; have hc0 : w'.cell? ⟨w.heap.size, 0, none⟩ = some (.int .i64 0) := (hb.cell (by go_size)).trans (by go_simp); have hc1 : w'.cell? ⟨w.heap.size, 1, none⟩ = some (.int .u64 0) := (hb.cell (by go_size)).trans (by go_simp); have hf0 : w'.frozen? ⟨w.heap.size, 0, none⟩ = false := (hb.frozen (by go_size)).trans (by go_simp); have hf1 : w'.frozen? ⟨w.heap.size, 1, none⟩ = false := (hb.frozen (by go_size)).trans (by go_simp)))
      refine bodyPost_ret (v := .tuple #[.agg #[.int .i64 (mulHi x y), .int .u64 (mulLo x y)], .bool true]) (by simp [results, Tryd.results15, go_sem, hc0, hc1]) rfl ⟨ret_pb E.out.2.1.symm E.out.2.2.symm E.out.1.symm, ?_⟩
      exact (by go_grown : Below w.heap.size w _).trans (((hb.mono (by go_size)).setCell (by go_size) _).setCell (by go_size) _)
theorem eqPair_c (x y : Int) (w : World) :
    Calls Tryd.prog 16 #[.agg #[.int .i64 x, .int .u64 y], .agg #[.int .i64 x, .int .u64 y]] w fun e w' => e = .returned (.bool true) ∧ Below w.heap.size w w' := by
  go_enter Tryd.func16, Tryd.ntmps16
  go_wp2
  go_ret
  exact ⟨rfl, by go_grown⟩
theorem walk (a0 a1 : Int) (wa0 : (Lit.int .i64 a0).wf = true) (wa1 : (Lit.int .i64 a1).wf = true) (w : World) (c0 : w.cell? ⟨0, 0, none⟩ = some (.int .i64 1000000)) (c1 : w.cell? ⟨0, 1, none⟩ = some (.int .i64 1099511627776)) (c2 : w.cell? ⟨0, 2, none⟩ = some (.int .i64 4398046511104)) :
    Calls Tryd.prog 6 #[.int .i64 a0, .int .i64 a1] w fun e w' => e = .returned (.bool true) ∧ Below w.heap.size w w' := by
  have C2 := hid c2
  clear c0 c1 c2 wa0 wa1
  go_enter Tryd.func6, Tryd.ntmps6
  go_wp2_with (first | (go_at_call 14; refine (mulWideSpec_c _ _ _).mono ?_; rintro e w1 ⟨rfl, hb1⟩; have hz1 := hb1.size) | (go_at_call 15; refine (mulWideImpl_c _ _ _ ?_).mono ?_; exact cell_later (by go_grown : Below w.heap.size w _) C2.out; rintro e w2 ⟨rfl, hb2⟩; have k0 : ∀ o, (w2.alloc o).cell? ⟨w1.heap.size, 0, none⟩ = some (.int .i64 (mwHi a0 a1)) := fun o => cell_later ((Below.refl _ _).alloc (Nat.le_refl _) o) ((hb2.cell (by go_size)).trans (by go_simp)); have k1 : ∀ o, (w2.alloc o).cell? ⟨w1.heap.size, 1, none⟩ = some (.int .u64 (mwLo a0 a1)) := fun o => cell_later ((Below.refl _ _).alloc (Nat.le_refl _) o) ((hb2.cell (by go_size)).trans (by go_simp)); have hz2 : w1.heap.size + 1 ≤ w2.heap.size := (by have := hb2.size; simp only [World.size_alloc] at this; exact this); have ht2 : Hid (Below w.heap.size w w2) := (by go_grown : Below w.heap.size w _).trans (hb2.mono (by go_size))) | (go_at_call 16; refine (eqPair_c _ _ _).mono ?_; rintro e w3 ⟨rfl, hb3⟩))
  go_ret
  have ht := ht2.out
  exact ⟨rfl, (by go_grown : Below w.heap.size w _).trans (hb3.mono (by go_size))⟩

theorem contract (H : Type) (enc : TypeId × Value → H) (W : World) (base : Nat) (args : Array Value) (ds gs : List (DataW H)) (before : List MemPlace)
    (hval0 : ∀ (j : Nat) t v, Tryd.f6.params[j]? = some t → args[j]? = some v → Value.okWide Tryd.prog W .any base t v)
    (hW : DataW.Whole enc Tryd.prog Tryd.f6.params.toList Rows.fnExactMulWideSpec.vars false W args.toList ds gs before) (hL : laidMetH Tryd.prog Rows.fnExactMulWideRow.laid W) :
    Calls Tryd.prog 6 args W fun e W' => ∃ v, e = .returned v ∧ Rows.fnExactMulWideSpec.post enc Tryd.prog Tryd.f6 false true false false W args v W' := by
  have hval : ∀ (j : Nat) t v, Tryd.f6.params[j]? = some t → args[j]? = some v → Value.okWide Tryd.prog W .any base t v := hval0
  have hW' := hW
  obtain ⟨p, q, hA0, hV, rfl, hfz, hnd⟩ := hW
  have hA : DataW.TrodAll enc Tryd.prog W 0 (fun _ => true) true Tryd.f6.params.toList args.toList ds p := hA0
  rw [Tryd.params6] at hA hval
  obtain ⟨v0, vs0, d0, ds0, p0, q0, hargs, rfl, rfl, h0, r0⟩ := trodAll_cons hA
  obtain ⟨v1, vs1, d1, ds1, p1, q1, rfl, rfl, rfl, h1, r1⟩ := trodAll_cons r0
  obtain ⟨rfl, rfl, rfl⟩ := trodAll_nil r1
  obtain rfl : args = #[v0, v1] := by cases args; simp_all
  obtain ⟨g, t, cs, fuel, dV, pV, rfl, hgv, htv, hvar, hdV, rfl⟩ := trodVars_one hV
  obtain rfl := Option.some.inj (gTab.symm.trans hgv)
  obtain rfl := Option.some.inj (gTabType.symm.trans htv)
  obtain ⟨a0, rfl, rfl, rfl, wa0⟩ := open_int Tryd.underlying3 (hval 0 3 v0 rfl rfl) h0
  obtain ⟨a1, rfl, rfl, rfl, wa1⟩ := open_int Tryd.underlying3 (hval 1 3 v1 rfl rfl) h1
  clear hA0 hval0
  simp only [List.append_nil, List.nil_append] at hW'
  have c0 : W.cell? ⟨0, 0, none⟩ = some (.int .i64 1000000) := (table hL).cell gTab 0 (by decide)
  have c1 : W.cell? ⟨0, 1, none⟩ = some (.int .i64 1099511627776) := (table hL).cell gTab 1 (by decide)
  have c2 : W.cell? ⟨0, 2, none⟩ = some (.int .i64 4398046511104) := (table hL).cell gTab 2 (by decide)
  refine (walk a0 a1 wa0 wa1 W c0 c1 c2).mono fun e W' ⟨he, hg⟩ => ?_
  subst he
  have hltv : ∀ x ∈ pV, x.block < W.heap.size := fun x hx => hW'.lt x (List.mem_append_right _ hx)
  obtain ⟨fuel', hd'⟩ := Below.trod laidOut (by kernel_rfl) (of_decide_eq_true (by kernel_rfl)) (v := .agg cs) (⟨fuel, by simpa [Value.cells] using hdV⟩ : DataW.Trod enc Tryd.prog W 0 (fun _ => true) true 48 (.agg cs) dV pV) hg hltv
  have hv' := trodVars_mk1 (enc := enc) (spare := fun b => decide (b < W.heap.size)) gTab gTabType (var?_below hg gTab (World.block_lt_of_cell? W _ c0) hvar) (by simpa [Value.cells] using hd')
  exact ⟨_, rfl, _, _, _, [], [], (MemPlace.row ⟨0, 0, none⟩ cs.size ++ pV), hW', trodAll_mk1 (shut_bool Tryd.underlying4 _), (trodAll_cons_mk (shut_int Tryd.underlying3 wa0) (trodAll_cons_mk (shut_int Tryd.underlying3 wa1) trodAll_mk0)), hv', hg.frame _, fun h => by cases h⟩
theorem laid_met (os : Os) : laidMet Tryd.prog Rows.fnExactMulWideRow.laid (({ World.holding Tryd.prog os ⟨#[], #[], []⟩ with heap := (World.holding Tryd.prog os ⟨#[], #[], []⟩).heap.setIfInBounds 0 (.cells #[.int .i64 1000000, .int .i64 1099511627776, .int .i64 4398046511104] 48) } : World).forCall (fun _ _ => 0) ⟨#[], #[.int .i64 0, .int .i64 0], []⟩).memory :=
  laidMet_of_run' 8 (by kernel_rfl) (by kernel_rfl)
theorem reads (os : Os) {H : Type} (enc : TypeId × Value → H) : ∃ places, DataW.whole enc Tryd.prog (({ World.holding Tryd.prog os ⟨#[], #[], []⟩ with heap := (World.holding Tryd.prog os ⟨#[], #[], []⟩).heap.setIfInBounds 0 (.cells #[.int .i64 1000000, .int .i64 1099511627776, .int .i64 4398046511104] 48) } : World).forCall (fun _ _ => 0) ⟨#[], #[.int .i64 0, .int .i64 0], []⟩).memory Tryd.f6.params.toList Rows.fnExactMulWideSpec.vars false (#[.int .i64 0, .int .i64 0] : Array Value).toList 8 = some ([.lit (.int .i64 0), .lit (.int .i64 0)], [.agg [.lit (.int .i64 1000000), .lit (.int .i64 1099511627776), .lit (.int .i64 4398046511104)]], places) :=
  ⟨[.cell 0 0, .cell 0 1, .cell 0 2], by kernel_rfl⟩
set_option maxRecDepth 100000 in
theorem lifted (os : Os) (started : os.Started) (H : Type) (enc : TypeId × Value → H) (F : Stop.Interp) :
    ReturnsInHanded {} Tryd.checked os 6 .any ((OpenSpec.ofChange Rows.fnExactMulWideSpec).preRow enc Tryd.prog Tryd.f6 Rows.fnExactMulWideRow.domain false Rows.fnExactMulWideRow.laid) (((OpenSpec.ofChange Rows.fnExactMulWideSpec).at F).post enc Tryd.prog Tryd.f6 false true false false) := by
  obtain ⟨places, hx⟩ := reads os enc
  refine returnsInHanded_of_row (C := Tryd.checked) (s := OpenSpec.ofChange Rows.fnExactMulWideSpec) own started (by kernel_rfl) Tryd.func6
    (witness_row_at (enc := enc) (C := Tryd.checked) false ({ World.holding Tryd.prog os ⟨#[], #[], []⟩ with heap := (World.holding Tryd.prog os ⟨#[], #[], []⟩).heap.setIfInBounds 0 (.cells #[.int .i64 1000000, .int .i64 1099511627776, .int .i64 4398046511104] 48) } : World) #[.int .i64 0, .int .i64 0] rfl (by kernel_rfl) (by kernel_rfl) (by kernel_rfl)
      (OpenSpec.preRow_of_cond 8 hx (by kernel_rfl) (fun k hk => by cases hk) (by kernel_rfl) (laid_met os))) ?_
  intro W base args ds gs before hval hW _ _ _ hL _ _
  exact contract H enc W base args ds gs before hval hW hL
theorem said : Rows.FnExactMulWideSaid :=
  OpenClaim.holds_of_cond 6 Tryd.f6 rfl rfl rfl rfl rfl rfl rfl ⟨rfl, rfl, rfl, rfl, rfl⟩ rfl rfl rfl rfl rfl (by kernel_rfl) Tryd.func6 (by kernel_rfl)
    (of_decide_eq_true (by kernel_rfl)) (by unfold Func.isWrapper; first | (rw [if_pos (by decide +kernel)]; kernel_rfl) | (rw [if_neg (by decide +kernel)]; exact ⟨rfl, rfl⟩))
    (fun os started H enc _ F => by rw [OpenClaim.pre_eq_preRow]; exact lifted os started H enc F)
theorem plain (f : FuncId) (fn : Func) (hf : Tryd.pinned.checked.prog.funcNamed "loop.example/g00780/laws.FnExactMulWide" = some f) (hfn : Tryd.pinned.checked.prog.funcs[f]? = some fn) :
    false = Tryd.pinned.checked.prog.looks [] ∧ ∀ (j : Nat) t, fn.params[j]? = some t → Tryd.pinned.checked.prog.wantsStandIn t = false := by
  obtain rfl : f = 6 := Option.some.inj ((show Tryd.prog.funcNamed "loop.example/g00780/laws.FnExactMulWide" = some 6 by kernel_rfl).symm.trans hf) |>.symm
  obtain rfl : fn = Tryd.f6 := (Option.some.inj (Tryd.func6.symm.trans hfn)).symm
  refine ⟨by kernel_rfl, fun j t ht => ?_⟩
  rw [Tryd.params6] at ht
  have hm : t ∈ [3, 3] := by simpa using Array.mem_of_getElem? ht
  have hall : ([3, 3].all fun u => !Tryd.prog.wantsStandIn u) = true := by kernel_rfl
  exact (show Tryd.prog.wantsStandIn t = false by simpa using List.all_eq_true.1 hall t hm)
theorem card : Rows.FnExactMulWideCardSaid :=
  Claim7.holds_tied_plain_at .later [] _ _ _ _ said (fun _ h => by cases h) (by kernel_rfl) (fun _ h => by cases h) fnExactMulWide_row_tie rfl ⟨rfl, rfl⟩ (by kernel_rfl) rfl plain (by kernel_rfl)
end Go.Proofs.YtbmfiphfobbfcaoDoor.fnExactMulWide
namespace Go.Proofs.YtbmfiphfobbfcaoDoor
theorem fnExactMulWide_holds : Rows.FnExactMulWideCardSaid := fnExactMulWide.card
#print axioms fnExactMulWide_holds
end Go.Proofs.YtbmfiphfobbfcaoDoor
