/-
  The triangle in order (contracts for the walks).
  Conditions: as each theorem states them.
-/
import Derived.Test.YtegmlemejmahiaaDoorSrt2
namespace Go.Proofs.YtegmlemejmahiaaDoor
open Go.RowKit Go.Shelf Go.Sort
set_option linter.unusedVariables false
theorem holds6 (w : World) (ax ay bx b_y cx cy : Int) : HoldsK enc3 2 ((w.alloc (.cells #[.int .i64 ax, .int .i64 ay, .int .i64 bx, .int .i64 b_y, .int .i64 cx, .int .i64 cy] 101)).alloc (.cells #[.int .i64 0, .int .i64 0, .int .i64 0, .int .i64 0, .int .i64 0, .int .i64 0] 101)) w.heap.size 0 #[(ax, ay), (bx, b_y), (cx, cy)] := by
  intro j hj
  have hj6 : j < 6 := by simpa using hj
  have hb : RowKit.Below (w.heap.size + 1) (w.alloc (.cells #[.int .i64 ax, .int .i64 ay, .int .i64 bx, .int .i64 b_y, .int .i64 cx, .int .i64 cy] 101)) ((w.alloc (.cells #[.int .i64 ax, .int .i64 ay, .int .i64 bx, .int .i64 b_y, .int .i64 cx, .int .i64 cy] 101)).alloc (.cells #[.int .i64 0, .int .i64 0, .int .i64 0, .int .i64 0, .int .i64 0, .int .i64 0] 101)) := (RowKit.Below.refl _ _).alloc (by simp) _
  have hh : ((w.alloc (.cells #[.int .i64 ax, .int .i64 ay, .int .i64 bx, .int .i64 b_y, .int .i64 cx, .int .i64 cy] 101)).alloc (.cells #[.int .i64 0, .int .i64 0, .int .i64 0, .int .i64 0, .int .i64 0, .int .i64 0] 101)).heap[w.heap.size]? = some (.cells #[.int .i64 ax, .int .i64 ay, .int .i64 bx, .int .i64 b_y, .int .i64 cx, .int .i64 cy] 101) := (hb.block _ (by omega)).trans (heap_alloc_new _ _)
  unfold World.cell? World.frozen?
  rw [hh, get_flatK _ _ _ j (by simpa using hj6)]
  match j, hj6 with
  | 0, _ => exact ⟨rfl, rfl⟩
  | 1, _ => exact ⟨rfl, rfl⟩
  | 2, _ => exact ⟨rfl, rfl⟩
  | 3, _ => exact ⟨rfl, rfl⟩
  | 4, _ => exact ⟨rfl, rfl⟩
  | 5, _ => exact ⟨rfl, rfl⟩
theorem res6 {w w' : World} {ax ay bx b_y cx cy : Int} {r : (Int × Int) × (Int × Int) × (Int × Int)} (h : Sorted3 r w.heap.size ((w.alloc (.cells #[.int .i64 ax, .int .i64 ay, .int .i64 bx, .int .i64 b_y, .int .i64 cx, .int .i64 cy] 101)).alloc (.cells #[.int .i64 0, .int .i64 0, .int .i64 0, .int .i64 0, .int .i64 0, .int .i64 0] 101)) w') :
    w'.heap[w.heap.size + 1]? = some (.cells #[.int .i64 0, .int .i64 0, .int .i64 0, .int .i64 0, .int .i64 0, .int .i64 0] 101) ∧ RowKit.Below w.heap.size w w' := by
  constructor
  · rw [h.block _ (by simp) (by omega)]
    have := heap_alloc_new (w.alloc (.cells #[.int .i64 ax, .int .i64 ay, .int .i64 bx, .int .i64 b_y, .int .i64 cx, .int .i64 cy] 101)) (.cells #[.int .i64 0, .int .i64 0, .int .i64 0, .int .i64 0, .int .i64 0, .int .i64 0] 101)
    simpa using this
  · have hb : RowKit.Below w.heap.size w ((w.alloc (.cells #[.int .i64 ax, .int .i64 ay, .int .i64 bx, .int .i64 b_y, .int .i64 cx, .int .i64 cy] 101)).alloc (.cells #[.int .i64 0, .int .i64 0, .int .i64 0, .int .i64 0, .int .i64 0, .int .i64 0] 101)) := ((RowKit.Below.refl _ _).alloc (Nat.le_refl _) _).alloc (by simp) _
    exact hb.trans ⟨h.os, h.tape, h.output, h.size, fun k hk => h.block k (by have := hb.size; omega) (by omega)⟩
theorem cell6 {w : World} {g : Nat} {c : Array Value} {t : TypeId} (h : w.heap[g]? = some (.cells c t)) (i : Nat) : w.cell? ⟨g, i, none⟩ = c[i]? := by unfold World.cell?; rw [h]; rfl
theorem frz6 {w : World} {g : Nat} {c : Array Value} {t : TypeId} (h : w.heap[g]? = some (.cells c t)) (i : Nat) : w.frozen? ⟨g, i, none⟩ = false := by unfold World.frozen?; rw [h]; simp
set_option maxHeartbeats 2000000 in
theorem inOrder_c (ax ay bx b_y cx cy : Int) (w : World) :
    Calls Tryd.prog 112 #[.agg #[.int .i64 ax, .int .i64 ay, .int .i64 bx, .int .i64 b_y, .int .i64 cx, .int .i64 cy]] w fun e w' => e = .returned (.agg #[.int .i64 (srt3 (ax, ay) (bx, b_y) (cx, cy)).1.1, .int .i64 (srt3 (ax, ay) (bx, b_y) (cx, cy)).1.2, .int .i64 (srt3 (ax, ay) (bx, b_y) (cx, cy)).2.1.1, .int .i64 (srt3 (ax, ay) (bx, b_y) (cx, cy)).2.1.2, .int .i64 (srt3 (ax, ay) (bx, b_y) (cx, cy)).2.2.1, .int .i64 (srt3 (ax, ay) (bx, b_y) (cx, cy)).2.2.2]) ∧ RowKit.Below w.heap.size w w' := by
  go_enter Tryd.func112, Tryd.ntmps112
  go_wp2_with (go_at_call 114; refine (sort3_e (ax, ay) (bx, b_y) (cx, cy) _ _ (holds6 w ax ay bx b_y cx cy) (by simp; omega)).mono ?_; rintro e w1 ⟨rfl, hs⟩; obtain ⟨hr, hb⟩ := res6 hs; have c0 := hs.c0; have c1 := hs.c1; have c2 := hs.c2; have c3 := hs.c3; have c4 := hs.c4; have c5 := hs.c5; clear hs; have d0 : w1.cell? ⟨w.heap.size + 1, 0, none⟩ = some (.int .i64 0) := cell6 hr 0; have d1 : w1.cell? ⟨w.heap.size + 1, 1, none⟩ = some (.int .i64 0) := cell6 hr 1; have d2 : w1.cell? ⟨w.heap.size + 1, 2, none⟩ = some (.int .i64 0) := cell6 hr 2; have d3 : w1.cell? ⟨w.heap.size + 1, 3, none⟩ = some (.int .i64 0) := cell6 hr 3; have d4 : w1.cell? ⟨w.heap.size + 1, 4, none⟩ = some (.int .i64 0) := cell6 hr 4; have d5 : w1.cell? ⟨w.heap.size + 1, 5, none⟩ = some (.int .i64 0) := cell6 hr 5; have f0 := frz6 hr 0; have f1 := frz6 hr 1; have f2 := frz6 hr 2; have f3 := frz6 hr 3; have f4 := frz6 hr 4; have f5 := frz6 hr 5; have hlt := World.block_lt_of_cell? w1 _ d0; clear hr)
  (try simp only [Exit.inBlock, Exit.then])
  refine bodyPost_ret (by simp [results, Tryd.results112, go_sem, d0, d1, d2, d3, d4, d5]; try rfl) rfl ?_
  exact ⟨rfl, by go_grown⟩
end Go.Proofs.YtegmlemejmahiaaDoor
