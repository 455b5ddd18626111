/-
  The program's two iterators over a list of points: what they hand out (contracts for the loops over them).
  Conditions: as each theorem states them.
-/
import Derived.Test.YtegmlemejmahiaaDoorHLift
namespace Go.Proofs.YtegmlemejmahiaaDoor
open Go.RowKit Go.Shelf
attribute [local go_sem] Oper.semAt_some
set_option linter.unusedVariables false
/-- A point as it is handed out. -/
def encP (p : Int × Int) : Array Value := #[.agg #[.int .i64 p.1, .int .i64 p.2]]
set_option maxRecDepth 100000 in
set_option maxHeartbeats 2000000 in
theorem fwd_stops (n : Nat) (hn : 1 ≤ n) (Bs n₀ : Nat) (a : Option Addr) (len cap : Nat) (l : List (Int × Int)) (w : World) (hl : l.length = len) (h1 : len ≤ 1048576) (hBs : Bs < n₀) (hn₀ : n₀ ≤ w.heap.size) (hc : w.cell? ⟨Bs, 0, none⟩ = some (.slice a len cap)) (hA : At n₀ a l w) :
    SeqStopsK Fence.wide n Tryd.prog 103 #[.pointer (some ⟨Bs, 0, none⟩)] encP (Below n₀) (fun ys => ys = l) (fun _ => True) len w := fun lp J Jx W hW _ _ hY h0 => by
  subst hl
  have hc' := (hW.cell (p := ⟨Bs, 0, none⟩) (by show Bs < _; omega)).trans hc
  have hA' : At n₀ a l W := fun i hi => by
    obtain ⟨b, off, e, hb, g0, g1⟩ := hA i hi
    exact ⟨b, off, e, hb, (hW.cell (p := ⟨b, _, none⟩) (by show b < _; omega)).trans g0, (hW.cell (p := ⟨b, _, none⟩) (by show b < _; omega)).trans g1⟩
  clear hc hA
  refine callsIn_of_wp Tryd.func103 rfl trivial ?_ rfl
  simp only [Tryd.ntmps103, List.size_toArray, List.length_cons, List.length_nil, Nat.reduceAdd, Nat.reduceSub, Array.replicate_succ, Array.replicate_zero, List.push_toArray, List.append_toArray, List.nil_append, List.cons_append]
  gi_wp2
  gi_loopw [3] (fun i wr => ∃ k : Nat, k ≤ l.length ∧ i = .int .i64 k ∧ J (l.take k) wr ∧ Below n₀ W wr) (fun i _ => l.length - (intOf i).toNat)
  case atStart => exact ⟨0, Nat.zero_le _, rfl, h0, Below.refl _ _⟩
  case round =>
    obtain ⟨k, hk, rfl, hJs, hnx⟩ := hrel
    have hcr := (hnx.cell (p := ⟨Bs, 0, none⟩) hBs).trans hc'
    by_cases hlt : k < l.length
    · obtain ⟨b, off, e, hb, g0, g1⟩ := hA' k hlt
      have q0 := (hnx.cell (p := ⟨b, off + k * 2, none⟩) hb).trans g0
      have q1 := (hnx.cell (p := ⟨b, off + k * 2 + 1, none⟩) hb).trans g1
      subst e
      obtain ⟨fn, tmps, assign, body, hy, hR⟩ := hY (l.take k) (px l k, py l k) wr hJs (by rw [List.length_take]; omega)
      dsimp only [encP] at hy
      clear g0 g1
      gi_wp2
      refine hR.mono ?_
      rintro e W3 (⟨rfl, hJ3, hk3⟩ | ⟨rfl, hJx3⟩)
      · gi_wp2
        go_roundw
        case rel => exact ⟨k + 1, by omega, by simp, by rw [pt_take hlt]; exact hJ3, hnx.trans hk3⟩
        case measure => simp [intOf]; omega
      · gi_wp2
        refine bodyPost_ret (results_none rfl _ _ _) rfl ?_
        exact ⟨⟨_, rfl⟩, .inr ⟨_, trivial, hJx3⟩⟩
    · obtain rfl : k = l.length := by omega
      rw [List.take_length] at hJs
      gi_wp2
      go_end0
      exact ⟨⟨_, rfl⟩, .inl ⟨_, rfl, hJs⟩⟩
set_option maxRecDepth 100000 in
set_option maxHeartbeats 2000000 in
theorem bwd_stops (n : Nat) (hn : 1 ≤ n) (Bs n₀ : Nat) (a : Option Addr) (len cap : Nat) (l : List (Int × Int)) (w : World) (hl : l.length = len) (h1 : len ≤ 1048576) (hBs : Bs < n₀) (hn₀ : n₀ ≤ w.heap.size) (hc : w.cell? ⟨Bs, 0, none⟩ = some (.slice a len cap)) (hA : At n₀ a l w) :
    SeqStopsK Fence.wide n Tryd.prog 104 #[.pointer (some ⟨Bs, 0, none⟩)] encP (Below n₀) (fun ys => ys = l.reverse) (fun _ => True) len w := fun lp J Jx W hW _ _ hY h0 => by
  subst hl
  have hc' := (hW.cell (p := ⟨Bs, 0, none⟩) (by show Bs < _; omega)).trans hc
  have hA' : At n₀ a l W := fun i hi => by
    obtain ⟨b, off, e, hb, g0, g1⟩ := hA i hi
    exact ⟨b, off, e, hb, (hW.cell (p := ⟨b, _, none⟩) (by show b < _; omega)).trans g0, (hW.cell (p := ⟨b, _, none⟩) (by show b < _; omega)).trans g1⟩
  clear hc hA
  refine callsIn_of_wp Tryd.func104 rfl trivial ?_ rfl
  simp only [Tryd.ntmps104, List.size_toArray, List.length_cons, List.length_nil, Nat.reduceAdd, Nat.reduceSub, Array.replicate_succ, Array.replicate_zero, List.push_toArray, List.append_toArray, List.nil_append, List.cons_append]
  gi_wp2
  gi_loopw [3] (fun i wr => ∃ j : Nat, j ≤ l.length ∧ i = .int .i64 ((j : Int) - 1) ∧ J (l.drop j).reverse wr ∧ Below n₀ W wr) (fun i _ => (intOf i + 1).toNat)
  case atStart =>
    refine ⟨l.length, Nat.le_refl _, ?_, by rw [List.drop_length]; exact h0, Below.refl _ _⟩
    first | rfl | (congr 1; unfold wrap64; omega) | (congr 1; rw [IntKind.wrap_i64]; omega)
  case round =>
    obtain ⟨j, hj, rfl, hJs, hnx⟩ := hrel
    have hcr := (hnx.cell (p := ⟨Bs, 0, none⟩) hBs).trans hc'
    cases j with
    | zero =>
      rw [List.drop_zero] at hJs
      gi_wp2
      go_end0
      exact ⟨⟨_, rfl⟩, .inl ⟨_, rfl, hJs⟩⟩
    | succ m =>
      have hlt : m < l.length := by omega
      have hidx : ((m + 1 : Nat) : Int) - 1 = (m : Int) := by omega
      rw [hidx]
      obtain ⟨b, off, e, hb, g0, g1⟩ := hA' m hlt
      have q0 := (hnx.cell (p := ⟨b, off + m * 2, none⟩) hb).trans g0
      have q1 := (hnx.cell (p := ⟨b, off + m * 2 + 1, none⟩) hb).trans g1
      subst e
      have hm0 : (0 : Int) ≤ (m : Int) := by omega
      have hm1 : (m : Int) < (l.length : Int) := by omega
      obtain ⟨fn, tmps, assign, body, hy, hR⟩ := hY _ (px l m, py l m) wr hJs (by rw [List.length_reverse, List.length_drop]; omega)
      dsimp only [encP] at hy
      clear g0 g1
      gi_wp2
      refine hR.mono ?_
      rintro e W3 (⟨rfl, hJ3, hk3⟩ | ⟨rfl, hJx3⟩)
      · gi_wp2
        go_roundw
        case rel => exact ⟨m, by omega, by first | rfl | go_num | (congr 1; unfold wrap64; omega), by rw [back_step hlt]; exact hJ3, hnx.trans hk3⟩
        case measure => first | (simp [intOf]; done) | (simp [intOf]; omega)
      · gi_wp2
        refine bodyPost_ret (results_none rfl _ _ _) rfl ?_
        exact ⟨⟨_, rfl⟩, .inr ⟨_, trivial, hJx3⟩⟩
theorem forward_c (a : Option Addr) (len cap : Nat) (w : World) :
    Calls Tryd.prog 84 #[.slice a len cap] w fun e w' => e = .returned (.func (.func 103) #[] #[.pointer (some ⟨w.heap.size, 0, none⟩)]) ∧ w.alloc (.cells #[.slice a len cap] 29) = w' := by
  go_enter Tryd.func84, Tryd.ntmps84
  go_wp2
  go_ret
  exact ⟨rfl, rfl⟩
theorem backward_c (a : Option Addr) (len cap : Nat) (w : World) :
    Calls Tryd.prog 85 #[.slice a len cap] w fun e w' => e = .returned (.func (.func 104) #[] #[.pointer (some ⟨w.heap.size, 0, none⟩)]) ∧ w.alloc (.cells #[.slice a len cap] 29) = w' := by
  go_enter Tryd.func85, Tryd.ntmps85
  go_wp2
  go_ret
  exact ⟨rfl, rfl⟩
end Go.Proofs.YtegmlemejmahiaaDoor
