/-
  The draw of the law of depths (contracts for the walks).
  Conditions: as each theorem states them.
-/
import Derived.Test.YtipiamhnngmjmaaDoorDrNear
namespace Go.Proofs.YtipiamhnngmjmaaDoor
open Go.RowKit
set_option linter.unusedVariables false
theorem Bytes.mono {N N' : Nat} {a : Option Addr} {len : Nat} {w : World} (h : Bytes N a len w) (hN : N ≤ N') : Bytes N' a len w := fun i hi => by
  obtain ⟨blk, off, z, e, hb, hc, h0, h1⟩ := h i hi
  exact ⟨blk, off, z, e, Nat.lt_of_lt_of_le hb hN, hc, h0, h1⟩
/-- A new cursor is ready. -/
theorem rd_new (N b : Nat) (a : Option Addr) (len cap : Nat) (U : World) (hB : Bytes N a len U) (hl : len ≤ 1048576) (hN : N ≤ b) (hb : U.heap.size = b) :
    Rd N b 0 (U.alloc (.cells #[.slice a len cap, .int .i64 0, .int .u64 0] 82)) := by
  subst hb
  refine ⟨a, len, cap, 0, ⟨?_, ?_, ⟨0, ?_, by omega, by omega⟩, ?_, ?_⟩, hB.below ((Below.refl _ _).alloc (Nat.le_refl _) _), hN, hl, Nat.le_refl _⟩
  · simp [go_sem]
  · simp [go_sem]
  · simp [go_sem]
  · simp [go_sem]
  · simp [go_sem]
set_option maxHeartbeats 4000000 in
set_option maxRecDepth 8000 in
theorem drawDepth_c (a : Option Addr) (len cap : Nat) (w : World) (hB : Bytes w.heap.size a len w) (hl : len ≤ 1048576) :
    Calls Tryd.prog 69 #[.slice a len cap] w fun e w' => ∃ v x y, e = .returned (.tuple #[v, .agg #[.int .i64 x, .int .i64 y]]) ∧ ∃ l, Own w.heap.size v l w' ∧ l.length ≤ 13 ∧ Below w.heap.size w w' := by
  have hR0 : Rd w.heap.size (w.heap.size + 1) 0 ((w.alloc (.cells #[.int .i64 0, .int .i64 0] 26)).alloc (.cells #[.slice a len cap, .int .i64 0, .int .u64 0] 82)) := rd_new w.heap.size (w.heap.size + 1) a len cap (w.alloc (.cells #[.int .i64 0, .int .i64 0] 26)) (hB.below (show Below w.heap.size w (w.alloc (.cells #[.int .i64 0, .int .i64 0] 26)) by go_grown)) hl (by omega) (by simp)
  clear hB
  have hW : Below w.heap.size w ((w.alloc (.cells #[.int .i64 0, .int .i64 0] 26)).alloc (.cells #[.slice a len cap, .int .i64 0, .int .u64 0] 82)) := by go_grown
  have hsB : ((w.alloc (.cells #[.int .i64 0, .int .i64 0] 26)).alloc (.cells #[.slice a len cap, .int .i64 0, .int .u64 0] 82)).heap.size = w.heap.size + 1 + 1 := by simp
  have za0 : ((w.alloc (.cells #[.int .i64 0, .int .i64 0] 26)).alloc (.cells #[.slice a len cap, .int .i64 0, .int .u64 0] 82)).cell? ⟨w.heap.size, 0, none⟩ = some (.int .i64 0) := by go_simp
  have zb0 : ((w.alloc (.cells #[.int .i64 0, .int .i64 0] 26)).alloc (.cells #[.slice a len cap, .int .i64 0, .int .u64 0] 82)).cell? ⟨w.heap.size, 1, none⟩ = some (.int .i64 0) := by go_simp
  have ya0 : ((w.alloc (.cells #[.int .i64 0, .int .i64 0] 26)).alloc (.cells #[.slice a len cap, .int .i64 0, .int .u64 0] 82)).frozen? ⟨w.heap.size, 0, none⟩ = false := by go_simp
  have yb0 : ((w.alloc (.cells #[.int .i64 0, .int .i64 0] 26)).alloc (.cells #[.slice a len cap, .int .i64 0, .int .u64 0] 82)).frozen? ⟨w.heap.size, 1, none⟩ = false := by go_simp
  go_enter Tryd.func69, Tryd.ntmps69
  go_upto_region 2 with fail
  generalize ((w.alloc (.cells #[.int .i64 0, .int .i64 0] 26)).alloc (.cells #[.slice a len cap, .int .i64 0, .int .u64 0] 82)) = wB at hR0 hW hsB za0 zb0 ya0 yb0 ⊢
  generalize hbe : w.heap.size + 1 = b at hR0 hsB ⊢
  have hnb : w.heap.size ≠ b := by omega
  go_upto_region 3 with (go_at_call 70; refine (anySet_r w.heap.size b 0 wB hR0 (by omega)).mono ?_; rintro e w1 ⟨v1, rfl, l, ho1, hl1, hR1, hO1⟩; obtain ⟨a1, p1, hv1⟩ := ho1.shape; subst hv1)
  have hs1 := hO1.size
  go_wp2_with (go_at_call 71; refine (near_r l _ _ _ w.heap.size b _ w1 hR1 (by omega) rfl (by omega) ho1.at (fun g off e => by have := ho1.ge g off e; omega)).mono ?_; rintro e w2 ⟨x, y, rfl, hR2, hO2⟩; have hO12 := hO1.trans hO2; have k0 := (hO12.cell (p := ⟨w.heap.size, 0, none⟩) (show w.heap.size < wB.heap.size by omega) hnb).trans za0; have k1 := (hO12.cell (p := ⟨w.heap.size, 1, none⟩) (show w.heap.size < wB.heap.size by omega) hnb).trans zb0; have f0 := (hO12.frozen (p := ⟨w.heap.size, 0, none⟩) (show w.heap.size < wB.heap.size by omega) hnb).trans ya0; have f1 := (hO12.frozen (p := ⟨w.heap.size, 1, none⟩) (show w.heap.size < wB.heap.size by omega) hnb).trans yb0)
  refine bodyPost_ret (v := .tuple #[.slice a1 l.length p1, .agg #[.int .i64 x, .int .i64 y]]) (by simp [results, Tryd.results69, go_sem, k0, k1]) rfl ⟨_, _, _, rfl, l, ?_, hl1, ?_⟩
  · exact (((ho1.only hO2 (by omega)).mono (show w.heap.size + 1 ≤ wB.heap.size by omega)).only (((Only.refl w.heap.size _).setCell (.inl rfl) _).setCell (.inl rfl) _) (Nat.lt_succ_self _)).mono (Nat.le_succ _)
  · exact hW.trans (((hO12.below (by omega) (by omega) : Below w.heap.size wB w2).setCell (Nat.le_refl _) _).setCell (Nat.le_refl _) _)
end Go.Proofs.YtipiamhnngmjmaaDoor
