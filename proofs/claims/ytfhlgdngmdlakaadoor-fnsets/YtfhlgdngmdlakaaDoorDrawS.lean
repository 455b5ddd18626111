/-
  The draws of the set laws' arguments (contracts for the walks).
  Conditions: as each theorem states them.
-/
import Derived.Test.YtfhlgdngmdlakaaDoorSame
namespace Go.Proofs.YtfhlgdngmdlakaaDoor
open Go.RowKit
set_option linter.unusedVariables false
theorem Bytes.mono {N N' : Nat} {a : Option Addr} {len : Nat} {w : World} (h : Bytes N a len w) (hN : N ≤ N') : Bytes N' a len w := fun i hi => by
  obtain ⟨blk, off, z, e, hb, hc, h0, h1⟩ := h i hi
  exact ⟨blk, off, z, e, Nat.lt_of_lt_of_le hb hN, hc, h0, h1⟩
/-- A new cursor is ready. -/
theorem rd_new (N b : Nat) (a : Option Addr) (len cap : Nat) (U : World) (hB : Bytes N a len U) (hl : len ≤ 1048576) (hN : N ≤ b) (hb : U.heap.size = b) :
    Rd N b 0 (U.alloc (.cells #[.slice a len cap, .int .i64 0, .int .u64 0] 44)) := by
  subst hb
  refine ⟨a, len, cap, 0, ⟨?_, ?_, ⟨0, ?_, by omega, by omega⟩, ?_, ?_⟩, hB.below ((Below.refl _ _).alloc (Nat.le_refl _) _), hN, hl, Nat.le_refl _⟩
  · simp [go_sem]
  · simp [go_sem]
  · simp [go_sem]
  · simp [go_sem]
  · simp [go_sem]
set_option maxHeartbeats 2000000 in
theorem drawMoveSet_c (a : Option Addr) (len cap : Nat) (w : World) (hB : Bytes w.heap.size a len w) (hl : len ≤ 1048576) :
    Calls Tryd.prog 21 #[.slice a len cap] w fun e w' => ∃ v x y, e = .returned (.tuple #[v, .agg #[.int .i64 x, .int .i64 y]]) ∧ ∃ l, Own w.heap.size v l w' ∧ l.length ≤ 13 ∧ Below w.heap.size w w' := by
  have hR0 : Rd w.heap.size (w.heap.size + 1) 0 ((w.alloc (.cells #[.int .i64 0, .int .i64 0] 26)).alloc (.cells #[.slice a len cap, .int .i64 0, .int .u64 0] 44)) := rd_new _ _ _ _ _ _ (hB.below (by go_grown)) hl (by omega) (by go_simp)
  clear hB
  have hW : Below w.heap.size w ((w.alloc (.cells #[.int .i64 0, .int .i64 0] 26)).alloc (.cells #[.slice a len cap, .int .i64 0, .int .u64 0] 44)) := by go_grown
  have z0 : ((w.alloc (.cells #[.int .i64 0, .int .i64 0] 26)).alloc (.cells #[.slice a len cap, .int .i64 0, .int .u64 0] 44)).cell? ⟨w.heap.size, 0, none⟩ = some (.int .i64 0) := by go_simp
  have z1 : ((w.alloc (.cells #[.int .i64 0, .int .i64 0] 26)).alloc (.cells #[.slice a len cap, .int .i64 0, .int .u64 0] 44)).cell? ⟨w.heap.size, 1, none⟩ = some (.int .i64 0) := by go_simp
  have y0 : ((w.alloc (.cells #[.int .i64 0, .int .i64 0] 26)).alloc (.cells #[.slice a len cap, .int .i64 0, .int .u64 0] 44)).frozen? ⟨w.heap.size, 0, none⟩ = false := by go_simp
  have y1 : ((w.alloc (.cells #[.int .i64 0, .int .i64 0] 26)).alloc (.cells #[.slice a len cap, .int .i64 0, .int .u64 0] 44)).frozen? ⟨w.heap.size, 1, none⟩ = false := by go_simp
  go_enter Tryd.func21, Tryd.ntmps21
  go_upto_region 2 with fail
  generalize (w.alloc (.cells #[.int .i64 0, .int .i64 0] 26)).alloc (.cells #[.slice a len cap, .int .i64 0, .int .u64 0] 44) = wB at hR0 hW z0 z1 y0 y1 ⊢
  generalize hbe : w.heap.size + 1 = b at hR0 ⊢
  have hlt0 : w.heap.size < wB.heap.size := World.block_lt_of_cell? wB _ z0
  have hnb : w.heap.size ≠ b := by omega
  have hbB := hR0.lt
  go_wp2_with (first
    | (go_at_call 29; refine (anySet_r w.heap.size b 0 wB hR0 (by omega)).mono ?_; rintro e w1 ⟨v1, rfl, l, ho1, hl1, hR1, hO1⟩; obtain ⟨a1, p1, hv1⟩ := ho1.shape; subst hv1)
    | (go_at_call 32; refine (anyPoint_r w.heap.size b _ w1 hR1 (by omega)).mono ?_; rintro e w2 ⟨x, y, rfl, _, _, _, _, hR2, hO2⟩; have hO12 := hO1.trans hO2; have k0 := (hO12.cell (p := ⟨w.heap.size, 0, none⟩) hlt0 hnb).trans z0; have k1 := (hO12.cell (p := ⟨w.heap.size, 1, none⟩) hlt0 hnb).trans z1; have g0 := (hO12.frozen (p := ⟨w.heap.size, 0, none⟩) hlt0 hnb).trans y0; have g1 := (hO12.frozen (p := ⟨w.heap.size, 1, none⟩) hlt0 hnb).trans y1; have hs2 := hO12.size))
  have ho2 := (ho1.only hO2 (by omega)).mono (show w.heap.size + 1 ≤ wB.heap.size by omega)
  refine bodyPost_ret (v := .tuple #[.slice a1 l.length p1, .agg #[.int .i64 x, .int .i64 y]]) (by simp [results, Tryd.results21, go_sem, k0, k1]) rfl ⟨_, x, y, rfl, l, ?_, hl1, ?_⟩
  · exact (ho2.only (((Only.refl w.heap.size _).setCell (.inl rfl) _).setCell (.inl rfl) _) (Nat.lt_succ_self _)).mono (Nat.le_succ _)
  · exact hW.trans (((hO12.below (by omega) (by omega) : Below w.heap.size wB w2).setCell (Nat.le_refl _) _).setCell (Nat.le_refl _) _)
set_option maxHeartbeats 2000000 in
theorem drawJoinSets_c (a : Option Addr) (len cap : Nat) (w : World) (hB : Bytes w.heap.size a len w) (hl : len ≤ 1048576) :
    Calls Tryd.prog 26 #[.slice a len cap] w fun e w' => ∃ v u, e = .returned (.tuple #[v, u]) ∧ ∃ l m, Own w.heap.size v l w' ∧ Own w.heap.size u m w' ∧ l.length ≤ 13 ∧ m.length ≤ 13 ∧ Below w.heap.size w w' := by
  have hR0 : Rd w.heap.size w.heap.size 0 (w.alloc (.cells #[.slice a len cap, .int .i64 0, .int .u64 0] 44)) := rd_new _ _ _ _ _ _ hB hl (by omega) rfl
  clear hB
  have hW : Below w.heap.size w (w.alloc (.cells #[.slice a len cap, .int .i64 0, .int .u64 0] 44)) := by go_grown
  have hsz : (w.alloc (.cells #[.slice a len cap, .int .i64 0, .int .u64 0] 44)).heap.size = w.heap.size + 1 := by simp
  go_enter Tryd.func26, Tryd.ntmps26
  go_upto_region 2 with fail
  generalize w.alloc (.cells #[.slice a len cap, .int .i64 0, .int .u64 0] 44) = wB at hR0 hW hsz ⊢
  go_wp2_with (first
    | (go_at_call 29; refine (anySet_r w.heap.size w.heap.size 0 wB hR0 (by omega)).mono ?_; rintro e w1 ⟨v1, rfl, l, ho1, hl1, hR1, hO1⟩; obtain ⟨a1, p1, hv1⟩ := ho1.shape; subst hv1; have hs1 := hO1.size)
    | (go_at_call 49; refine (set_r w.heap.size w.heap.size _ w1 hR1 (by omega)).mono ?_; rintro e w2 ⟨v2, rfl, m, ho2, hl2, hR2, hO2⟩; obtain ⟨a2, p2, hv2⟩ := ho2.shape; subst hv2))
  go_ret2
  exact ⟨_, _, rfl, l, m, (ho1.only hO2 (by omega)).mono (by omega), ho2.mono (by omega), by omega, by omega, hW.trans ((hO1.trans hO2).below (by omega) (Nat.le_refl _))⟩
end Go.Proofs.YtfhlgdngmdlakaaDoor
