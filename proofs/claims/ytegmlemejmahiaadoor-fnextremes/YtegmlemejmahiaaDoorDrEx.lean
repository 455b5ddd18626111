/-
  The draws of the law of extremes (contracts for the walks).
  Conditions: as each theorem states them.
-/
import Derived.Test.YtegmlemejmahiaaDoorDrHull
import Derived.Test.YtegmlemejmahiaaDoorB4
namespace Go.Proofs.YtegmlemejmahiaaDoor
open Go.RowKit
set_option linter.unusedVariables false
set_option maxRecDepth 8000
theorem Bytes.mono {N N' : Nat} {a : Option Addr} {len : Nat} {w : World} (h : Bytes N a len w) (hN : N ≤ N') : Bytes N' a len w := fun i hi => by
  obtain ⟨blk, off, z, e, hb, hc, h0, h1⟩ := h i hi
  exact ⟨blk, off, z, e, Nat.lt_of_lt_of_le hb hN, hc, h0, h1⟩
/-- A new cursor is ready. -/
theorem rd_new (N b : Nat) (a : Option Addr) (len cap : Nat) (U : World) (hB : Bytes N a len U) (hl : len ≤ 1048576) (hN : N ≤ b) (hb : U.heap.size = b) :
    Rd N b 0 (U.alloc (.cells #[.slice a len cap, .int .i64 0, .int .u64 0] 76)) := by
  subst hb
  refine ⟨a, len, cap, 0, ⟨?_, ?_, ⟨0, ?_, by omega, by omega⟩, ?_, ?_⟩, hB.below ((Below.refl _ _).alloc (Nat.le_refl _) _), hN, hl, Nat.le_refl _⟩
  · simp [go_sem]
  · simp [go_sem]
  · simp [go_sem]
  · simp [go_sem]
  · simp [go_sem]
set_option maxHeartbeats 4000000 in
theorem direction_r (N b m : Nat) (w : World) (h : Rd N b m w) (hm : m ≤ 900000) :
    Calls Tryd.prog 63 #[.pointer (some ⟨b, 0, none⟩)] w fun e w' => ∃ x y : Int, e = .returned (.agg #[.int .i64 x, .int .i64 y]) ∧ Rd N b (m + 3) w' ∧ Only b w w' := by
  have hb := h.lt
  have hR0 := h
  clear h
  have tok1 : True := trivial
  have tok2 : True := trivial
  have tok3 : True := trivial
  go_enter Tryd.func63, Tryd.ntmps63
  go_wp2_with (first
    | (go_at_call 93; have _t := tok1; go_must ((refine (pick_r _ ?_ ?_ N b _ _ (hR0.below ?_) ?_).mono ?_; omega; omega; (focus (go_grown; done)); omega; rintro e w1 ⟨v1, rfl, lo1, hi1, hR1, hO1⟩; clear tok1; have hz1 : w.heap.size + 1 ≤ w1.heap.size := Nat.le_trans (by go_size) hO1.size; have k1_0 : w1.cell? ⟨w.heap.size, 0, none⟩ = some (.int .i64 (0)) := (hO1.cell (by go_size) (show w.heap.size ≠ b by omega)).trans (by go_simp); have a1_0 : ∀ o, (w1.alloc o).cell? ⟨w.heap.size, 0, none⟩ = some (.int .i64 (0)) := fun o => cell_later ((Below.refl _ _).alloc (Nat.le_refl _) o) k1_0; have f1_0 : w1.frozen? ⟨w.heap.size, 0, none⟩ = false := (hO1.frozen (by go_size) (show w.heap.size ≠ b by omega)).trans (by go_simp); have g1_0 : ∀ o, (w1.alloc o).frozen? ⟨w.heap.size, 0, none⟩ = false := fun o => ((by go_grown : Below w1.heap.size w1 (w1.alloc o)).frozen (by go_size)).trans f1_0; have k1_1 : w1.cell? ⟨w.heap.size, 1, none⟩ = some (.int .i64 (0)) := (hO1.cell (by go_size) (show w.heap.size ≠ b by omega)).trans (by go_simp); have a1_1 : ∀ o, (w1.alloc o).cell? ⟨w.heap.size, 1, none⟩ = some (.int .i64 (0)) := fun o => cell_later ((Below.refl _ _).alloc (Nat.le_refl _) o) k1_1; have f1_1 : w1.frozen? ⟨w.heap.size, 1, none⟩ = false := (hO1.frozen (by go_size) (show w.heap.size ≠ b by omega)).trans (by go_simp); have g1_1 : ∀ o, (w1.alloc o).frozen? ⟨w.heap.size, 1, none⟩ = false := fun o => ((by go_grown : Below w1.heap.size w1 (w1.alloc o)).frozen (by go_size)).trans f1_1; have hT1 : Hid (Only b w w1) := (by repeat' (first | (with_reducible exact Only.refl _ _) | (with_reducible refine Only.alloc ?_ _) | (with_reducible refine Only.setCell ?_ (Or.inr ?_) _) | (with_reducible refine Only.drew ?_) | go_size) : Only b w _).trans hO1)))
    | (go_at_call 93; have _t := tok2; go_must ((refine (pick_r _ ?_ ?_ N b _ _ (hR1.below ?_) ?_).mono ?_; omega; omega; (focus (go_grown; done)); omega; rintro e w2 ⟨v2, rfl, lo2, hi2, hR2, hO2⟩; clear tok2; have hz2 : w1.heap.size + 0 ≤ w2.heap.size := Nat.le_trans (by go_size) hO2.size; have k2_0 : w2.cell? ⟨w.heap.size, 0, none⟩ = some (.int .i64 (0)) := (hO2.cell (by go_size) (show w.heap.size ≠ b by omega)).trans (cell_later (by go_grown : Below w1.heap.size w1 _) k1_0); have a2_0 : ∀ o, (w2.alloc o).cell? ⟨w.heap.size, 0, none⟩ = some (.int .i64 (0)) := fun o => cell_later ((Below.refl _ _).alloc (Nat.le_refl _) o) k2_0; have f2_0 : w2.frozen? ⟨w.heap.size, 0, none⟩ = false := (hO2.frozen (by go_size) (show w.heap.size ≠ b by omega)).trans (((by go_grown : Below w1.heap.size w1 _).frozen (by go_size)).trans f1_0); have g2_0 : ∀ o, (w2.alloc o).frozen? ⟨w.heap.size, 0, none⟩ = false := fun o => ((by go_grown : Below w2.heap.size w2 (w2.alloc o)).frozen (by go_size)).trans f2_0; have k2_1 : w2.cell? ⟨w.heap.size, 1, none⟩ = some (.int .i64 (0)) := (hO2.cell (by go_size) (show w.heap.size ≠ b by omega)).trans (cell_later (by go_grown : Below w1.heap.size w1 _) k1_1); have a2_1 : ∀ o, (w2.alloc o).cell? ⟨w.heap.size, 1, none⟩ = some (.int .i64 (0)) := fun o => cell_later ((Below.refl _ _).alloc (Nat.le_refl _) o) k2_1; have f2_1 : w2.frozen? ⟨w.heap.size, 1, none⟩ = false := (hO2.frozen (by go_size) (show w.heap.size ≠ b by omega)).trans (((by go_grown : Below w1.heap.size w1 _).frozen (by go_size)).trans f1_1); have g2_1 : ∀ o, (w2.alloc o).frozen? ⟨w.heap.size, 1, none⟩ = false := fun o => ((by go_grown : Below w2.heap.size w2 (w2.alloc o)).frozen (by go_size)).trans f2_1; have hT2 : Hid (Only b w w2) := (by repeat' (first | (with_reducible exact hT1.out) | (with_reducible refine Only.alloc ?_ _) | (with_reducible refine Only.setCell ?_ (Or.inr ?_) _) | (with_reducible refine Only.drew ?_) | go_size) : Only b w _).trans hO2)))
    | (go_at_call 94; have _t := tok3; go_must ((refine (one_r _ ?_ ?_ N b _ _ (hR2.below ?_) ?_).mono ?_; omega; omega; (focus (go_grown; done)); omega; rintro e w3 ⟨v3, rfl, hR3, hO3⟩; clear tok3; have hz3 : w2.heap.size + 1 ≤ w3.heap.size := Nat.le_trans (by go_size) hO3.size; have k3_0 : w3.cell? ⟨w.heap.size, 0, none⟩ = some (.int .i64 (0)) := (hO3.cell (by go_size) (show w.heap.size ≠ b by omega)).trans (cell_later (by go_grown : Below w2.heap.size w2 _) k2_0); have a3_0 : ∀ o, (w3.alloc o).cell? ⟨w.heap.size, 0, none⟩ = some (.int .i64 (0)) := fun o => cell_later ((Below.refl _ _).alloc (Nat.le_refl _) o) k3_0; have f3_0 : w3.frozen? ⟨w.heap.size, 0, none⟩ = false := (hO3.frozen (by go_size) (show w.heap.size ≠ b by omega)).trans (((by go_grown : Below w2.heap.size w2 _).frozen (by go_size)).trans f2_0); have g3_0 : ∀ o, (w3.alloc o).frozen? ⟨w.heap.size, 0, none⟩ = false := fun o => ((by go_grown : Below w3.heap.size w3 (w3.alloc o)).frozen (by go_size)).trans f3_0; have k3_1 : w3.cell? ⟨w.heap.size, 1, none⟩ = some (.int .i64 (0)) := (hO3.cell (by go_size) (show w.heap.size ≠ b by omega)).trans (cell_later (by go_grown : Below w2.heap.size w2 _) k2_1); have a3_1 : ∀ o, (w3.alloc o).cell? ⟨w.heap.size, 1, none⟩ = some (.int .i64 (0)) := fun o => cell_later ((Below.refl _ _).alloc (Nat.le_refl _) o) k3_1; have f3_1 : w3.frozen? ⟨w.heap.size, 1, none⟩ = false := (hO3.frozen (by go_size) (show w.heap.size ≠ b by omega)).trans (((by go_grown : Below w2.heap.size w2 _).frozen (by go_size)).trans f2_1); have g3_1 : ∀ o, (w3.alloc o).frozen? ⟨w.heap.size, 1, none⟩ = false := fun o => ((by go_grown : Below w3.heap.size w3 (w3.alloc o)).frozen (by go_size)).trans f3_1; have k3_2 : w3.cell? ⟨w2.heap.size, 0, none⟩ = some (.int .i64 (v1 - 3)) := (hO3.cell (by go_size) (show w2.heap.size ≠ b by omega)).trans (by go_simp); have a3_2 : ∀ o, (w3.alloc o).cell? ⟨w2.heap.size, 0, none⟩ = some (.int .i64 (v1 - 3)) := fun o => cell_later ((Below.refl _ _).alloc (Nat.le_refl _) o) k3_2; have f3_2 : w3.frozen? ⟨w2.heap.size, 0, none⟩ = false := (hO3.frozen (by go_size) (show w2.heap.size ≠ b by omega)).trans (by go_simp); have g3_2 : ∀ o, (w3.alloc o).frozen? ⟨w2.heap.size, 0, none⟩ = false := fun o => ((by go_grown : Below w3.heap.size w3 (w3.alloc o)).frozen (by go_size)).trans f3_2; have k3_3 : w3.cell? ⟨w2.heap.size, 1, none⟩ = some (.int .i64 (v2 - 3)) := (hO3.cell (by go_size) (show w2.heap.size ≠ b by omega)).trans (by go_simp); have a3_3 : ∀ o, (w3.alloc o).cell? ⟨w2.heap.size, 1, none⟩ = some (.int .i64 (v2 - 3)) := fun o => cell_later ((Below.refl _ _).alloc (Nat.le_refl _) o) k3_3; have f3_3 : w3.frozen? ⟨w2.heap.size, 1, none⟩ = false := (hO3.frozen (by go_size) (show w2.heap.size ≠ b by omega)).trans (by go_simp); have g3_3 : ∀ o, (w3.alloc o).frozen? ⟨w2.heap.size, 1, none⟩ = false := fun o => ((by go_grown : Below w3.heap.size w3 (w3.alloc o)).frozen (by go_size)).trans f3_3; have hT3 : Hid (Only b w w3) := (by repeat' (first | (with_reducible exact hT2.out) | (with_reducible refine Only.alloc ?_ _) | (with_reducible refine Only.setCell ?_ (Or.inr ?_) _) | (with_reducible refine Only.drew ?_) | go_size) : Only b w _).trans hO3))))
  · (refine bodyPost_ret (v := .agg #[.int .i64 (1000001), .int .i64 (v2 - 3)]) (by simp [results, Tryd.results63, go_sem, k3_0, k3_1]) rfl ⟨1000001, v2 - 3, rfl, (hR3.below (by go_grown)).mono (by omega), (by repeat' (first | (with_reducible exact hT3.out) | (with_reducible refine Only.alloc ?_ _) | (with_reducible refine Only.setCell ?_ (Or.inr ?_) _) | (with_reducible refine Only.drew ?_) | go_size) : Only b w _)⟩)
  · (refine bodyPost_ret (v := .agg #[.int .i64 (v1 - 3), .int .i64 (v2 - 3)]) (by simp [results, Tryd.results63, go_sem, k3_0, k3_1]) rfl ⟨v1 - 3, v2 - 3, rfl, (hR3.below (by go_grown)).mono (by omega), (by repeat' (first | (with_reducible exact hT3.out) | (with_reducible refine Only.alloc ?_ _) | (with_reducible refine Only.setCell ?_ (Or.inr ?_) _) | (with_reducible refine Only.drew ?_) | go_size) : Only b w _)⟩)
set_option maxHeartbeats 4000000 in
theorem drawExt_c (a : Option Addr) (len cap : Nat) (w : World) (hB : Bytes w.heap.size a len w) (hl : len ≤ 1048576) :
    Calls Tryd.prog 33 #[.slice a len cap] w fun e w' => ∃ v x y, e = .returned (.tuple #[v, .agg #[.int .i64 x, .int .i64 y]]) ∧ ∃ l, OwnC w.heap.size v l w' ∧ l.length ≤ 25 ∧ Below w.heap.size w w' := by
  have hR0 : Rd w.heap.size (w.heap.size + 1) 0 ((w.alloc (.cells #[.int .i64 0, .int .i64 0] 26)).alloc (.cells #[.slice a len cap, .int .i64 0, .int .u64 0] 76)) := rd_new w.heap.size (w.heap.size + 1) a len cap (w.alloc (.cells #[.int .i64 0, .int .i64 0] 26)) (hB.below (show Below w.heap.size w (w.alloc (.cells #[.int .i64 0, .int .i64 0] 26)) by go_grown)) hl (by omega) (by simp)
  clear hB
  have hW : Below w.heap.size w ((w.alloc (.cells #[.int .i64 0, .int .i64 0] 26)).alloc (.cells #[.slice a len cap, .int .i64 0, .int .u64 0] 76)) := by go_grown
  have hsB : ((w.alloc (.cells #[.int .i64 0, .int .i64 0] 26)).alloc (.cells #[.slice a len cap, .int .i64 0, .int .u64 0] 76)).heap.size = w.heap.size + 1 + 1 := by simp
  have za0 : ((w.alloc (.cells #[.int .i64 0, .int .i64 0] 26)).alloc (.cells #[.slice a len cap, .int .i64 0, .int .u64 0] 76)).cell? ⟨w.heap.size, 0, none⟩ = some (.int .i64 0) := by go_simp
  have zb0 : ((w.alloc (.cells #[.int .i64 0, .int .i64 0] 26)).alloc (.cells #[.slice a len cap, .int .i64 0, .int .u64 0] 76)).cell? ⟨w.heap.size, 1, none⟩ = some (.int .i64 0) := by go_simp
  have ya0 : ((w.alloc (.cells #[.int .i64 0, .int .i64 0] 26)).alloc (.cells #[.slice a len cap, .int .i64 0, .int .u64 0] 76)).frozen? ⟨w.heap.size, 0, none⟩ = false := by go_simp
  have yb0 : ((w.alloc (.cells #[.int .i64 0, .int .i64 0] 26)).alloc (.cells #[.slice a len cap, .int .i64 0, .int .u64 0] 76)).frozen? ⟨w.heap.size, 1, none⟩ = false := by go_simp
  go_enter Tryd.func33, Tryd.ntmps33
  go_upto_region 2 with fail
  generalize ((w.alloc (.cells #[.int .i64 0, .int .i64 0] 26)).alloc (.cells #[.slice a len cap, .int .i64 0, .int .u64 0] 76)) = wB at hR0 hW hsB za0 zb0 ya0 yb0 ⊢
  generalize hbe : w.heap.size + 1 = b at hR0 hsB ⊢
  have hnb : w.heap.size ≠ b := by omega
  go_wp2_with (first
    | (go_at_call 62; refine (anyHull_r w.heap.size b 0 wB hR0 (by omega)).mono ?_; rintro e w1 ⟨v1, rfl, l, ho1, hl1, hR1, hO1⟩; obtain ⟨a1, p1, hv1⟩ := ho1.shape; subst hv1; have hs1 := hO1.size)
    | (go_at_call 63; refine (direction_r w.heap.size b _ w1 hR1 (by omega)).mono ?_; rintro e w2 ⟨x, y, rfl, hR2, hO2⟩; have hO12 := hO1.trans hO2; have k0 := (hO12.cell (p := ⟨w.heap.size, 0, none⟩) (show w.heap.size < wB.heap.size by omega) hnb).trans za0; have k1 := (hO12.cell (p := ⟨w.heap.size, 1, none⟩) (show w.heap.size < wB.heap.size by omega) hnb).trans zb0; have f0 := (hO12.frozen (p := ⟨w.heap.size, 0, none⟩) (show w.heap.size < wB.heap.size by omega) hnb).trans ya0; have f1 := (hO12.frozen (p := ⟨w.heap.size, 1, none⟩) (show w.heap.size < wB.heap.size by omega) hnb).trans yb0))
  refine bodyPost_ret (v := .tuple #[.slice a1 l.length p1, .agg #[.int .i64 x, .int .i64 y]]) (by simp [results, Tryd.results33, go_sem, k0, k1]) rfl ⟨_, _, _, rfl, l, ?_, hl1, ?_⟩
  · exact (((ho1.only hO2 (by omega)).mono (show w.heap.size + 1 ≤ wB.heap.size by omega)).only (((Only.refl w.heap.size _).setCell (.inl rfl) _).setCell (.inl rfl) _) (Nat.lt_succ_self _)).mono (Nat.le_succ _)
  · exact hW.trans (((hO12.below (by omega) (by omega) : Below w.heap.size wB w2).setCell (Nat.le_refl _) _).setCell (Nat.le_refl _) _)
set_option maxHeartbeats 4000000 in
theorem drawSup_c (a : Option Addr) (len cap : Nat) (w : World) (hB : Bytes w.heap.size a len w) (hl : len ≤ 1048576) :
    Calls Tryd.prog 35 #[.slice a len cap] w fun e w' => ∃ v x y, e = .returned (.tuple #[v, .agg #[.int .i64 x, .int .i64 y]]) ∧ ∃ l, OwnC w.heap.size v l w' ∧ l.length ≤ 25 ∧ Below w.heap.size w w' := by
  have HB := hid (((hB.below (show Below w.heap.size w (w.alloc (.cells #[.int .i64 0, .int .i64 0] 26)) by go_grown)).mono (show w.heap.size ≤ (w.alloc (.cells #[.int .i64 0, .int .i64 0] 26)).heap.size by simp)))
  clear hB
  have hW : Below w.heap.size w (w.alloc (.cells #[.int .i64 0, .int .i64 0] 26)) := by go_grown
  have za0 : (w.alloc (.cells #[.int .i64 0, .int .i64 0] 26)).cell? ⟨w.heap.size, 0, none⟩ = some (.int .i64 0) := by go_simp
  have zb0 : (w.alloc (.cells #[.int .i64 0, .int .i64 0] 26)).cell? ⟨w.heap.size, 1, none⟩ = some (.int .i64 0) := by go_simp
  have ya0 : (w.alloc (.cells #[.int .i64 0, .int .i64 0] 26)).frozen? ⟨w.heap.size, 0, none⟩ = false := by go_simp
  have yb0 : (w.alloc (.cells #[.int .i64 0, .int .i64 0] 26)).frozen? ⟨w.heap.size, 1, none⟩ = false := by go_simp
  have hsz : (w.alloc (.cells #[.int .i64 0, .int .i64 0] 26)).heap.size = w.heap.size + 1 := by simp
  go_enter Tryd.func35, Tryd.ntmps35
  go_upto_region 1 with fail
  generalize w.alloc (.cells #[.int .i64 0, .int .i64 0] 26) = wB at HB hW za0 zb0 ya0 yb0 hsz ⊢
  go_wp2_with (go_at_call 33; refine (drawExt_c _ _ _ wB HB.out hl).mono ?_; rintro e w1 ⟨v1, x, y, rfl, l, ho1, hl1, hb1⟩; obtain ⟨a1, p1, hv1⟩ := ho1.shape; subst hv1; have k0 := cell_later hb1 za0; have k1 := cell_later hb1 zb0; have f0 := (hb1.frozen (p := ⟨w.heap.size, 0, none⟩) (show w.heap.size < wB.heap.size by omega)).trans ya0; have f1 := (hb1.frozen (p := ⟨w.heap.size, 1, none⟩) (show w.heap.size < wB.heap.size by omega)).trans yb0)
  refine bodyPost_ret (v := .tuple #[.slice a1 l.length p1, .agg #[.int .i64 x, .int .i64 y]]) (by simp [results, Tryd.results35, go_sem, k0, k1]) rfl ⟨_, _, _, rfl, l, ?_, hl1, ?_⟩
  · exact ((ho1.mono (show w.heap.size + 1 ≤ wB.heap.size by omega)).only (((Only.refl w.heap.size _).setCell (.inl rfl) _).setCell (.inl rfl) _) (Nat.lt_succ_self _)).mono (Nat.le_succ _)
  · exact ((grew hW hb1).setCell (Nat.le_refl _) _).setCell (Nat.le_refl _) _
end Go.Proofs.YtegmlemejmahiaaDoor
