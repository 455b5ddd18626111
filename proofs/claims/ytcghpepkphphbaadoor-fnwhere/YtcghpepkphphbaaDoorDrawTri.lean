/-
  The draws of the arguments of the law of hulls and points (contracts for the walks).
  Conditions: as each theorem states them.
-/
import Derived.Test.YtcghpepkphphbaaDoorDrawWh
namespace Go.Proofs.YtcghpepkphphbaaDoor
open Go.RowKit
set_option linter.unusedVariables false
set_option maxHeartbeats 1600000 in
set_option maxRecDepth 8000 in
theorem drawTri_c (a : Option Addr) (len cap : Nat) (w : World) (hB : Bytes w.heap.size a len w) (hl : len ≤ 1048576) :
    Calls Tryd.prog 36 #[.slice a len cap] w fun e w' => ∃ x0 y0 x1 y1 x2 y2 x3 y3 : Int, e = .returned (.tuple #[.agg #[.int .i64 x0, .int .i64 y0], .agg #[.int .i64 x1, .int .i64 y1], .agg #[.int .i64 x2, .int .i64 y2], .agg #[.int .i64 x3, .int .i64 y3]]) ∧ Below w.heap.size w w' := by
  have hR0 : Rd w.heap.size (w.heap.size + 1 + 1 + 1 + 1) 0 (((((w.alloc (.cells #[.int .i64 0, .int .i64 0] 26)).alloc (.cells #[.int .i64 0, .int .i64 0] 26)).alloc (.cells #[.int .i64 0, .int .i64 0] 26)).alloc (.cells #[.int .i64 0, .int .i64 0] 26)).alloc (.cells #[.slice a len cap, .int .i64 0, .int .u64 0] 70)) := rd_new w.heap.size (w.heap.size + 1 + 1 + 1 + 1) a len cap ((((w.alloc (.cells #[.int .i64 0, .int .i64 0] 26)).alloc (.cells #[.int .i64 0, .int .i64 0] 26)).alloc (.cells #[.int .i64 0, .int .i64 0] 26)).alloc (.cells #[.int .i64 0, .int .i64 0] 26)) (hB.below (show Below w.heap.size w ((((w.alloc (.cells #[.int .i64 0, .int .i64 0] 26)).alloc (.cells #[.int .i64 0, .int .i64 0] 26)).alloc (.cells #[.int .i64 0, .int .i64 0] 26)).alloc (.cells #[.int .i64 0, .int .i64 0] 26)) by go_grown)) hl (by omega) (by simp)
  clear hB
  have hW : Below w.heap.size w (((((w.alloc (.cells #[.int .i64 0, .int .i64 0] 26)).alloc (.cells #[.int .i64 0, .int .i64 0] 26)).alloc (.cells #[.int .i64 0, .int .i64 0] 26)).alloc (.cells #[.int .i64 0, .int .i64 0] 26)).alloc (.cells #[.slice a len cap, .int .i64 0, .int .u64 0] 70)) := by go_grown
  have hsB : (((((w.alloc (.cells #[.int .i64 0, .int .i64 0] 26)).alloc (.cells #[.int .i64 0, .int .i64 0] 26)).alloc (.cells #[.int .i64 0, .int .i64 0] 26)).alloc (.cells #[.int .i64 0, .int .i64 0] 26)).alloc (.cells #[.slice a len cap, .int .i64 0, .int .u64 0] 70)).heap.size = w.heap.size + 1 + 1 + 1 + 1 + 1 := by simp
  have za0 : (((((w.alloc (.cells #[.int .i64 0, .int .i64 0] 26)).alloc (.cells #[.int .i64 0, .int .i64 0] 26)).alloc (.cells #[.int .i64 0, .int .i64 0] 26)).alloc (.cells #[.int .i64 0, .int .i64 0] 26)).alloc (.cells #[.slice a len cap, .int .i64 0, .int .u64 0] 70)).cell? ⟨w.heap.size, 0, none⟩ = some (.int .i64 0) := by go_simp
  have zb0 : (((((w.alloc (.cells #[.int .i64 0, .int .i64 0] 26)).alloc (.cells #[.int .i64 0, .int .i64 0] 26)).alloc (.cells #[.int .i64 0, .int .i64 0] 26)).alloc (.cells #[.int .i64 0, .int .i64 0] 26)).alloc (.cells #[.slice a len cap, .int .i64 0, .int .u64 0] 70)).cell? ⟨w.heap.size, 1, none⟩ = some (.int .i64 0) := by go_simp
  have ya0 : (((((w.alloc (.cells #[.int .i64 0, .int .i64 0] 26)).alloc (.cells #[.int .i64 0, .int .i64 0] 26)).alloc (.cells #[.int .i64 0, .int .i64 0] 26)).alloc (.cells #[.int .i64 0, .int .i64 0] 26)).alloc (.cells #[.slice a len cap, .int .i64 0, .int .u64 0] 70)).frozen? ⟨w.heap.size, 0, none⟩ = false := by go_simp
  have yb0 : (((((w.alloc (.cells #[.int .i64 0, .int .i64 0] 26)).alloc (.cells #[.int .i64 0, .int .i64 0] 26)).alloc (.cells #[.int .i64 0, .int .i64 0] 26)).alloc (.cells #[.int .i64 0, .int .i64 0] 26)).alloc (.cells #[.slice a len cap, .int .i64 0, .int .u64 0] 70)).frozen? ⟨w.heap.size, 1, none⟩ = false := by go_simp
  have za1 : (((((w.alloc (.cells #[.int .i64 0, .int .i64 0] 26)).alloc (.cells #[.int .i64 0, .int .i64 0] 26)).alloc (.cells #[.int .i64 0, .int .i64 0] 26)).alloc (.cells #[.int .i64 0, .int .i64 0] 26)).alloc (.cells #[.slice a len cap, .int .i64 0, .int .u64 0] 70)).cell? ⟨w.heap.size + 1, 0, none⟩ = some (.int .i64 0) := by go_simp
  have zb1 : (((((w.alloc (.cells #[.int .i64 0, .int .i64 0] 26)).alloc (.cells #[.int .i64 0, .int .i64 0] 26)).alloc (.cells #[.int .i64 0, .int .i64 0] 26)).alloc (.cells #[.int .i64 0, .int .i64 0] 26)).alloc (.cells #[.slice a len cap, .int .i64 0, .int .u64 0] 70)).cell? ⟨w.heap.size + 1, 1, none⟩ = some (.int .i64 0) := by go_simp
  have ya1 : (((((w.alloc (.cells #[.int .i64 0, .int .i64 0] 26)).alloc (.cells #[.int .i64 0, .int .i64 0] 26)).alloc (.cells #[.int .i64 0, .int .i64 0] 26)).alloc (.cells #[.int .i64 0, .int .i64 0] 26)).alloc (.cells #[.slice a len cap, .int .i64 0, .int .u64 0] 70)).frozen? ⟨w.heap.size + 1, 0, none⟩ = false := by go_simp
  have yb1 : (((((w.alloc (.cells #[.int .i64 0, .int .i64 0] 26)).alloc (.cells #[.int .i64 0, .int .i64 0] 26)).alloc (.cells #[.int .i64 0, .int .i64 0] 26)).alloc (.cells #[.int .i64 0, .int .i64 0] 26)).alloc (.cells #[.slice a len cap, .int .i64 0, .int .u64 0] 70)).frozen? ⟨w.heap.size + 1, 1, none⟩ = false := by go_simp
  have za2 : (((((w.alloc (.cells #[.int .i64 0, .int .i64 0] 26)).alloc (.cells #[.int .i64 0, .int .i64 0] 26)).alloc (.cells #[.int .i64 0, .int .i64 0] 26)).alloc (.cells #[.int .i64 0, .int .i64 0] 26)).alloc (.cells #[.slice a len cap, .int .i64 0, .int .u64 0] 70)).cell? ⟨w.heap.size + 1 + 1, 0, none⟩ = some (.int .i64 0) := by go_simp
  have zb2 : (((((w.alloc (.cells #[.int .i64 0, .int .i64 0] 26)).alloc (.cells #[.int .i64 0, .int .i64 0] 26)).alloc (.cells #[.int .i64 0, .int .i64 0] 26)).alloc (.cells #[.int .i64 0, .int .i64 0] 26)).alloc (.cells #[.slice a len cap, .int .i64 0, .int .u64 0] 70)).cell? ⟨w.heap.size + 1 + 1, 1, none⟩ = some (.int .i64 0) := by go_simp
  have ya2 : (((((w.alloc (.cells #[.int .i64 0, .int .i64 0] 26)).alloc (.cells #[.int .i64 0, .int .i64 0] 26)).alloc (.cells #[.int .i64 0, .int .i64 0] 26)).alloc (.cells #[.int .i64 0, .int .i64 0] 26)).alloc (.cells #[.slice a len cap, .int .i64 0, .int .u64 0] 70)).frozen? ⟨w.heap.size + 1 + 1, 0, none⟩ = false := by go_simp
  have yb2 : (((((w.alloc (.cells #[.int .i64 0, .int .i64 0] 26)).alloc (.cells #[.int .i64 0, .int .i64 0] 26)).alloc (.cells #[.int .i64 0, .int .i64 0] 26)).alloc (.cells #[.int .i64 0, .int .i64 0] 26)).alloc (.cells #[.slice a len cap, .int .i64 0, .int .u64 0] 70)).frozen? ⟨w.heap.size + 1 + 1, 1, none⟩ = false := by go_simp
  have za3 : (((((w.alloc (.cells #[.int .i64 0, .int .i64 0] 26)).alloc (.cells #[.int .i64 0, .int .i64 0] 26)).alloc (.cells #[.int .i64 0, .int .i64 0] 26)).alloc (.cells #[.int .i64 0, .int .i64 0] 26)).alloc (.cells #[.slice a len cap, .int .i64 0, .int .u64 0] 70)).cell? ⟨w.heap.size + 1 + 1 + 1, 0, none⟩ = some (.int .i64 0) := by go_simp
  have zb3 : (((((w.alloc (.cells #[.int .i64 0, .int .i64 0] 26)).alloc (.cells #[.int .i64 0, .int .i64 0] 26)).alloc (.cells #[.int .i64 0, .int .i64 0] 26)).alloc (.cells #[.int .i64 0, .int .i64 0] 26)).alloc (.cells #[.slice a len cap, .int .i64 0, .int .u64 0] 70)).cell? ⟨w.heap.size + 1 + 1 + 1, 1, none⟩ = some (.int .i64 0) := by go_simp
  have ya3 : (((((w.alloc (.cells #[.int .i64 0, .int .i64 0] 26)).alloc (.cells #[.int .i64 0, .int .i64 0] 26)).alloc (.cells #[.int .i64 0, .int .i64 0] 26)).alloc (.cells #[.int .i64 0, .int .i64 0] 26)).alloc (.cells #[.slice a len cap, .int .i64 0, .int .u64 0] 70)).frozen? ⟨w.heap.size + 1 + 1 + 1, 0, none⟩ = false := by go_simp
  have yb3 : (((((w.alloc (.cells #[.int .i64 0, .int .i64 0] 26)).alloc (.cells #[.int .i64 0, .int .i64 0] 26)).alloc (.cells #[.int .i64 0, .int .i64 0] 26)).alloc (.cells #[.int .i64 0, .int .i64 0] 26)).alloc (.cells #[.slice a len cap, .int .i64 0, .int .u64 0] 70)).frozen? ⟨w.heap.size + 1 + 1 + 1, 1, none⟩ = false := by go_simp
  go_enter Tryd.func36, Tryd.ntmps36
  go_upto_region 2 with fail
  generalize (((((w.alloc (.cells #[.int .i64 0, .int .i64 0] 26)).alloc (.cells #[.int .i64 0, .int .i64 0] 26)).alloc (.cells #[.int .i64 0, .int .i64 0] 26)).alloc (.cells #[.int .i64 0, .int .i64 0] 26)).alloc (.cells #[.slice a len cap, .int .i64 0, .int .u64 0] 70)) = wB at hR0 hW hsB za0 zb0 ya0 yb0 za1 zb1 ya1 yb1 za2 zb2 ya2 yb2 za3 zb3 ya3 yb3 ⊢
  generalize hbe : w.heap.size + 1 + 1 + 1 + 1 = b at hR0 hsB ⊢
  have tk1 : True := trivial
  have tk2 : True := trivial
  have tk3 : True := trivial
  go_upto_region 3 with (first
    | (go_at_call 55; clear tk1; refine (anyPoint_r w.heap.size b _ wB hR0 (by omega)).mono ?_; rintro e w1 ⟨x1, y1, rfl, _, _, _, _, hR1, hO1⟩; have hs1 := hO1.size)
    | (go_at_call 55; clear tk2; refine (anyPoint_r w.heap.size b _ w1 hR1 (by omega)).mono ?_; rintro e w2 ⟨x2, y2, rfl, _, _, _, _, hR2, hO2⟩; have hs2 := hO2.size)
    | (go_at_call 55; clear tk3; refine (anyPoint_r w.heap.size b _ w2 hR2 (by omega)).mono ?_; rintro e w3 ⟨x3, y3, rfl, _, _, _, _, hR3, hO3⟩; have hs3 := hO3.size))
  have hC : Below w3.heap.size w3 (((w3.alloc (.cells #[.int .i64 x1, .int .i64 y1] 26)).alloc (.cells #[.int .i64 x2, .int .i64 y2] 26)).alloc (.cells #[.int .i64 x3, .int .i64 y3] 26)) := by go_grown
  have hsC : (((w3.alloc (.cells #[.int .i64 x1, .int .i64 y1] 26)).alloc (.cells #[.int .i64 x2, .int .i64 y2] 26)).alloc (.cells #[.int .i64 x3, .int .i64 y3] 26)).heap.size = w3.heap.size + 1 + 1 + 1 := by simp
  have s00 : (((w3.alloc (.cells #[.int .i64 x1, .int .i64 y1] 26)).alloc (.cells #[.int .i64 x2, .int .i64 y2] 26)).alloc (.cells #[.int .i64 x3, .int .i64 y3] 26)).cell? ⟨w3.heap.size, 0, none⟩ = some (.int .i64 x1) := by simp [go_sem]
  have s01 : (((w3.alloc (.cells #[.int .i64 x1, .int .i64 y1] 26)).alloc (.cells #[.int .i64 x2, .int .i64 y2] 26)).alloc (.cells #[.int .i64 x3, .int .i64 y3] 26)).cell? ⟨w3.heap.size, 1, none⟩ = some (.int .i64 y1) := by simp [go_sem]
  have s10 : (((w3.alloc (.cells #[.int .i64 x1, .int .i64 y1] 26)).alloc (.cells #[.int .i64 x2, .int .i64 y2] 26)).alloc (.cells #[.int .i64 x3, .int .i64 y3] 26)).cell? ⟨w3.heap.size + 1, 0, none⟩ = some (.int .i64 x2) := by simp [go_sem]
  have s11 : (((w3.alloc (.cells #[.int .i64 x1, .int .i64 y1] 26)).alloc (.cells #[.int .i64 x2, .int .i64 y2] 26)).alloc (.cells #[.int .i64 x3, .int .i64 y3] 26)).cell? ⟨w3.heap.size + 1, 1, none⟩ = some (.int .i64 y2) := by simp [go_sem]
  have s20 : (((w3.alloc (.cells #[.int .i64 x1, .int .i64 y1] 26)).alloc (.cells #[.int .i64 x2, .int .i64 y2] 26)).alloc (.cells #[.int .i64 x3, .int .i64 y3] 26)).cell? ⟨w3.heap.size + 1 + 1, 0, none⟩ = some (.int .i64 x3) := by simp [go_sem]
  have s21 : (((w3.alloc (.cells #[.int .i64 x1, .int .i64 y1] 26)).alloc (.cells #[.int .i64 x2, .int .i64 y2] 26)).alloc (.cells #[.int .i64 x3, .int .i64 y3] 26)).cell? ⟨w3.heap.size + 1 + 1, 1, none⟩ = some (.int .i64 y3) := by simp [go_sem]
  have hRC := hR3.below (hC.mono (by have := hR3.lt; omega))
  have hOC := ((hO1.trans hO2).trans hO3).trans (Only.ofBelow (b := b) hC)
  generalize (((w3.alloc (.cells #[.int .i64 x1, .int .i64 y1] 26)).alloc (.cells #[.int .i64 x2, .int .i64 y2] 26)).alloc (.cells #[.int .i64 x3, .int .i64 y3] 26)) = wC at hC hsC s00 s01 s10 s11 s20 s21 hRC hOC ⊢
  have hc0 : w3.heap.size < wC.heap.size := by omega
  have hc1 : w3.heap.size + 1 < wC.heap.size := by omega
  have hc2 : w3.heap.size + 1 + 1 < wC.heap.size := by omega
  clear hsC
  by_cases hS : sg (crossW x1 y1 x2 y2 x3 y3) < 0
  · go_upto_region 4 with (first
      | (go_at_call 42; refine (side_c _ _ _ _ _ _ _).mono ?_; rintro e wD ⟨rfl, hbD⟩; have hsD := hbD.size; have hd0 : w3.heap.size < wD.heap.size := (by omega); have hd1 : w3.heap.size + 1 < wD.heap.size := (by omega); have hd2 : w3.heap.size + 1 + 1 < wD.heap.size := (by omega); replace s00 := cell_later hbD s00; replace s01 := cell_later hbD s01; replace s10 := cell_later hbD s10; replace s11 := cell_later hbD s11; replace s20 := cell_later hbD s20; replace s21 := cell_later hbD s21; have hRD := hRC.below (hbD.mono (by have := hRC.lt; omega)); have hOD := hOC.trans (Only.ofBelow (b := b) hbD))
      | (go_at_call 56; refine (one_r 6 (by omega) (by omega) w.heap.size b _ wD hRD (by omega)).mono ?_; rintro e wE ⟨vE, rfl, hRE, hOE⟩; have hsE := hOE.size; have he0 : w3.heap.size < wE.heap.size := (by omega); have he1 : w3.heap.size + 1 < wE.heap.size := (by omega); have he2 : w3.heap.size + 1 + 1 < wE.heap.size := (by omega); replace s00 := (hOE.cell (p := ⟨w3.heap.size, 0, none⟩) (show w3.heap.size < wD.heap.size by omega) (show w3.heap.size ≠ b by omega)).trans s00; replace s01 := (hOE.cell (p := ⟨w3.heap.size, 1, none⟩) (show w3.heap.size < wD.heap.size by omega) (show w3.heap.size ≠ b by omega)).trans s01; replace s10 := (hOE.cell (p := ⟨w3.heap.size + 1, 0, none⟩) (show w3.heap.size + 1 < wD.heap.size by omega) (show w3.heap.size + 1 ≠ b by omega)).trans s10; replace s11 := (hOE.cell (p := ⟨w3.heap.size + 1, 1, none⟩) (show w3.heap.size + 1 < wD.heap.size by omega) (show w3.heap.size + 1 ≠ b by omega)).trans s11; replace s20 := (hOE.cell (p := ⟨w3.heap.size + 1 + 1, 0, none⟩) (show w3.heap.size + 1 + 1 < wD.heap.size by omega) (show w3.heap.size + 1 + 1 ≠ b by omega)).trans s20; replace s21 := (hOE.cell (p := ⟨w3.heap.size + 1 + 1, 1, none⟩) (show w3.heap.size + 1 + 1 < wD.heap.size by omega) (show w3.heap.size + 1 + 1 ≠ b by omega)).trans s21; have hOE' := hOD.trans hOE))
    · refine wp_region_held_drew (S := (fun u => u.cell? ⟨w3.heap.size, 0, none⟩ = some (.int .i64 x1) ∧ u.cell? ⟨w3.heap.size, 1, none⟩ = some (.int .i64 y1) ∧ u.cell? ⟨w3.heap.size + 1, 0, none⟩ = some (.int .i64 x2) ∧ u.cell? ⟨w3.heap.size + 1, 1, none⟩ = some (.int .i64 y2) ∧ u.cell? ⟨w3.heap.size + 1 + 1, 0, none⟩ = some (.int .i64 x3) ∧ u.cell? ⟨w3.heap.size + 1 + 1, 1, none⟩ = some (.int .i64 y3))) (by kernel_rfl) ?_ (fun hHeld => ?_)
      · exact ⟨s00, s01, s10, s11, s20, s21⟩
      refine wpAnyH_take (i := 0) (oi := { dst := some 29, op := Op.load 26 (Operand.tmp 7), type := 26, pos := "l4_inside.go:122", after := #[], guard := none }) (v := ?vUx0) rfl (by kernel_rfl) (by kernel_rfl) (by kernel_rfl) (fun _ _ _ h => h) (Or.inl ⟨by rfl, ?hyUx0⟩) (by with_reducible assumption) ?restUx0
      case hyUx0 => (intro w hSw; (try dsimp only at hSw); go_simp; try with_reducible rfl)
      case' restUx0 => (try simp only [Act.put, List.setIfInBounds_toArray, List.set_cons_zero, List.set_cons_succ])
      refine wpAnyH_take (i := 1) (oi := { dst := some 30, op := Op.load 26 (Operand.tmp 9), type := 26, pos := "l4_inside.go:122", after := #[{ on := 9, ground := Ground.gcOnly Departure.lateStores }], guard := none }) (v := ?vUx1) rfl (by kernel_rfl) (by kernel_rfl) (by kernel_rfl) (fun _ _ _ h => h) (Or.inl ⟨by rfl, ?hyUx1⟩) (by with_reducible assumption) ?restUx1
      case hyUx1 => (intro w hSw; (try dsimp only at hSw); go_simp; try with_reducible rfl)
      case' restUx1 => (try simp only [Act.put, List.setIfInBounds_toArray, List.set_cons_zero, List.set_cons_succ])
      refine wpAnyH_take (i := 2) (oi := { dst := some 31, op := Op.load 26 (Operand.tmp 8), type := 26, pos := "l4_inside.go:122", after := #[{ on := 10, ground := Ground.gcOnly Departure.lateStores }], guard := none }) (v := ?vUx2) rfl (by kernel_rfl) (by kernel_rfl) (by kernel_rfl) (fun _ _ _ h => h) (Or.inl ⟨by rfl, ?hyUx2⟩) (by with_reducible assumption) ?restUx2
      case hyUx2 => (intro w hSw; (try dsimp only at hSw); go_simp; try with_reducible rfl)
      case' restUx2 => (try simp only [Act.put, List.setIfInBounds_toArray, List.set_cons_zero, List.set_cons_succ])
      refine wpAnyH_take (i := 3) (oi := { dst := some 32, op := Op.move (Operand.tmp 6), type := 67, pos := "l4_inside.go:122", after := #[], guard := none }) (v := ?vUx3) rfl (by kernel_rfl) (by kernel_rfl) (by kernel_rfl) (fun _ _ _ h => h) (Or.inl ⟨by rfl, ?hyUx3⟩) (by with_reducible assumption) ?restUx3
      case hyUx3 => (intro w hSw; (try dsimp only at hSw); go_simp; try with_reducible rfl)
      case' restUx3 => (try simp only [Act.put, List.setIfInBounds_toArray, List.set_cons_zero, List.set_cons_succ])
      refine wpAnyH_take (i := 4) (oi := { dst := some 33, op := Op.load 26 (Operand.tmp 7), type := 26, pos := "l4_inside.go:122", after := #[], guard := none }) (v := ?vUx4) rfl (by kernel_rfl) (by kernel_rfl) (by kernel_rfl) (fun _ _ _ h => h) (Or.inl ⟨by rfl, ?hyUx4⟩) (by with_reducible assumption) ?restUx4
      case hyUx4 => (intro w hSw; (try dsimp only at hSw); go_simp; try with_reducible rfl)
      case' restUx4 => (try simp only [Act.put, List.setIfInBounds_toArray, List.set_cons_zero, List.set_cons_succ])
      refine wpAnyH_take (i := 5) (oi := { dst := some 34, op := Op.load 26 (Operand.tmp 8), type := 26, pos := "l4_inside.go:122", after := #[], guard := none }) (v := ?vUx5) rfl (by kernel_rfl) (by kernel_rfl) (by kernel_rfl) (fun _ _ _ h => h) (Or.inl ⟨by rfl, ?hyUx5⟩) (by with_reducible assumption) ?restUx5
      case hyUx5 => (intro w hSw; (try dsimp only at hSw); go_simp; try with_reducible rfl)
      case' restUx5 => (try simp only [Act.put, List.setIfInBounds_toArray, List.set_cons_zero, List.set_cons_succ])
      refine wpAnyH_take (i := 6) (oi := { dst := some 35, op := Op.load 26 (Operand.tmp 9), type := 26, pos := "l4_inside.go:122", after := #[], guard := none }) (v := ?vUx6) rfl (by kernel_rfl) (by kernel_rfl) (by kernel_rfl) (fun _ _ _ h => h) (Or.inl ⟨by rfl, ?hyUx6⟩) (by with_reducible assumption) ?restUx6
      case hyUx6 => (intro w hSw; (try dsimp only at hSw); go_simp; try with_reducible rfl)
      case' restUx6 => (try simp only [Act.put, List.setIfInBounds_toArray, List.set_cons_zero, List.set_cons_succ])
      refine wpAnyH_ready (rs := [7]) (by kernel_rfl) (by simp) ?_
      refine AllReadyH.cons (o := { dst := some 36, op := Op.buildSlice 35 3 #[(0, Operand.tmp 33), (1, Operand.tmp 34), (2, Operand.tmp 35)], type := 35, pos := "l4_inside.go:122", after := #[{ on := 4, ground := Ground.data }, { on := 5, ground := Ground.data }, { on := 6, ground := Ground.data }], guard := none }) rfl (fun K hK => ?_) AllReadyH.nil
      go_simp
      refine hK.out _ _ ?_ (fun hHeld => ?_)
      · exact ⟨by go_simp, by go_simp, by go_simp, by go_simp, by go_simp, by go_simp⟩
      clear hK K
      try simp only [Act.put, List.setIfInBounds_toArray, List.set_cons_zero, List.set_cons_succ]
      refine wpAnyH_ready (rs := [8]) (by kernel_rfl) (by simp) ?_
      refine AllReadyH.cons (o := { dst := some 37, op := Op.call { callee := Callee.value (Operand.func 54), args := #[Operand.tmp 32, Operand.tmp 36], argTypes := #[67, 35] }, type := 26, pos := "l4_inside.go:122", after := #[{ on := 3, ground := Ground.data }, { on := 7, ground := Ground.data }], guard := none }) rfl (fun K hK => ?_) AllReadyH.nil
      go_simp
      refine (near_r [(x1, y1), (x2, y2), (x3, y3)] (some ⟨wE.heap.size, 0, none⟩) 3 3 w.heap.size b _ _ (hRE.below (by go_grown)) (by omega) rfl (by omega) (at3 (by go_simp) (by go_simp) (by go_simp) (by go_simp) (by go_simp) (by go_simp)) (fun g off e => by cases e; omega)).mono ?_
      rintro e w9 ⟨x9, y9, rfl, hR9, hP9⟩
      have hQ9 : Only b wE w9 := (((Only.refl b wE).alloc _).drew).trans hP9
      have hO9 := hOE'.trans hQ9
      have hs9 := hQ9.size
      have t00 := (hQ9.cell (p := ⟨w3.heap.size, 0, none⟩) (show w3.heap.size < wE.heap.size by omega) (show w3.heap.size ≠ b by omega)).trans s00
      have t01 := (hQ9.cell (p := ⟨w3.heap.size, 1, none⟩) (show w3.heap.size < wE.heap.size by omega) (show w3.heap.size ≠ b by omega)).trans s01
      have t10 := (hQ9.cell (p := ⟨w3.heap.size + 1, 0, none⟩) (show w3.heap.size + 1 < wE.heap.size by omega) (show w3.heap.size + 1 ≠ b by omega)).trans s10
      have t11 := (hQ9.cell (p := ⟨w3.heap.size + 1, 1, none⟩) (show w3.heap.size + 1 < wE.heap.size by omega) (show w3.heap.size + 1 ≠ b by omega)).trans s11
      have t20 := (hQ9.cell (p := ⟨w3.heap.size + 1 + 1, 0, none⟩) (show w3.heap.size + 1 + 1 < wE.heap.size by omega) (show w3.heap.size + 1 + 1 ≠ b by omega)).trans s20
      have t21 := (hQ9.cell (p := ⟨w3.heap.size + 1 + 1, 1, none⟩) (show w3.heap.size + 1 + 1 < wE.heap.size by omega) (show w3.heap.size + 1 + 1 ≠ b by omega)).trans s21
      have rza0 := (hO9.cell (p := ⟨w.heap.size, 0, none⟩) (show w.heap.size < wB.heap.size by omega) (show w.heap.size ≠ b by omega)).trans za0
      have rzb0 := (hO9.cell (p := ⟨w.heap.size, 1, none⟩) (show w.heap.size < wB.heap.size by omega) (show w.heap.size ≠ b by omega)).trans zb0
      have rya0 := (hO9.frozen (p := ⟨w.heap.size, 0, none⟩) (show w.heap.size < wB.heap.size by omega) (show w.heap.size ≠ b by omega)).trans ya0
      have ryb0 := (hO9.frozen (p := ⟨w.heap.size, 1, none⟩) (show w.heap.size < wB.heap.size by omega) (show w.heap.size ≠ b by omega)).trans yb0
      have rza1 := (hO9.cell (p := ⟨w.heap.size + 1, 0, none⟩) (show w.heap.size + 1 < wB.heap.size by omega) (show w.heap.size + 1 ≠ b by omega)).trans za1
      have rzb1 := (hO9.cell (p := ⟨w.heap.size + 1, 1, none⟩) (show w.heap.size + 1 < wB.heap.size by omega) (show w.heap.size + 1 ≠ b by omega)).trans zb1
      have rya1 := (hO9.frozen (p := ⟨w.heap.size + 1, 0, none⟩) (show w.heap.size + 1 < wB.heap.size by omega) (show w.heap.size + 1 ≠ b by omega)).trans ya1
      have ryb1 := (hO9.frozen (p := ⟨w.heap.size + 1, 1, none⟩) (show w.heap.size + 1 < wB.heap.size by omega) (show w.heap.size + 1 ≠ b by omega)).trans yb1
      have rza2 := (hO9.cell (p := ⟨w.heap.size + 1 + 1, 0, none⟩) (show w.heap.size + 1 + 1 < wB.heap.size by omega) (show w.heap.size + 1 + 1 ≠ b by omega)).trans za2
      have rzb2 := (hO9.cell (p := ⟨w.heap.size + 1 + 1, 1, none⟩) (show w.heap.size + 1 + 1 < wB.heap.size by omega) (show w.heap.size + 1 + 1 ≠ b by omega)).trans zb2
      have rya2 := (hO9.frozen (p := ⟨w.heap.size + 1 + 1, 0, none⟩) (show w.heap.size + 1 + 1 < wB.heap.size by omega) (show w.heap.size + 1 + 1 ≠ b by omega)).trans ya2
      have ryb2 := (hO9.frozen (p := ⟨w.heap.size + 1 + 1, 1, none⟩) (show w.heap.size + 1 + 1 < wB.heap.size by omega) (show w.heap.size + 1 + 1 ≠ b by omega)).trans yb2
      have rza3 := (hO9.cell (p := ⟨w.heap.size + 1 + 1 + 1, 0, none⟩) (show w.heap.size + 1 + 1 + 1 < wB.heap.size by omega) (show w.heap.size + 1 + 1 + 1 ≠ b by omega)).trans za3
      have rzb3 := (hO9.cell (p := ⟨w.heap.size + 1 + 1 + 1, 1, none⟩) (show w.heap.size + 1 + 1 + 1 < wB.heap.size by omega) (show w.heap.size + 1 + 1 + 1 ≠ b by omega)).trans zb3
      have rya3 := (hO9.frozen (p := ⟨w.heap.size + 1 + 1 + 1, 0, none⟩) (show w.heap.size + 1 + 1 + 1 < wB.heap.size by omega) (show w.heap.size + 1 + 1 + 1 ≠ b by omega)).trans ya3
      have ryb3 := (hO9.frozen (p := ⟨w.heap.size + 1 + 1 + 1, 1, none⟩) (show w.heap.size + 1 + 1 + 1 < wB.heap.size by omega) (show w.heap.size + 1 + 1 + 1 ≠ b by omega)).trans yb3
      have n00 : w.heap.size < w3.heap.size := by omega
      have n01 : w.heap.size + 1 < w3.heap.size := by omega
      have n02 : w.heap.size + 1 + 1 < w3.heap.size := by omega
      have n03 : w.heap.size + 1 + 1 + 1 < w3.heap.size := by omega
      have n10 : w.heap.size < w3.heap.size + 1 := by omega
      have n11 : w.heap.size + 1 < w3.heap.size + 1 := by omega
      have n12 : w.heap.size + 1 + 1 < w3.heap.size + 1 := by omega
      have n13 : w.heap.size + 1 + 1 + 1 < w3.heap.size + 1 := by omega
      have n20 : w.heap.size < w3.heap.size + 1 + 1 := by omega
      have n21 : w.heap.size + 1 < w3.heap.size + 1 + 1 := by omega
      have n22 : w.heap.size + 1 + 1 < w3.heap.size + 1 + 1 := by omega
      have n23 : w.heap.size + 1 + 1 + 1 < w3.heap.size + 1 + 1 := by omega
      clear za0 zb0 ya0 yb0 za1 zb1 ya1 yb1 za2 zb2 ya2 yb2 za3 zb3 ya3 yb3
      go_wp2_with fail
      refine hK.out _ _ ?_ (fun hHeld => ?_)
      · exact ⟨t00, t01, t10, t11, t20, t21⟩
      clear hK K
      try simp only [Act.put, List.setIfInBounds_toArray, List.set_cons_zero, List.set_cons_succ]
      refine wpAnyH_ready (rs := [9]) (by kernel_rfl) (by simp) ?_
      refine AllReadyH.cons (o := { dst := none, op := Op.store 26 (Operand.tmp 2) (Operand.tmp 29), type := 0, pos := "l4_inside.go:122", after := #[{ on := 0, ground := Ground.data }, { on := 8, ground := Ground.chain }, { on := 0, ground := Ground.phase }, { on := 1, ground := Ground.textOnly Departure.lateStores }, { on := 2, ground := Ground.textOnly Departure.lateStores }, { on := 3, ground := Ground.textOnly Departure.lateStores }, { on := 4, ground := Ground.textOnly Departure.lateStores }, { on := 5, ground := Ground.textOnly Departure.lateStores }, { on := 6, ground := Ground.textOnly Departure.lateStores }, { on := 7, ground := Ground.textOnly Departure.lateStores }, { on := 8, ground := Ground.textOnly Departure.lateStoresUnsure }], guard := none }) rfl (fun K hK => ?_) AllReadyH.nil
      go_simp
      refine hK.out _ _ ?_ (fun hHeld => ?_)
      · exact ⟨by go_simp, by go_simp, by go_simp, by go_simp, by go_simp, by go_simp⟩
      clear hK K
      try simp only [Act.put, List.setIfInBounds_toArray, List.set_cons_zero, List.set_cons_succ]
      refine wpAnyH_ready (rs := [10]) (by kernel_rfl) (by simp) ?_
      refine AllReadyH.cons (o := { dst := none, op := Op.store 26 (Operand.tmp 3) (Operand.tmp 30), type := 0, pos := "l4_inside.go:122", after := #[{ on := 1, ground := Ground.data }, { on := 9, ground := Ground.chain }, { on := 0, ground := Ground.phase }, { on := 1, ground := Ground.phase }, { on := 2, ground := Ground.textOnly Departure.lateStores }, { on := 3, ground := Ground.textOnly Departure.lateStores }, { on := 4, ground := Ground.textOnly Departure.lateStores }, { on := 5, ground := Ground.textOnly Departure.lateStores }, { on := 6, ground := Ground.textOnly Departure.lateStores }, { on := 7, ground := Ground.textOnly Departure.lateStores }, { on := 8, ground := Ground.textOnly Departure.lateStoresUnsure }, { on := 9, ground := Ground.phase }], guard := none }) rfl (fun K hK => ?_) AllReadyH.nil
      go_simp
      refine hK.out _ _ ?_ (fun hHeld => ?_)
      · exact ⟨by go_simp, by go_simp, by go_simp, by go_simp, by go_simp, by go_simp⟩
      clear hK K
      try simp only [Act.put, List.setIfInBounds_toArray, List.set_cons_zero, List.set_cons_succ]
      refine wpAnyH_ready (rs := [11]) (by kernel_rfl) (by simp) ?_
      refine AllReadyH.cons (o := { dst := none, op := Op.store 26 (Operand.tmp 4) (Operand.tmp 31), type := 0, pos := "l4_inside.go:122", after := #[{ on := 2, ground := Ground.data }, { on := 10, ground := Ground.chain }, { on := 0, ground := Ground.phase }, { on := 1, ground := Ground.phase }, { on := 2, ground := Ground.phase }, { on := 3, ground := Ground.textOnly Departure.lateStores }, { on := 4, ground := Ground.textOnly Departure.lateStores }, { on := 5, ground := Ground.textOnly Departure.lateStores }, { on := 6, ground := Ground.textOnly Departure.lateStores }, { on := 7, ground := Ground.textOnly Departure.lateStores }, { on := 8, ground := Ground.textOnly Departure.lateStoresUnsure }, { on := 9, ground := Ground.phase }, { on := 10, ground := Ground.phase }], guard := none }) rfl (fun K hK => ?_) AllReadyH.nil
      go_simp
      refine hK.out _ _ ?_ (fun hHeld => ?_)
      · exact ⟨by go_simp, by go_simp, by go_simp, by go_simp, by go_simp, by go_simp⟩
      clear hK K
      try simp only [Act.put, List.setIfInBounds_toArray, List.set_cons_zero, List.set_cons_succ]
      refine wpAnyH_ready (rs := [12]) (by kernel_rfl) (by simp) ?_
      refine AllReadyH.cons (o := { dst := none, op := Op.store 26 (Operand.tmp 5) (Operand.tmp 37), type := 0, pos := "l4_inside.go:122", after := #[{ on := 8, ground := Ground.data }, { on := 11, ground := Ground.chain }, { on := 0, ground := Ground.phase }, { on := 1, ground := Ground.phase }, { on := 2, ground := Ground.phase }, { on := 3, ground := Ground.phase }, { on := 4, ground := Ground.phase }, { on := 5, ground := Ground.phase }, { on := 6, ground := Ground.phase }, { on := 7, ground := Ground.phase }, { on := 8, ground := Ground.phase }, { on := 9, ground := Ground.phase }, { on := 10, ground := Ground.phase }, { on := 11, ground := Ground.phase }], guard := none }) rfl (fun K hK => ?_) AllReadyH.nil
      go_simp
      refine hK.out _ _ ?_ (fun hHeld => ?_)
      · exact ⟨by go_simp, by go_simp, by go_simp, by go_simp, by go_simp, by go_simp⟩
      clear hK K
      try simp only [Act.put, List.setIfInBounds_toArray, List.set_cons_zero, List.set_cons_succ]
      refine wpAnyH_done (by kernel_rfl) ?_ _
      go_wp2
      refine bodyPost_ret (v := .tuple #[.agg #[.int .i64 x1, .int .i64 y1], .agg #[.int .i64 x3, .int .i64 y3], .agg #[.int .i64 x2, .int .i64 y2], .agg #[.int .i64 x9, .int .i64 y9]]) (by simp [results, Tryd.results36, go_sem, rza0, rzb0, rza1, rzb1, rza2, rzb2, rza3, rzb3]) rfl ⟨_, _, _, _, _, _, _, _, rfl, ?_⟩
      have hZ : Below w.heap.size wB w9 := hO9.below (by omega) (by omega)
      exact hW.trans (by go_grown)
    · refine wp_region_held_drew (S := (fun u => u.cell? ⟨w3.heap.size, 0, none⟩ = some (.int .i64 x1) ∧ u.cell? ⟨w3.heap.size, 1, none⟩ = some (.int .i64 y1) ∧ u.cell? ⟨w3.heap.size + 1, 0, none⟩ = some (.int .i64 x2) ∧ u.cell? ⟨w3.heap.size + 1, 1, none⟩ = some (.int .i64 y2) ∧ u.cell? ⟨w3.heap.size + 1 + 1, 0, none⟩ = some (.int .i64 x3) ∧ u.cell? ⟨w3.heap.size + 1 + 1, 1, none⟩ = some (.int .i64 y3))) (by kernel_rfl) ?_ (fun hHeld => ?_)
      · exact ⟨s00, s01, s10, s11, s20, s21⟩
      refine wpAnyH_take (i := 0) (oi := { dst := some 38, op := Op.load 26 (Operand.tmp 7), type := 26, pos := "l4_inside.go:124", after := #[], guard := none }) (v := ?vVx0) rfl (by kernel_rfl) (by kernel_rfl) (by kernel_rfl) (fun _ _ _ h => h) (Or.inl ⟨by rfl, ?hyVx0⟩) (by with_reducible assumption) ?restVx0
      case hyVx0 => (intro w hSw; (try dsimp only at hSw); go_simp; try with_reducible rfl)
      case' restVx0 => (try simp only [Act.put, List.setIfInBounds_toArray, List.set_cons_zero, List.set_cons_succ])
      refine wpAnyH_take (i := 1) (oi := { dst := some 39, op := Op.load 26 (Operand.tmp 8), type := 26, pos := "l4_inside.go:124", after := #[{ on := 9, ground := Ground.gcOnly Departure.lateStores }], guard := none }) (v := ?vVx1) rfl (by kernel_rfl) (by kernel_rfl) (by kernel_rfl) (fun _ _ _ h => h) (Or.inl ⟨by rfl, ?hyVx1⟩) (by with_reducible assumption) ?restVx1
      case hyVx1 => (intro w hSw; (try dsimp only at hSw); go_simp; try with_reducible rfl)
      case' restVx1 => (try simp only [Act.put, List.setIfInBounds_toArray, List.set_cons_zero, List.set_cons_succ])
      refine wpAnyH_take (i := 2) (oi := { dst := some 40, op := Op.load 26 (Operand.tmp 9), type := 26, pos := "l4_inside.go:124", after := #[{ on := 10, ground := Ground.gcOnly Departure.lateStores }], guard := none }) (v := ?vVx2) rfl (by kernel_rfl) (by kernel_rfl) (by kernel_rfl) (fun _ _ _ h => h) (Or.inl ⟨by rfl, ?hyVx2⟩) (by with_reducible assumption) ?restVx2
      case hyVx2 => (intro w hSw; (try dsimp only at hSw); go_simp; try with_reducible rfl)
      case' restVx2 => (try simp only [Act.put, List.setIfInBounds_toArray, List.set_cons_zero, List.set_cons_succ])
      refine wpAnyH_take (i := 3) (oi := { dst := some 41, op := Op.move (Operand.tmp 6), type := 67, pos := "l4_inside.go:124", after := #[], guard := none }) (v := ?vVx3) rfl (by kernel_rfl) (by kernel_rfl) (by kernel_rfl) (fun _ _ _ h => h) (Or.inl ⟨by rfl, ?hyVx3⟩) (by with_reducible assumption) ?restVx3
      case hyVx3 => (intro w hSw; (try dsimp only at hSw); go_simp; try with_reducible rfl)
      case' restVx3 => (try simp only [Act.put, List.setIfInBounds_toArray, List.set_cons_zero, List.set_cons_succ])
      refine wpAnyH_take (i := 4) (oi := { dst := some 42, op := Op.load 26 (Operand.tmp 7), type := 26, pos := "l4_inside.go:124", after := #[], guard := none }) (v := ?vVx4) rfl (by kernel_rfl) (by kernel_rfl) (by kernel_rfl) (fun _ _ _ h => h) (Or.inl ⟨by rfl, ?hyVx4⟩) (by with_reducible assumption) ?restVx4
      case hyVx4 => (intro w hSw; (try dsimp only at hSw); go_simp; try with_reducible rfl)
      case' restVx4 => (try simp only [Act.put, List.setIfInBounds_toArray, List.set_cons_zero, List.set_cons_succ])
      refine wpAnyH_take (i := 5) (oi := { dst := some 43, op := Op.load 26 (Operand.tmp 8), type := 26, pos := "l4_inside.go:124", after := #[], guard := none }) (v := ?vVx5) rfl (by kernel_rfl) (by kernel_rfl) (by kernel_rfl) (fun _ _ _ h => h) (Or.inl ⟨by rfl, ?hyVx5⟩) (by with_reducible assumption) ?restVx5
      case hyVx5 => (intro w hSw; (try dsimp only at hSw); go_simp; try with_reducible rfl)
      case' restVx5 => (try simp only [Act.put, List.setIfInBounds_toArray, List.set_cons_zero, List.set_cons_succ])
      refine wpAnyH_take (i := 6) (oi := { dst := some 44, op := Op.load 26 (Operand.tmp 9), type := 26, pos := "l4_inside.go:124", after := #[], guard := none }) (v := ?vVx6) rfl (by kernel_rfl) (by kernel_rfl) (by kernel_rfl) (fun _ _ _ h => h) (Or.inl ⟨by rfl, ?hyVx6⟩) (by with_reducible assumption) ?restVx6
      case hyVx6 => (intro w hSw; (try dsimp only at hSw); go_simp; try with_reducible rfl)
      case' restVx6 => (try simp only [Act.put, List.setIfInBounds_toArray, List.set_cons_zero, List.set_cons_succ])
      refine wpAnyH_ready (rs := [7]) (by kernel_rfl) (by simp) ?_
      refine AllReadyH.cons (o := { dst := some 45, op := Op.buildSlice 35 3 #[(0, Operand.tmp 42), (1, Operand.tmp 43), (2, Operand.tmp 44)], type := 35, pos := "l4_inside.go:124", after := #[{ on := 4, ground := Ground.data }, { on := 5, ground := Ground.data }, { on := 6, ground := Ground.data }], guard := none }) rfl (fun K hK => ?_) AllReadyH.nil
      go_simp
      refine hK.out _ _ ?_ (fun hHeld => ?_)
      · exact ⟨by go_simp, by go_simp, by go_simp, by go_simp, by go_simp, by go_simp⟩
      clear hK K
      try simp only [Act.put, List.setIfInBounds_toArray, List.set_cons_zero, List.set_cons_succ]
      refine wpAnyH_ready (rs := [8]) (by kernel_rfl) (by simp) ?_
      refine AllReadyH.cons (o := { dst := some 46, op := Op.call { callee := Callee.value (Operand.func 54), args := #[Operand.tmp 41, Operand.tmp 45], argTypes := #[67, 35] }, type := 26, pos := "l4_inside.go:124", after := #[{ on := 3, ground := Ground.data }, { on := 7, ground := Ground.data }], guard := none }) rfl (fun K hK => ?_) AllReadyH.nil
      go_simp
      refine (near_r [(x1, y1), (x2, y2), (x3, y3)] (some ⟨wE.heap.size, 0, none⟩) 3 3 w.heap.size b _ _ (hRE.below (by go_grown)) (by omega) rfl (by omega) (at3 (by go_simp) (by go_simp) (by go_simp) (by go_simp) (by go_simp) (by go_simp)) (fun g off e => by cases e; omega)).mono ?_
      rintro e w9 ⟨x9, y9, rfl, hR9, hP9⟩
      have hQ9 : Only b wE w9 := (((Only.refl b wE).alloc _).drew).trans hP9
      have hO9 := hOE'.trans hQ9
      have hs9 := hQ9.size
      have t00 := (hQ9.cell (p := ⟨w3.heap.size, 0, none⟩) (show w3.heap.size < wE.heap.size by omega) (show w3.heap.size ≠ b by omega)).trans s00
      have t01 := (hQ9.cell (p := ⟨w3.heap.size, 1, none⟩) (show w3.heap.size < wE.heap.size by omega) (show w3.heap.size ≠ b by omega)).trans s01
      have t10 := (hQ9.cell (p := ⟨w3.heap.size + 1, 0, none⟩) (show w3.heap.size + 1 < wE.heap.size by omega) (show w3.heap.size + 1 ≠ b by omega)).trans s10
      have t11 := (hQ9.cell (p := ⟨w3.heap.size + 1, 1, none⟩) (show w3.heap.size + 1 < wE.heap.size by omega) (show w3.heap.size + 1 ≠ b by omega)).trans s11
      have t20 := (hQ9.cell (p := ⟨w3.heap.size + 1 + 1, 0, none⟩) (show w3.heap.size + 1 + 1 < wE.heap.size by omega) (show w3.heap.size + 1 + 1 ≠ b by omega)).trans s20
      have t21 := (hQ9.cell (p := ⟨w3.heap.size + 1 + 1, 1, none⟩) (show w3.heap.size + 1 + 1 < wE.heap.size by omega) (show w3.heap.size + 1 + 1 ≠ b by omega)).trans s21
      have rza0 := (hO9.cell (p := ⟨w.heap.size, 0, none⟩) (show w.heap.size < wB.heap.size by omega) (show w.heap.size ≠ b by omega)).trans za0
      have rzb0 := (hO9.cell (p := ⟨w.heap.size, 1, none⟩) (show w.heap.size < wB.heap.size by omega) (show w.heap.size ≠ b by omega)).trans zb0
      have rya0 := (hO9.frozen (p := ⟨w.heap.size, 0, none⟩) (show w.heap.size < wB.heap.size by omega) (show w.heap.size ≠ b by omega)).trans ya0
      have ryb0 := (hO9.frozen (p := ⟨w.heap.size, 1, none⟩) (show w.heap.size < wB.heap.size by omega) (show w.heap.size ≠ b by omega)).trans yb0
      have rza1 := (hO9.cell (p := ⟨w.heap.size + 1, 0, none⟩) (show w.heap.size + 1 < wB.heap.size by omega) (show w.heap.size + 1 ≠ b by omega)).trans za1
      have rzb1 := (hO9.cell (p := ⟨w.heap.size + 1, 1, none⟩) (show w.heap.size + 1 < wB.heap.size by omega) (show w.heap.size + 1 ≠ b by omega)).trans zb1
      have rya1 := (hO9.frozen (p := ⟨w.heap.size + 1, 0, none⟩) (show w.heap.size + 1 < wB.heap.size by omega) (show w.heap.size + 1 ≠ b by omega)).trans ya1
      have ryb1 := (hO9.frozen (p := ⟨w.heap.size + 1, 1, none⟩) (show w.heap.size + 1 < wB.heap.size by omega) (show w.heap.size + 1 ≠ b by omega)).trans yb1
      have rza2 := (hO9.cell (p := ⟨w.heap.size + 1 + 1, 0, none⟩) (show w.heap.size + 1 + 1 < wB.heap.size by omega) (show w.heap.size + 1 + 1 ≠ b by omega)).trans za2
      have rzb2 := (hO9.cell (p := ⟨w.heap.size + 1 + 1, 1, none⟩) (show w.heap.size + 1 + 1 < wB.heap.size by omega) (show w.heap.size + 1 + 1 ≠ b by omega)).trans zb2
      have rya2 := (hO9.frozen (p := ⟨w.heap.size + 1 + 1, 0, none⟩) (show w.heap.size + 1 + 1 < wB.heap.size by omega) (show w.heap.size + 1 + 1 ≠ b by omega)).trans ya2
      have ryb2 := (hO9.frozen (p := ⟨w.heap.size + 1 + 1, 1, none⟩) (show w.heap.size + 1 + 1 < wB.heap.size by omega) (show w.heap.size + 1 + 1 ≠ b by omega)).trans yb2
      have rza3 := (hO9.cell (p := ⟨w.heap.size + 1 + 1 + 1, 0, none⟩) (show w.heap.size + 1 + 1 + 1 < wB.heap.size by omega) (show w.heap.size + 1 + 1 + 1 ≠ b by omega)).trans za3
      have rzb3 := (hO9.cell (p := ⟨w.heap.size + 1 + 1 + 1, 1, none⟩) (show w.heap.size + 1 + 1 + 1 < wB.heap.size by omega) (show w.heap.size + 1 + 1 + 1 ≠ b by omega)).trans zb3
      have rya3 := (hO9.frozen (p := ⟨w.heap.size + 1 + 1 + 1, 0, none⟩) (show w.heap.size + 1 + 1 + 1 < wB.heap.size by omega) (show w.heap.size + 1 + 1 + 1 ≠ b by omega)).trans ya3
      have ryb3 := (hO9.frozen (p := ⟨w.heap.size + 1 + 1 + 1, 1, none⟩) (show w.heap.size + 1 + 1 + 1 < wB.heap.size by omega) (show w.heap.size + 1 + 1 + 1 ≠ b by omega)).trans yb3
      have n00 : w.heap.size < w3.heap.size := by omega
      have n01 : w.heap.size + 1 < w3.heap.size := by omega
      have n02 : w.heap.size + 1 + 1 < w3.heap.size := by omega
      have n03 : w.heap.size + 1 + 1 + 1 < w3.heap.size := by omega
      have n10 : w.heap.size < w3.heap.size + 1 := by omega
      have n11 : w.heap.size + 1 < w3.heap.size + 1 := by omega
      have n12 : w.heap.size + 1 + 1 < w3.heap.size + 1 := by omega
      have n13 : w.heap.size + 1 + 1 + 1 < w3.heap.size + 1 := by omega
      have n20 : w.heap.size < w3.heap.size + 1 + 1 := by omega
      have n21 : w.heap.size + 1 < w3.heap.size + 1 + 1 := by omega
      have n22 : w.heap.size + 1 + 1 < w3.heap.size + 1 + 1 := by omega
      have n23 : w.heap.size + 1 + 1 + 1 < w3.heap.size + 1 + 1 := by omega
      clear za0 zb0 ya0 yb0 za1 zb1 ya1 yb1 za2 zb2 ya2 yb2 za3 zb3 ya3 yb3
      go_wp2_with fail
      refine hK.out _ _ ?_ (fun hHeld => ?_)
      · exact ⟨t00, t01, t10, t11, t20, t21⟩
      clear hK K
      try simp only [Act.put, List.setIfInBounds_toArray, List.set_cons_zero, List.set_cons_succ]
      refine wpAnyH_ready (rs := [9]) (by kernel_rfl) (by simp) ?_
      refine AllReadyH.cons (o := { dst := none, op := Op.store 26 (Operand.tmp 2) (Operand.tmp 38), type := 0, pos := "l4_inside.go:124", after := #[{ on := 0, ground := Ground.data }, { on := 8, ground := Ground.chain }, { on := 0, ground := Ground.phase }, { on := 1, ground := Ground.textOnly Departure.lateStores }, { on := 2, ground := Ground.textOnly Departure.lateStores }, { on := 3, ground := Ground.textOnly Departure.lateStores }, { on := 4, ground := Ground.textOnly Departure.lateStores }, { on := 5, ground := Ground.textOnly Departure.lateStores }, { on := 6, ground := Ground.textOnly Departure.lateStores }, { on := 7, ground := Ground.textOnly Departure.lateStores }, { on := 8, ground := Ground.textOnly Departure.lateStoresUnsure }], guard := none }) rfl (fun K hK => ?_) AllReadyH.nil
      go_simp
      refine hK.out _ _ ?_ (fun hHeld => ?_)
      · exact ⟨by go_simp, by go_simp, by go_simp, by go_simp, by go_simp, by go_simp⟩
      clear hK K
      try simp only [Act.put, List.setIfInBounds_toArray, List.set_cons_zero, List.set_cons_succ]
      refine wpAnyH_ready (rs := [10]) (by kernel_rfl) (by simp) ?_
      refine AllReadyH.cons (o := { dst := none, op := Op.store 26 (Operand.tmp 3) (Operand.tmp 39), type := 0, pos := "l4_inside.go:124", after := #[{ on := 1, ground := Ground.data }, { on := 9, ground := Ground.chain }, { on := 0, ground := Ground.phase }, { on := 1, ground := Ground.phase }, { on := 2, ground := Ground.textOnly Departure.lateStores }, { on := 3, ground := Ground.textOnly Departure.lateStores }, { on := 4, ground := Ground.textOnly Departure.lateStores }, { on := 5, ground := Ground.textOnly Departure.lateStores }, { on := 6, ground := Ground.textOnly Departure.lateStores }, { on := 7, ground := Ground.textOnly Departure.lateStores }, { on := 8, ground := Ground.textOnly Departure.lateStoresUnsure }, { on := 9, ground := Ground.phase }], guard := none }) rfl (fun K hK => ?_) AllReadyH.nil
      go_simp
      refine hK.out _ _ ?_ (fun hHeld => ?_)
      · exact ⟨by go_simp, by go_simp, by go_simp, by go_simp, by go_simp, by go_simp⟩
      clear hK K
      try simp only [Act.put, List.setIfInBounds_toArray, List.set_cons_zero, List.set_cons_succ]
      refine wpAnyH_ready (rs := [11]) (by kernel_rfl) (by simp) ?_
      refine AllReadyH.cons (o := { dst := none, op := Op.store 26 (Operand.tmp 4) (Operand.tmp 40), type := 0, pos := "l4_inside.go:124", after := #[{ on := 2, ground := Ground.data }, { on := 10, ground := Ground.chain }, { on := 0, ground := Ground.phase }, { on := 1, ground := Ground.phase }, { on := 2, ground := Ground.phase }, { on := 3, ground := Ground.textOnly Departure.lateStores }, { on := 4, ground := Ground.textOnly Departure.lateStores }, { on := 5, ground := Ground.textOnly Departure.lateStores }, { on := 6, ground := Ground.textOnly Departure.lateStores }, { on := 7, ground := Ground.textOnly Departure.lateStores }, { on := 8, ground := Ground.textOnly Departure.lateStoresUnsure }, { on := 9, ground := Ground.phase }, { on := 10, ground := Ground.phase }], guard := none }) rfl (fun K hK => ?_) AllReadyH.nil
      go_simp
      refine hK.out _ _ ?_ (fun hHeld => ?_)
      · exact ⟨by go_simp, by go_simp, by go_simp, by go_simp, by go_simp, by go_simp⟩
      clear hK K
      try simp only [Act.put, List.setIfInBounds_toArray, List.set_cons_zero, List.set_cons_succ]
      refine wpAnyH_ready (rs := [12]) (by kernel_rfl) (by simp) ?_
      refine AllReadyH.cons (o := { dst := none, op := Op.store 26 (Operand.tmp 5) (Operand.tmp 46), type := 0, pos := "l4_inside.go:124", after := #[{ on := 8, ground := Ground.data }, { on := 11, ground := Ground.chain }, { on := 0, ground := Ground.phase }, { on := 1, ground := Ground.phase }, { on := 2, ground := Ground.phase }, { on := 3, ground := Ground.phase }, { on := 4, ground := Ground.phase }, { on := 5, ground := Ground.phase }, { on := 6, ground := Ground.phase }, { on := 7, ground := Ground.phase }, { on := 8, ground := Ground.phase }, { on := 9, ground := Ground.phase }, { on := 10, ground := Ground.phase }, { on := 11, ground := Ground.phase }], guard := none }) rfl (fun K hK => ?_) AllReadyH.nil
      go_simp
      refine hK.out _ _ ?_ (fun hHeld => ?_)
      · exact ⟨by go_simp, by go_simp, by go_simp, by go_simp, by go_simp, by go_simp⟩
      clear hK K
      try simp only [Act.put, List.setIfInBounds_toArray, List.set_cons_zero, List.set_cons_succ]
      refine wpAnyH_done (by kernel_rfl) ?_ _
      go_wp2
      refine bodyPost_ret (v := .tuple #[.agg #[.int .i64 x1, .int .i64 y1], .agg #[.int .i64 x2, .int .i64 y2], .agg #[.int .i64 x3, .int .i64 y3], .agg #[.int .i64 x9, .int .i64 y9]]) (by simp [results, Tryd.results36, go_sem, rza0, rzb0, rza1, rzb1, rza2, rzb2, rza3, rzb3]) rfl ⟨_, _, _, _, _, _, _, _, rfl, ?_⟩
      have hZ : Below w.heap.size wB w9 := hO9.below (by omega) (by omega)
      exact hW.trans (by go_grown)
  · go_upto_region 5 with (first
      | (go_at_call 42; refine (side_c _ _ _ _ _ _ _).mono ?_; rintro e wD ⟨rfl, hbD⟩; have hsD := hbD.size; have hd0 : w3.heap.size < wD.heap.size := (by omega); have hd1 : w3.heap.size + 1 < wD.heap.size := (by omega); have hd2 : w3.heap.size + 1 + 1 < wD.heap.size := (by omega); replace s00 := cell_later hbD s00; replace s01 := cell_later hbD s01; replace s10 := cell_later hbD s10; replace s11 := cell_later hbD s11; replace s20 := cell_later hbD s20; replace s21 := cell_later hbD s21; have hRD := hRC.below (hbD.mono (by have := hRC.lt; omega)); have hOD := hOC.trans (Only.ofBelow (b := b) hbD)))
    refine wp_region_held_drew (S := (fun u => u.cell? ⟨w3.heap.size, 0, none⟩ = some (.int .i64 x1) ∧ u.cell? ⟨w3.heap.size, 1, none⟩ = some (.int .i64 y1) ∧ u.cell? ⟨w3.heap.size + 1, 0, none⟩ = some (.int .i64 x2) ∧ u.cell? ⟨w3.heap.size + 1, 1, none⟩ = some (.int .i64 y2) ∧ u.cell? ⟨w3.heap.size + 1 + 1, 0, none⟩ = some (.int .i64 x3) ∧ u.cell? ⟨w3.heap.size + 1 + 1, 1, none⟩ = some (.int .i64 y3))) (by kernel_rfl) ?_ (fun hHeld => ?_)
    · exact ⟨s00, s01, s10, s11, s20, s21⟩
    refine wpAnyH_take (i := 0) (oi := { dst := some 38, op := Op.load 26 (Operand.tmp 7), type := 26, pos := "l4_inside.go:124", after := #[], guard := none }) (v := ?vTx0) rfl (by kernel_rfl) (by kernel_rfl) (by kernel_rfl) (fun _ _ _ h => h) (Or.inl ⟨by rfl, ?hyTx0⟩) (by with_reducible assumption) ?restTx0
    case hyTx0 => (intro w hSw; (try dsimp only at hSw); go_simp; try with_reducible rfl)
    case' restTx0 => (try simp only [Act.put, List.setIfInBounds_toArray, List.set_cons_zero, List.set_cons_succ])
    refine wpAnyH_take (i := 1) (oi := { dst := some 39, op := Op.load 26 (Operand.tmp 8), type := 26, pos := "l4_inside.go:124", after := #[{ on := 9, ground := Ground.gcOnly Departure.lateStores }], guard := none }) (v := ?vTx1) rfl (by kernel_rfl) (by kernel_rfl) (by kernel_rfl) (fun _ _ _ h => h) (Or.inl ⟨by rfl, ?hyTx1⟩) (by with_reducible assumption) ?restTx1
    case hyTx1 => (intro w hSw; (try dsimp only at hSw); go_simp; try with_reducible rfl)
    case' restTx1 => (try simp only [Act.put, List.setIfInBounds_toArray, List.set_cons_zero, List.set_cons_succ])
    refine wpAnyH_take (i := 2) (oi := { dst := some 40, op := Op.load 26 (Operand.tmp 9), type := 26, pos := "l4_inside.go:124", after := #[{ on := 10, ground := Ground.gcOnly Departure.lateStores }], guard := none }) (v := ?vTx2) rfl (by kernel_rfl) (by kernel_rfl) (by kernel_rfl) (fun _ _ _ h => h) (Or.inl ⟨by rfl, ?hyTx2⟩) (by with_reducible assumption) ?restTx2
    case hyTx2 => (intro w hSw; (try dsimp only at hSw); go_simp; try with_reducible rfl)
    case' restTx2 => (try simp only [Act.put, List.setIfInBounds_toArray, List.set_cons_zero, List.set_cons_succ])
    refine wpAnyH_take (i := 3) (oi := { dst := some 41, op := Op.move (Operand.tmp 6), type := 67, pos := "l4_inside.go:124", after := #[], guard := none }) (v := ?vTx3) rfl (by kernel_rfl) (by kernel_rfl) (by kernel_rfl) (fun _ _ _ h => h) (Or.inl ⟨by rfl, ?hyTx3⟩) (by with_reducible assumption) ?restTx3
    case hyTx3 => (intro w hSw; (try dsimp only at hSw); go_simp; try with_reducible rfl)
    case' restTx3 => (try simp only [Act.put, List.setIfInBounds_toArray, List.set_cons_zero, List.set_cons_succ])
    refine wpAnyH_take (i := 4) (oi := { dst := some 42, op := Op.load 26 (Operand.tmp 7), type := 26, pos := "l4_inside.go:124", after := #[], guard := none }) (v := ?vTx4) rfl (by kernel_rfl) (by kernel_rfl) (by kernel_rfl) (fun _ _ _ h => h) (Or.inl ⟨by rfl, ?hyTx4⟩) (by with_reducible assumption) ?restTx4
    case hyTx4 => (intro w hSw; (try dsimp only at hSw); go_simp; try with_reducible rfl)
    case' restTx4 => (try simp only [Act.put, List.setIfInBounds_toArray, List.set_cons_zero, List.set_cons_succ])
    refine wpAnyH_take (i := 5) (oi := { dst := some 43, op := Op.load 26 (Operand.tmp 8), type := 26, pos := "l4_inside.go:124", after := #[], guard := none }) (v := ?vTx5) rfl (by kernel_rfl) (by kernel_rfl) (by kernel_rfl) (fun _ _ _ h => h) (Or.inl ⟨by rfl, ?hyTx5⟩) (by with_reducible assumption) ?restTx5
    case hyTx5 => (intro w hSw; (try dsimp only at hSw); go_simp; try with_reducible rfl)
    case' restTx5 => (try simp only [Act.put, List.setIfInBounds_toArray, List.set_cons_zero, List.set_cons_succ])
    refine wpAnyH_take (i := 6) (oi := { dst := some 44, op := Op.load 26 (Operand.tmp 9), type := 26, pos := "l4_inside.go:124", after := #[], guard := none }) (v := ?vTx6) rfl (by kernel_rfl) (by kernel_rfl) (by kernel_rfl) (fun _ _ _ h => h) (Or.inl ⟨by rfl, ?hyTx6⟩) (by with_reducible assumption) ?restTx6
    case hyTx6 => (intro w hSw; (try dsimp only at hSw); go_simp; try with_reducible rfl)
    case' restTx6 => (try simp only [Act.put, List.setIfInBounds_toArray, List.set_cons_zero, List.set_cons_succ])
    refine wpAnyH_ready (rs := [7]) (by kernel_rfl) (by simp) ?_
    refine AllReadyH.cons (o := { dst := some 45, op := Op.buildSlice 35 3 #[(0, Operand.tmp 42), (1, Operand.tmp 43), (2, Operand.tmp 44)], type := 35, pos := "l4_inside.go:124", after := #[{ on := 4, ground := Ground.data }, { on := 5, ground := Ground.data }, { on := 6, ground := Ground.data }], guard := none }) rfl (fun K hK => ?_) AllReadyH.nil
    go_simp
    refine hK.out _ _ ?_ (fun hHeld => ?_)
    · exact ⟨by go_simp, by go_simp, by go_simp, by go_simp, by go_simp, by go_simp⟩
    clear hK K
    try simp only [Act.put, List.setIfInBounds_toArray, List.set_cons_zero, List.set_cons_succ]
    refine wpAnyH_ready (rs := [8]) (by kernel_rfl) (by simp) ?_
    refine AllReadyH.cons (o := { dst := some 46, op := Op.call { callee := Callee.value (Operand.func 54), args := #[Operand.tmp 41, Operand.tmp 45], argTypes := #[67, 35] }, type := 26, pos := "l4_inside.go:124", after := #[{ on := 3, ground := Ground.data }, { on := 7, ground := Ground.data }], guard := none }) rfl (fun K hK => ?_) AllReadyH.nil
    go_simp
    refine (near_r [(x1, y1), (x2, y2), (x3, y3)] (some ⟨wD.heap.size, 0, none⟩) 3 3 w.heap.size b _ _ (hRD.below (by go_grown)) (by omega) rfl (by omega) (at3 (by go_simp) (by go_simp) (by go_simp) (by go_simp) (by go_simp) (by go_simp)) (fun g off e => by cases e; omega)).mono ?_
    rintro e w9 ⟨x9, y9, rfl, hR9, hP9⟩
    have hQ9 : Only b wD w9 := (((Only.refl b wD).alloc _).drew).trans hP9
    have hO9 := hOD.trans hQ9
    have hs9 := hQ9.size
    have t00 := (hQ9.cell (p := ⟨w3.heap.size, 0, none⟩) (show w3.heap.size < wD.heap.size by omega) (show w3.heap.size ≠ b by omega)).trans s00
    have t01 := (hQ9.cell (p := ⟨w3.heap.size, 1, none⟩) (show w3.heap.size < wD.heap.size by omega) (show w3.heap.size ≠ b by omega)).trans s01
    have t10 := (hQ9.cell (p := ⟨w3.heap.size + 1, 0, none⟩) (show w3.heap.size + 1 < wD.heap.size by omega) (show w3.heap.size + 1 ≠ b by omega)).trans s10
    have t11 := (hQ9.cell (p := ⟨w3.heap.size + 1, 1, none⟩) (show w3.heap.size + 1 < wD.heap.size by omega) (show w3.heap.size + 1 ≠ b by omega)).trans s11
    have t20 := (hQ9.cell (p := ⟨w3.heap.size + 1 + 1, 0, none⟩) (show w3.heap.size + 1 + 1 < wD.heap.size by omega) (show w3.heap.size + 1 + 1 ≠ b by omega)).trans s20
    have t21 := (hQ9.cell (p := ⟨w3.heap.size + 1 + 1, 1, none⟩) (show w3.heap.size + 1 + 1 < wD.heap.size by omega) (show w3.heap.size + 1 + 1 ≠ b by omega)).trans s21
    have rza0 := (hO9.cell (p := ⟨w.heap.size, 0, none⟩) (show w.heap.size < wB.heap.size by omega) (show w.heap.size ≠ b by omega)).trans za0
    have rzb0 := (hO9.cell (p := ⟨w.heap.size, 1, none⟩) (show w.heap.size < wB.heap.size by omega) (show w.heap.size ≠ b by omega)).trans zb0
    have rya0 := (hO9.frozen (p := ⟨w.heap.size, 0, none⟩) (show w.heap.size < wB.heap.size by omega) (show w.heap.size ≠ b by omega)).trans ya0
    have ryb0 := (hO9.frozen (p := ⟨w.heap.size, 1, none⟩) (show w.heap.size < wB.heap.size by omega) (show w.heap.size ≠ b by omega)).trans yb0
    have rza1 := (hO9.cell (p := ⟨w.heap.size + 1, 0, none⟩) (show w.heap.size + 1 < wB.heap.size by omega) (show w.heap.size + 1 ≠ b by omega)).trans za1
    have rzb1 := (hO9.cell (p := ⟨w.heap.size + 1, 1, none⟩) (show w.heap.size + 1 < wB.heap.size by omega) (show w.heap.size + 1 ≠ b by omega)).trans zb1
    have rya1 := (hO9.frozen (p := ⟨w.heap.size + 1, 0, none⟩) (show w.heap.size + 1 < wB.heap.size by omega) (show w.heap.size + 1 ≠ b by omega)).trans ya1
    have ryb1 := (hO9.frozen (p := ⟨w.heap.size + 1, 1, none⟩) (show w.heap.size + 1 < wB.heap.size by omega) (show w.heap.size + 1 ≠ b by omega)).trans yb1
    have rza2 := (hO9.cell (p := ⟨w.heap.size + 1 + 1, 0, none⟩) (show w.heap.size + 1 + 1 < wB.heap.size by omega) (show w.heap.size + 1 + 1 ≠ b by omega)).trans za2
    have rzb2 := (hO9.cell (p := ⟨w.heap.size + 1 + 1, 1, none⟩) (show w.heap.size + 1 + 1 < wB.heap.size by omega) (show w.heap.size + 1 + 1 ≠ b by omega)).trans zb2
    have rya2 := (hO9.frozen (p := ⟨w.heap.size + 1 + 1, 0, none⟩) (show w.heap.size + 1 + 1 < wB.heap.size by omega) (show w.heap.size + 1 + 1 ≠ b by omega)).trans ya2
    have ryb2 := (hO9.frozen (p := ⟨w.heap.size + 1 + 1, 1, none⟩) (show w.heap.size + 1 + 1 < wB.heap.size by omega) (show w.heap.size + 1 + 1 ≠ b by omega)).trans yb2
    have rza3 := (hO9.cell (p := ⟨w.heap.size + 1 + 1 + 1, 0, none⟩) (show w.heap.size + 1 + 1 + 1 < wB.heap.size by omega) (show w.heap.size + 1 + 1 + 1 ≠ b by omega)).trans za3
    have rzb3 := (hO9.cell (p := ⟨w.heap.size + 1 + 1 + 1, 1, none⟩) (show w.heap.size + 1 + 1 + 1 < wB.heap.size by omega) (show w.heap.size + 1 + 1 + 1 ≠ b by omega)).trans zb3
    have rya3 := (hO9.frozen (p := ⟨w.heap.size + 1 + 1 + 1, 0, none⟩) (show w.heap.size + 1 + 1 + 1 < wB.heap.size by omega) (show w.heap.size + 1 + 1 + 1 ≠ b by omega)).trans ya3
    have ryb3 := (hO9.frozen (p := ⟨w.heap.size + 1 + 1 + 1, 1, none⟩) (show w.heap.size + 1 + 1 + 1 < wB.heap.size by omega) (show w.heap.size + 1 + 1 + 1 ≠ b by omega)).trans yb3
    have n00 : w.heap.size < w3.heap.size := by omega
    have n01 : w.heap.size + 1 < w3.heap.size := by omega
    have n02 : w.heap.size + 1 + 1 < w3.heap.size := by omega
    have n03 : w.heap.size + 1 + 1 + 1 < w3.heap.size := by omega
    have n10 : w.heap.size < w3.heap.size + 1 := by omega
    have n11 : w.heap.size + 1 < w3.heap.size + 1 := by omega
    have n12 : w.heap.size + 1 + 1 < w3.heap.size + 1 := by omega
    have n13 : w.heap.size + 1 + 1 + 1 < w3.heap.size + 1 := by omega
    have n20 : w.heap.size < w3.heap.size + 1 + 1 := by omega
    have n21 : w.heap.size + 1 < w3.heap.size + 1 + 1 := by omega
    have n22 : w.heap.size + 1 + 1 < w3.heap.size + 1 + 1 := by omega
    have n23 : w.heap.size + 1 + 1 + 1 < w3.heap.size + 1 + 1 := by omega
    clear za0 zb0 ya0 yb0 za1 zb1 ya1 yb1 za2 zb2 ya2 yb2 za3 zb3 ya3 yb3
    go_wp2_with fail
    refine hK.out _ _ ?_ (fun hHeld => ?_)
    · exact ⟨t00, t01, t10, t11, t20, t21⟩
    clear hK K
    try simp only [Act.put, List.setIfInBounds_toArray, List.set_cons_zero, List.set_cons_succ]
    refine wpAnyH_ready (rs := [9]) (by kernel_rfl) (by simp) ?_
    refine AllReadyH.cons (o := { dst := none, op := Op.store 26 (Operand.tmp 2) (Operand.tmp 38), type := 0, pos := "l4_inside.go:124", after := #[{ on := 0, ground := Ground.data }, { on := 8, ground := Ground.chain }, { on := 0, ground := Ground.phase }, { on := 1, ground := Ground.textOnly Departure.lateStores }, { on := 2, ground := Ground.textOnly Departure.lateStores }, { on := 3, ground := Ground.textOnly Departure.lateStores }, { on := 4, ground := Ground.textOnly Departure.lateStores }, { on := 5, ground := Ground.textOnly Departure.lateStores }, { on := 6, ground := Ground.textOnly Departure.lateStores }, { on := 7, ground := Ground.textOnly Departure.lateStores }, { on := 8, ground := Ground.textOnly Departure.lateStoresUnsure }], guard := none }) rfl (fun K hK => ?_) AllReadyH.nil
    go_simp
    refine hK.out _ _ ?_ (fun hHeld => ?_)
    · exact ⟨by go_simp, by go_simp, by go_simp, by go_simp, by go_simp, by go_simp⟩
    clear hK K
    try simp only [Act.put, List.setIfInBounds_toArray, List.set_cons_zero, List.set_cons_succ]
    refine wpAnyH_ready (rs := [10]) (by kernel_rfl) (by simp) ?_
    refine AllReadyH.cons (o := { dst := none, op := Op.store 26 (Operand.tmp 3) (Operand.tmp 39), type := 0, pos := "l4_inside.go:124", after := #[{ on := 1, ground := Ground.data }, { on := 9, ground := Ground.chain }, { on := 0, ground := Ground.phase }, { on := 1, ground := Ground.phase }, { on := 2, ground := Ground.textOnly Departure.lateStores }, { on := 3, ground := Ground.textOnly Departure.lateStores }, { on := 4, ground := Ground.textOnly Departure.lateStores }, { on := 5, ground := Ground.textOnly Departure.lateStores }, { on := 6, ground := Ground.textOnly Departure.lateStores }, { on := 7, ground := Ground.textOnly Departure.lateStores }, { on := 8, ground := Ground.textOnly Departure.lateStoresUnsure }, { on := 9, ground := Ground.phase }], guard := none }) rfl (fun K hK => ?_) AllReadyH.nil
    go_simp
    refine hK.out _ _ ?_ (fun hHeld => ?_)
    · exact ⟨by go_simp, by go_simp, by go_simp, by go_simp, by go_simp, by go_simp⟩
    clear hK K
    try simp only [Act.put, List.setIfInBounds_toArray, List.set_cons_zero, List.set_cons_succ]
    refine wpAnyH_ready (rs := [11]) (by kernel_rfl) (by simp) ?_
    refine AllReadyH.cons (o := { dst := none, op := Op.store 26 (Operand.tmp 4) (Operand.tmp 40), type := 0, pos := "l4_inside.go:124", after := #[{ on := 2, ground := Ground.data }, { on := 10, ground := Ground.chain }, { on := 0, ground := Ground.phase }, { on := 1, ground := Ground.phase }, { on := 2, ground := Ground.phase }, { on := 3, ground := Ground.textOnly Departure.lateStores }, { on := 4, ground := Ground.textOnly Departure.lateStores }, { on := 5, ground := Ground.textOnly Departure.lateStores }, { on := 6, ground := Ground.textOnly Departure.lateStores }, { on := 7, ground := Ground.textOnly Departure.lateStores }, { on := 8, ground := Ground.textOnly Departure.lateStoresUnsure }, { on := 9, ground := Ground.phase }, { on := 10, ground := Ground.phase }], guard := none }) rfl (fun K hK => ?_) AllReadyH.nil
    go_simp
    refine hK.out _ _ ?_ (fun hHeld => ?_)
    · exact ⟨by go_simp, by go_simp, by go_simp, by go_simp, by go_simp, by go_simp⟩
    clear hK K
    try simp only [Act.put, List.setIfInBounds_toArray, List.set_cons_zero, List.set_cons_succ]
    refine wpAnyH_ready (rs := [12]) (by kernel_rfl) (by simp) ?_
    refine AllReadyH.cons (o := { dst := none, op := Op.store 26 (Operand.tmp 5) (Operand.tmp 46), type := 0, pos := "l4_inside.go:124", after := #[{ on := 8, ground := Ground.data }, { on := 11, ground := Ground.chain }, { on := 0, ground := Ground.phase }, { on := 1, ground := Ground.phase }, { on := 2, ground := Ground.phase }, { on := 3, ground := Ground.phase }, { on := 4, ground := Ground.phase }, { on := 5, ground := Ground.phase }, { on := 6, ground := Ground.phase }, { on := 7, ground := Ground.phase }, { on := 8, ground := Ground.phase }, { on := 9, ground := Ground.phase }, { on := 10, ground := Ground.phase }, { on := 11, ground := Ground.phase }], guard := none }) rfl (fun K hK => ?_) AllReadyH.nil
    go_simp
    refine hK.out _ _ ?_ (fun hHeld => ?_)
    · exact ⟨by go_simp, by go_simp, by go_simp, by go_simp, by go_simp, by go_simp⟩
    clear hK K
    try simp only [Act.put, List.setIfInBounds_toArray, List.set_cons_zero, List.set_cons_succ]
    refine wpAnyH_done (by kernel_rfl) ?_ _
    go_wp2
    refine bodyPost_ret (v := .tuple #[.agg #[.int .i64 x1, .int .i64 y1], .agg #[.int .i64 x2, .int .i64 y2], .agg #[.int .i64 x3, .int .i64 y3], .agg #[.int .i64 x9, .int .i64 y9]]) (by simp [results, Tryd.results36, go_sem, rza0, rzb0, rza1, rzb1, rza2, rzb2, rza3, rzb3]) rfl ⟨_, _, _, _, _, _, _, _, rfl, ?_⟩
    have hZ : Below w.heap.size wB w9 := hO9.below (by omega) (by omega)
    exact hW.trans (by go_grown)
end Go.Proofs.YtcghpepkphphbaaDoor
