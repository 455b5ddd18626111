/-
  The draws of the arguments of the law of hulls and points (contracts for the walks).
  Conditions: as each theorem states them.
-/
import Derived.Test.YtcghpepkphphbaaDoorDrawWh
namespace Go.Proofs.YtcghpepkphphbaaDoor
open Go.RowKit
set_option linter.unusedVariables false
set_option maxHeartbeats 1600000 in
set_option maxRecDepth 8000 in
theorem drawSeg_c (a : Option Addr) (len cap : Nat) (w : World) (hB : Bytes w.heap.size a len w) (hl : len ≤ 1048576) :
    Calls Tryd.prog 37 #[.slice a len cap] w fun e w' => ∃ x0 y0 x1 y1 x2 y2 : Int, e = .returned (.tuple #[.agg #[.int .i64 x0, .int .i64 y0], .agg #[.int .i64 x1, .int .i64 y1], .agg #[.int .i64 x2, .int .i64 y2]]) ∧ Below w.heap.size w w' := by
  have hR0 : Rd w.heap.size (w.heap.size + 1 + 1 + 1) 0 ((((w.alloc (.cells #[.int .i64 0, .int .i64 0] 26)).alloc (.cells #[.int .i64 0, .int .i64 0] 26)).alloc (.cells #[.int .i64 0, .int .i64 0] 26)).alloc (.cells #[.slice a len cap, .int .i64 0, .int .u64 0] 70)) := rd_new w.heap.size (w.heap.size + 1 + 1 + 1) a len cap (((w.alloc (.cells #[.int .i64 0, .int .i64 0] 26)).alloc (.cells #[.int .i64 0, .int .i64 0] 26)).alloc (.cells #[.int .i64 0, .int .i64 0] 26)) (hB.below (show Below w.heap.size w (((w.alloc (.cells #[.int .i64 0, .int .i64 0] 26)).alloc (.cells #[.int .i64 0, .int .i64 0] 26)).alloc (.cells #[.int .i64 0, .int .i64 0] 26)) by go_grown)) hl (by omega) (by simp)
  clear hB
  have hW : Below w.heap.size w ((((w.alloc (.cells #[.int .i64 0, .int .i64 0] 26)).alloc (.cells #[.int .i64 0, .int .i64 0] 26)).alloc (.cells #[.int .i64 0, .int .i64 0] 26)).alloc (.cells #[.slice a len cap, .int .i64 0, .int .u64 0] 70)) := by go_grown
  have hsB : ((((w.alloc (.cells #[.int .i64 0, .int .i64 0] 26)).alloc (.cells #[.int .i64 0, .int .i64 0] 26)).alloc (.cells #[.int .i64 0, .int .i64 0] 26)).alloc (.cells #[.slice a len cap, .int .i64 0, .int .u64 0] 70)).heap.size = w.heap.size + 1 + 1 + 1 + 1 := by simp
  have za0 : ((((w.alloc (.cells #[.int .i64 0, .int .i64 0] 26)).alloc (.cells #[.int .i64 0, .int .i64 0] 26)).alloc (.cells #[.int .i64 0, .int .i64 0] 26)).alloc (.cells #[.slice a len cap, .int .i64 0, .int .u64 0] 70)).cell? ⟨w.heap.size, 0, none⟩ = some (.int .i64 0) := by go_simp
  have zb0 : ((((w.alloc (.cells #[.int .i64 0, .int .i64 0] 26)).alloc (.cells #[.int .i64 0, .int .i64 0] 26)).alloc (.cells #[.int .i64 0, .int .i64 0] 26)).alloc (.cells #[.slice a len cap, .int .i64 0, .int .u64 0] 70)).cell? ⟨w.heap.size, 1, none⟩ = some (.int .i64 0) := by go_simp
  have ya0 : ((((w.alloc (.cells #[.int .i64 0, .int .i64 0] 26)).alloc (.cells #[.int .i64 0, .int .i64 0] 26)).alloc (.cells #[.int .i64 0, .int .i64 0] 26)).alloc (.cells #[.slice a len cap, .int .i64 0, .int .u64 0] 70)).frozen? ⟨w.heap.size, 0, none⟩ = false := by go_simp
  have yb0 : ((((w.alloc (.cells #[.int .i64 0, .int .i64 0] 26)).alloc (.cells #[.int .i64 0, .int .i64 0] 26)).alloc (.cells #[.int .i64 0, .int .i64 0] 26)).alloc (.cells #[.slice a len cap, .int .i64 0, .int .u64 0] 70)).frozen? ⟨w.heap.size, 1, none⟩ = false := by go_simp
  have za1 : ((((w.alloc (.cells #[.int .i64 0, .int .i64 0] 26)).alloc (.cells #[.int .i64 0, .int .i64 0] 26)).alloc (.cells #[.int .i64 0, .int .i64 0] 26)).alloc (.cells #[.slice a len cap, .int .i64 0, .int .u64 0] 70)).cell? ⟨w.heap.size + 1, 0, none⟩ = some (.int .i64 0) := by go_simp
  have zb1 : ((((w.alloc (.cells #[.int .i64 0, .int .i64 0] 26)).alloc (.cells #[.int .i64 0, .int .i64 0] 26)).alloc (.cells #[.int .i64 0, .int .i64 0] 26)).alloc (.cells #[.slice a len cap, .int .i64 0, .int .u64 0] 70)).cell? ⟨w.heap.size + 1, 1, none⟩ = some (.int .i64 0) := by go_simp
  have ya1 : ((((w.alloc (.cells #[.int .i64 0, .int .i64 0] 26)).alloc (.cells #[.int .i64 0, .int .i64 0] 26)).alloc (.cells #[.int .i64 0, .int .i64 0] 26)).alloc (.cells #[.slice a len cap, .int .i64 0, .int .u64 0] 70)).frozen? ⟨w.heap.size + 1, 0, none⟩ = false := by go_simp
  have yb1 : ((((w.alloc (.cells #[.int .i64 0, .int .i64 0] 26)).alloc (.cells #[.int .i64 0, .int .i64 0] 26)).alloc (.cells #[.int .i64 0, .int .i64 0] 26)).alloc (.cells #[.slice a len cap, .int .i64 0, .int .u64 0] 70)).frozen? ⟨w.heap.size + 1, 1, none⟩ = false := by go_simp
  have za2 : ((((w.alloc (.cells #[.int .i64 0, .int .i64 0] 26)).alloc (.cells #[.int .i64 0, .int .i64 0] 26)).alloc (.cells #[.int .i64 0, .int .i64 0] 26)).alloc (.cells #[.slice a len cap, .int .i64 0, .int .u64 0] 70)).cell? ⟨w.heap.size + 1 + 1, 0, none⟩ = some (.int .i64 0) := by go_simp
  have zb2 : ((((w.alloc (.cells #[.int .i64 0, .int .i64 0] 26)).alloc (.cells #[.int .i64 0, .int .i64 0] 26)).alloc (.cells #[.int .i64 0, .int .i64 0] 26)).alloc (.cells #[.slice a len cap, .int .i64 0, .int .u64 0] 70)).cell? ⟨w.heap.size + 1 + 1, 1, none⟩ = some (.int .i64 0) := by go_simp
  have ya2 : ((((w.alloc (.cells #[.int .i64 0, .int .i64 0] 26)).alloc (.cells #[.int .i64 0, .int .i64 0] 26)).alloc (.cells #[.int .i64 0, .int .i64 0] 26)).alloc (.cells #[.slice a len cap, .int .i64 0, .int .u64 0] 70)).frozen? ⟨w.heap.size + 1 + 1, 0, none⟩ = false := by go_simp
  have yb2 : ((((w.alloc (.cells #[.int .i64 0, .int .i64 0] 26)).alloc (.cells #[.int .i64 0, .int .i64 0] 26)).alloc (.cells #[.int .i64 0, .int .i64 0] 26)).alloc (.cells #[.slice a len cap, .int .i64 0, .int .u64 0] 70)).frozen? ⟨w.heap.size + 1 + 1, 1, none⟩ = false := by go_simp
  go_enter Tryd.func37, Tryd.ntmps37
  go_upto_region 2 with fail
  generalize ((((w.alloc (.cells #[.int .i64 0, .int .i64 0] 26)).alloc (.cells #[.int .i64 0, .int .i64 0] 26)).alloc (.cells #[.int .i64 0, .int .i64 0] 26)).alloc (.cells #[.slice a len cap, .int .i64 0, .int .u64 0] 70)) = wB at hR0 hW hsB za0 zb0 ya0 yb0 za1 zb1 ya1 yb1 za2 zb2 ya2 yb2 ⊢
  generalize hbe : w.heap.size + 1 + 1 + 1 = b at hR0 hsB ⊢
  have tk1 : True := trivial
  have tk2 : True := trivial
  go_upto_region 3 with (first
    | (go_at_call 55; clear tk1; refine (anyPoint_r w.heap.size b _ wB hR0 (by omega)).mono ?_; rintro e w1 ⟨x1, y1, rfl, _, _, _, _, hR1, hO1⟩; have hs1 := hO1.size)
    | (go_at_call 55; clear tk2; refine (anyPoint_r w.heap.size b _ w1 hR1 (by omega)).mono ?_; rintro e w2 ⟨x2, y2, rfl, _, _, _, _, hR2, hO2⟩; have hs2 := hO2.size))
  have hC : Below w2.heap.size w2 ((w2.alloc (.cells #[.int .i64 x1, .int .i64 y1] 26)).alloc (.cells #[.int .i64 x2, .int .i64 y2] 26)) := by go_grown
  have hsC : ((w2.alloc (.cells #[.int .i64 x1, .int .i64 y1] 26)).alloc (.cells #[.int .i64 x2, .int .i64 y2] 26)).heap.size = w2.heap.size + 1 + 1 := by simp
  have s00 : ((w2.alloc (.cells #[.int .i64 x1, .int .i64 y1] 26)).alloc (.cells #[.int .i64 x2, .int .i64 y2] 26)).cell? ⟨w2.heap.size, 0, none⟩ = some (.int .i64 x1) := by simp [go_sem]
  have s01 : ((w2.alloc (.cells #[.int .i64 x1, .int .i64 y1] 26)).alloc (.cells #[.int .i64 x2, .int .i64 y2] 26)).cell? ⟨w2.heap.size, 1, none⟩ = some (.int .i64 y1) := by simp [go_sem]
  have s10 : ((w2.alloc (.cells #[.int .i64 x1, .int .i64 y1] 26)).alloc (.cells #[.int .i64 x2, .int .i64 y2] 26)).cell? ⟨w2.heap.size + 1, 0, none⟩ = some (.int .i64 x2) := by simp [go_sem]
  have s11 : ((w2.alloc (.cells #[.int .i64 x1, .int .i64 y1] 26)).alloc (.cells #[.int .i64 x2, .int .i64 y2] 26)).cell? ⟨w2.heap.size + 1, 1, none⟩ = some (.int .i64 y2) := by simp [go_sem]
  have hRC := hR2.below (hC.mono (by have := hR2.lt; omega))
  have hOC := (hO1.trans hO2).trans (Only.ofBelow (b := b) hC)
  generalize ((w2.alloc (.cells #[.int .i64 x1, .int .i64 y1] 26)).alloc (.cells #[.int .i64 x2, .int .i64 y2] 26)) = wC at hC hsC s00 s01 s10 s11 hRC hOC ⊢
  have hc0 : w2.heap.size < wC.heap.size := by omega
  have hc1 : w2.heap.size + 1 < wC.heap.size := by omega
  clear hsC
  refine wp_region_held_drew (S := (fun u => u.cell? ⟨w2.heap.size, 0, none⟩ = some (.int .i64 x1) ∧ u.cell? ⟨w2.heap.size, 1, none⟩ = some (.int .i64 y1) ∧ u.cell? ⟨w2.heap.size + 1, 0, none⟩ = some (.int .i64 x2) ∧ u.cell? ⟨w2.heap.size + 1, 1, none⟩ = some (.int .i64 y2))) (by kernel_rfl) ?_ (fun hHeld => ?_)
  · exact ⟨s00, s01, s10, s11⟩
  refine wpAnyH_take (i := 0) (oi := { dst := some 15, op := Op.load 26 (Operand.tmp 6), type := 26, pos := "l4_inside.go:115", after := #[], guard := none }) (v := ?vQx0) rfl (by kernel_rfl) (by kernel_rfl) (by kernel_rfl) (fun _ _ _ h => h) (Or.inl ⟨by rfl, ?hyQx0⟩) (by with_reducible assumption) ?restQx0
  case hyQx0 => (intro w hSw; (try dsimp only at hSw); go_simp; try with_reducible rfl)
  case' restQx0 => (try simp only [Act.put, List.setIfInBounds_toArray, List.set_cons_zero, List.set_cons_succ])
  refine wpAnyH_take (i := 1) (oi := { dst := some 16, op := Op.load 26 (Operand.tmp 7), type := 26, pos := "l4_inside.go:115", after := #[{ on := 7, ground := Ground.gcOnly Departure.lateStores }], guard := none }) (v := ?vQx1) rfl (by kernel_rfl) (by kernel_rfl) (by kernel_rfl) (fun _ _ _ h => h) (Or.inl ⟨by rfl, ?hyQx1⟩) (by with_reducible assumption) ?restQx1
  case hyQx1 => (intro w hSw; (try dsimp only at hSw); go_simp; try with_reducible rfl)
  case' restQx1 => (try simp only [Act.put, List.setIfInBounds_toArray, List.set_cons_zero, List.set_cons_succ])
  refine wpAnyH_take (i := 2) (oi := { dst := some 17, op := Op.move (Operand.tmp 5), type := 67, pos := "l4_inside.go:115", after := #[], guard := none }) (v := ?vQx2) rfl (by kernel_rfl) (by kernel_rfl) (by kernel_rfl) (fun _ _ _ h => h) (Or.inl ⟨by rfl, ?hyQx2⟩) (by with_reducible assumption) ?restQx2
  case hyQx2 => (intro w hSw; (try dsimp only at hSw); go_simp; try with_reducible rfl)
  case' restQx2 => (try simp only [Act.put, List.setIfInBounds_toArray, List.set_cons_zero, List.set_cons_succ])
  refine wpAnyH_take (i := 3) (oi := { dst := some 18, op := Op.load 26 (Operand.tmp 6), type := 26, pos := "l4_inside.go:115", after := #[], guard := none }) (v := ?vQx3) rfl (by kernel_rfl) (by kernel_rfl) (by kernel_rfl) (fun _ _ _ h => h) (Or.inl ⟨by rfl, ?hyQx3⟩) (by with_reducible assumption) ?restQx3
  case hyQx3 => (intro w hSw; (try dsimp only at hSw); go_simp; try with_reducible rfl)
  case' restQx3 => (try simp only [Act.put, List.setIfInBounds_toArray, List.set_cons_zero, List.set_cons_succ])
  refine wpAnyH_take (i := 4) (oi := { dst := some 19, op := Op.load 26 (Operand.tmp 7), type := 26, pos := "l4_inside.go:115", after := #[], guard := none }) (v := ?vQx4) rfl (by kernel_rfl) (by kernel_rfl) (by kernel_rfl) (fun _ _ _ h => h) (Or.inl ⟨by rfl, ?hyQx4⟩) (by with_reducible assumption) ?restQx4
  case hyQx4 => (intro w hSw; (try dsimp only at hSw); go_simp; try with_reducible rfl)
  case' restQx4 => (try simp only [Act.put, List.setIfInBounds_toArray, List.set_cons_zero, List.set_cons_succ])
  refine wpAnyH_ready (rs := [5]) (by kernel_rfl) (by simp) ?_
  refine AllReadyH.cons (o := { dst := some 20, op := Op.buildSlice 35 2 #[(0, Operand.tmp 18), (1, Operand.tmp 19)], type := 35, pos := "l4_inside.go:115", after := #[{ on := 3, ground := Ground.data }, { on := 4, ground := Ground.data }], guard := none }) rfl (fun K hK => ?_) AllReadyH.nil
  go_simp
  refine hK.out _ _ ?_ (fun hHeld => ?_)
  · exact ⟨by go_simp, by go_simp, by go_simp, by go_simp⟩
  clear hK K
  try simp only [Act.put, List.setIfInBounds_toArray, List.set_cons_zero, List.set_cons_succ]
  refine wpAnyH_ready (rs := [6]) (by kernel_rfl) (by simp) ?_
  refine AllReadyH.cons (o := { dst := some 21, op := Op.call { callee := Callee.value (Operand.func 54), args := #[Operand.tmp 17, Operand.tmp 20], argTypes := #[67, 35] }, type := 26, pos := "l4_inside.go:115", after := #[{ on := 2, ground := Ground.data }, { on := 5, ground := Ground.data }], guard := none }) rfl (fun K hK => ?_) AllReadyH.nil
  go_simp
  refine (near_r [(x1, y1), (x2, y2)] (some ⟨wC.heap.size, 0, none⟩) 2 2 w.heap.size b _ _ (hRC.below (by go_grown)) (by omega) rfl (by omega) (at2 (by go_simp) (by go_simp) (by go_simp) (by go_simp)) (fun g off e => by cases e; omega)).mono ?_
  rintro e w9 ⟨x9, y9, rfl, hR9, hP9⟩
  have hQ9 : Only b wC w9 := (((Only.refl b wC).alloc _).drew).trans hP9
  have hO9 := hOC.trans hQ9
  have hs9 := hQ9.size
  have t00 := (hQ9.cell (p := ⟨w2.heap.size, 0, none⟩) (show w2.heap.size < wC.heap.size by omega) (show w2.heap.size ≠ b by omega)).trans s00
  have t01 := (hQ9.cell (p := ⟨w2.heap.size, 1, none⟩) (show w2.heap.size < wC.heap.size by omega) (show w2.heap.size ≠ b by omega)).trans s01
  have t10 := (hQ9.cell (p := ⟨w2.heap.size + 1, 0, none⟩) (show w2.heap.size + 1 < wC.heap.size by omega) (show w2.heap.size + 1 ≠ b by omega)).trans s10
  have t11 := (hQ9.cell (p := ⟨w2.heap.size + 1, 1, none⟩) (show w2.heap.size + 1 < wC.heap.size by omega) (show w2.heap.size + 1 ≠ b by omega)).trans s11
  have rza0 := (hO9.cell (p := ⟨w.heap.size, 0, none⟩) (show w.heap.size < wB.heap.size by omega) (show w.heap.size ≠ b by omega)).trans za0
  have rzb0 := (hO9.cell (p := ⟨w.heap.size, 1, none⟩) (show w.heap.size < wB.heap.size by omega) (show w.heap.size ≠ b by omega)).trans zb0
  have rya0 := (hO9.frozen (p := ⟨w.heap.size, 0, none⟩) (show w.heap.size < wB.heap.size by omega) (show w.heap.size ≠ b by omega)).trans ya0
  have ryb0 := (hO9.frozen (p := ⟨w.heap.size, 1, none⟩) (show w.heap.size < wB.heap.size by omega) (show w.heap.size ≠ b by omega)).trans yb0
  have rza1 := (hO9.cell (p := ⟨w.heap.size + 1, 0, none⟩) (show w.heap.size + 1 < wB.heap.size by omega) (show w.heap.size + 1 ≠ b by omega)).trans za1
  have rzb1 := (hO9.cell (p := ⟨w.heap.size + 1, 1, none⟩) (show w.heap.size + 1 < wB.heap.size by omega) (show w.heap.size + 1 ≠ b by omega)).trans zb1
  have rya1 := (hO9.frozen (p := ⟨w.heap.size + 1, 0, none⟩) (show w.heap.size + 1 < wB.heap.size by omega) (show w.heap.size + 1 ≠ b by omega)).trans ya1
  have ryb1 := (hO9.frozen (p := ⟨w.heap.size + 1, 1, none⟩) (show w.heap.size + 1 < wB.heap.size by omega) (show w.heap.size + 1 ≠ b by omega)).trans yb1
  have rza2 := (hO9.cell (p := ⟨w.heap.size + 1 + 1, 0, none⟩) (show w.heap.size + 1 + 1 < wB.heap.size by omega) (show w.heap.size + 1 + 1 ≠ b by omega)).trans za2
  have rzb2 := (hO9.cell (p := ⟨w.heap.size + 1 + 1, 1, none⟩) (show w.heap.size + 1 + 1 < wB.heap.size by omega) (show w.heap.size + 1 + 1 ≠ b by omega)).trans zb2
  have rya2 := (hO9.frozen (p := ⟨w.heap.size + 1 + 1, 0, none⟩) (show w.heap.size + 1 + 1 < wB.heap.size by omega) (show w.heap.size + 1 + 1 ≠ b by omega)).trans ya2
  have ryb2 := (hO9.frozen (p := ⟨w.heap.size + 1 + 1, 1, none⟩) (show w.heap.size + 1 + 1 < wB.heap.size by omega) (show w.heap.size + 1 + 1 ≠ b by omega)).trans yb2
  have n00 : w.heap.size < w2.heap.size := by omega
  have n01 : w.heap.size + 1 < w2.heap.size := by omega
  have n02 : w.heap.size + 1 + 1 < w2.heap.size := by omega
  have n10 : w.heap.size < w2.heap.size + 1 := by omega
  have n11 : w.heap.size + 1 < w2.heap.size + 1 := by omega
  have n12 : w.heap.size + 1 + 1 < w2.heap.size + 1 := by omega
  clear za0 zb0 ya0 yb0 za1 zb1 ya1 yb1 za2 zb2 ya2 yb2
  go_wp2_with fail
  refine hK.out _ _ ?_ (fun hHeld => ?_)
  · exact ⟨t00, t01, t10, t11⟩
  clear hK K
  try simp only [Act.put, List.setIfInBounds_toArray, List.set_cons_zero, List.set_cons_succ]
  refine wpAnyH_ready (rs := [7]) (by kernel_rfl) (by simp) ?_
  refine AllReadyH.cons (o := { dst := none, op := Op.store 26 (Operand.tmp 2) (Operand.tmp 15), type := 0, pos := "l4_inside.go:115", after := #[{ on := 0, ground := Ground.data }, { on := 6, ground := Ground.chain }, { on := 0, ground := Ground.phase }, { on := 1, ground := Ground.textOnly Departure.lateStores }, { on := 2, ground := Ground.textOnly Departure.lateStores }, { on := 3, ground := Ground.textOnly Departure.lateStores }, { on := 4, ground := Ground.textOnly Departure.lateStores }, { on := 5, ground := Ground.textOnly Departure.lateStores }, { on := 6, ground := Ground.textOnly Departure.lateStoresUnsure }], guard := none }) rfl (fun K hK => ?_) AllReadyH.nil
  go_simp
  refine hK.out _ _ ?_ (fun hHeld => ?_)
  · exact ⟨by go_simp, by go_simp, by go_simp, by go_simp⟩
  clear hK K
  try simp only [Act.put, List.setIfInBounds_toArray, List.set_cons_zero, List.set_cons_succ]
  refine wpAnyH_ready (rs := [8]) (by kernel_rfl) (by simp) ?_
  refine AllReadyH.cons (o := { dst := none, op := Op.store 26 (Operand.tmp 3) (Operand.tmp 16), type := 0, pos := "l4_inside.go:115", after := #[{ on := 1, ground := Ground.data }, { on := 7, ground := Ground.chain }, { on := 0, ground := Ground.phase }, { on := 1, ground := Ground.phase }, { on := 2, ground := Ground.textOnly Departure.lateStores }, { on := 3, ground := Ground.textOnly Departure.lateStores }, { on := 4, ground := Ground.textOnly Departure.lateStores }, { on := 5, ground := Ground.textOnly Departure.lateStores }, { on := 6, ground := Ground.textOnly Departure.lateStoresUnsure }, { on := 7, ground := Ground.phase }], guard := none }) rfl (fun K hK => ?_) AllReadyH.nil
  go_simp
  refine hK.out _ _ ?_ (fun hHeld => ?_)
  · exact ⟨by go_simp, by go_simp, by go_simp, by go_simp⟩
  clear hK K
  try simp only [Act.put, List.setIfInBounds_toArray, List.set_cons_zero, List.set_cons_succ]
  refine wpAnyH_ready (rs := [9]) (by kernel_rfl) (by simp) ?_
  refine AllReadyH.cons (o := { dst := none, op := Op.store 26 (Operand.tmp 4) (Operand.tmp 21), type := 0, pos := "l4_inside.go:115", after := #[{ on := 6, ground := Ground.data }, { on := 8, ground := Ground.chain }, { on := 0, ground := Ground.phase }, { on := 1, ground := Ground.phase }, { on := 2, ground := Ground.phase }, { on := 3, ground := Ground.phase }, { on := 4, ground := Ground.phase }, { on := 5, ground := Ground.phase }, { on := 6, ground := Ground.phase }, { on := 7, ground := Ground.phase }, { on := 8, ground := Ground.phase }], guard := none }) rfl (fun K hK => ?_) AllReadyH.nil
  go_simp
  refine hK.out _ _ ?_ (fun hHeld => ?_)
  · exact ⟨by go_simp, by go_simp, by go_simp, by go_simp⟩
  clear hK K
  try simp only [Act.put, List.setIfInBounds_toArray, List.set_cons_zero, List.set_cons_succ]
  refine wpAnyH_done (by kernel_rfl) ?_ _
  go_wp2
  refine bodyPost_ret (v := .tuple #[.agg #[.int .i64 x1, .int .i64 y1], .agg #[.int .i64 x2, .int .i64 y2], .agg #[.int .i64 x9, .int .i64 y9]]) (by simp [results, Tryd.results37, go_sem, rza0, rzb0, rza1, rzb1, rza2, rzb2]) rfl ⟨_, _, _, _, _, _, rfl, ?_⟩
  have hZ : Below w.heap.size wB w9 := hO9.below (by omega) (by omega)
  exact hW.trans (by go_grown)
end Go.Proofs.YtcghpepkphphbaaDoor
