/-
  A drawn point near some others (contracts for the walks).
  Conditions: as each theorem states them.
-/
import Derived.Test.YtipiamhnngmjmaaDoorDrHull
namespace Go.Proofs.YtipiamhnngmjmaaDoor
open Go.RowKit
set_option linter.unusedVariables false
theorem boxf (w : World) (x y : Int) (t : TypeId) (i : Nat) : (w.alloc (.cells #[.int .i64 x, .int .i64 y] t)).frozen? ⟨w.heap.size, i, none⟩ = false := by
  have := heap_alloc_new w (.cells #[.int .i64 x, .int .i64 y] t)
  unfold World.frozen?
  rw [this]
  simp
set_option maxHeartbeats 8000000 in
set_option maxRecDepth 8000 in
theorem near_r (l : List (Int × Int)) (a : Option Addr) (len cap : Nat) (N b m : Nat) (w : World) (h : Rd N b m w) (hm : m ≤ 700000) (hl : l.length = len) (h1 : len ≤ 200) (hA : At w.heap.size a l w) (hab : ∀ g off, a = some ⟨g, off, none⟩ → g ≠ b) :
    Calls Tryd.prog 71 #[.pointer (some ⟨b, 0, none⟩), .slice a len cap] w fun e w' => ∃ x y : Int, e = .returned (.agg #[.int .i64 x, .int .i64 y]) ∧ Rd N b (m + 20) w' ∧ Only b w w' := by
  subst hl
  have hb := h.lt
  have hrb : w.heap.size ≠ b := by omega
  have za0 := box0 w 0 0 26
  have zb0 := box1 w 0 0 26
  have ya0 := boxf w 0 0 26 0
  have yb0 := boxf w 0 0 26 1
  have hR0 := h.below (by go_grown : Below (b + 1) w (w.alloc (.cells #[.int .i64 0, .int .i64 0] 26)))
  have hO0 : Only b w (w.alloc (.cells #[.int .i64 0, .int .i64 0] 26)) := (Only.refl b w).alloc _
  have hs0 : (w.alloc (.cells #[.int .i64 0, .int .i64 0] 26)).heap.size = w.heap.size + 1 := by simp
  by_cases l0 : l.length = 0
  · have hd : ((l.length : Int) == 0) = true := by rw [l0]; rfl
    clear l0 hA hab
    go_enter Tryd.func71, Tryd.ntmps71
    go_upto_region 1 with fail
    generalize w.alloc (.cells #[.int .i64 0, .int .i64 0] 26) = wB at za0 zb0 ya0 yb0 hR0 hO0 hs0 ⊢
    go_wp2_with (go_at_call 98; refine (anyPoint_r N b _ wB hR0 (by omega)).mono ?_; rintro e w1 ⟨x, y, rfl, _, _, _, _, hR1, hO1⟩; have za1 := (hO1.cell (p := ⟨w.heap.size, 0, none⟩) (show w.heap.size < wB.heap.size by omega) hrb).trans za0; have zb1 := (hO1.cell (p := ⟨w.heap.size, 1, none⟩) (show w.heap.size < wB.heap.size by omega) hrb).trans zb0; have ya1 := (hO1.frozen (p := ⟨w.heap.size, 0, none⟩) (show w.heap.size < wB.heap.size by omega) hrb).trans ya0; have yb1 := (hO1.frozen (p := ⟨w.heap.size, 1, none⟩) (show w.heap.size < wB.heap.size by omega) hrb).trans yb0; have hO01 := hO0.trans hO1; have hs1 := hO1.size)
    (refine bodyPost_ret (by simp [results, Tryd.results71, go_sem, za1, zb1]; first | done | exact ⟨rfl, rfl⟩) rfl ⟨_, _, rfl, (hR1.below (by go_grown)).mono (by omega), (by repeat' (first | (with_reducible exact hO01) | (with_reducible refine Only.alloc ?_ _) | (with_reducible refine Only.setCell ?_ (Or.inr ?_) _) | (with_reducible refine Only.drew ?_) | exact Nat.le_refl _ | omega))⟩)
  · have hd : ((l.length : Int) == 0) = false := by simp; exact List.ne_nil_of_length_pos (by omega)
    obtain ⟨g, off, rfl, hg1, _, _⟩ := hA 0 (by omega)
    have hgb := hab g off rfl
    have HC : Hid (∀ i, i < l.length → ∀ u, Only b w u → u.cell? ⟨g, off + i * 2, none⟩ = some (.int .i64 (px l i)) ∧ u.cell? ⟨g, off + i * 2 + 1, none⟩ = some (.int .i64 (py l i))) := fun i hi u hu => by
      obtain ⟨g', off', e, _, c0, c1⟩ := hA i hi
      obtain ⟨rfl, rfl⟩ : g = g' ∧ off = off' := by simpa using e
      exact ⟨(hu.cell (p := ⟨g, off + i * 2, none⟩) hg1 hgb).trans c0, (hu.cell (p := ⟨g, off + i * 2 + 1, none⟩) hg1 hgb).trans c1⟩
    clear hA hab
    have lp : 1 ≤ (l.length : Int) := by omega
    have l2 : (l.length : Int) ≤ 200 := by omega
    go_enter Tryd.func71, Tryd.ntmps71
    go_upto_region 1 with fail
    generalize w.alloc (.cells #[.int .i64 0, .int .i64 0] 26) = wB at za0 zb0 ya0 yb0 hR0 hO0 hs0 ⊢
    have tk : True := trivial
    go_upto_region 3 with (first
      | (go_at_call 97; refine (one_r 4 (by omega) (by omega) N b _ wB hR0 (by omega)).mono ?_; rintro e w1 ⟨v1, rfl, hR1, hO1⟩; have za1 := (hO1.cell (p := ⟨w.heap.size, 0, none⟩) (show w.heap.size < wB.heap.size by omega) hrb).trans za0; have zb1 := (hO1.cell (p := ⟨w.heap.size, 1, none⟩) (show w.heap.size < wB.heap.size by omega) hrb).trans zb0; have ya1 := (hO1.frozen (p := ⟨w.heap.size, 0, none⟩) (show w.heap.size < wB.heap.size by omega) hrb).trans ya0; have yb1 := (hO1.frozen (p := ⟨w.heap.size, 1, none⟩) (show w.heap.size < wB.heap.size by omega) hrb).trans yb0; have hO01 := hO0.trans hO1; have hs1 := hO1.size)
      | (go_at_call 98; refine (anyPoint_r N b _ w1 hR1 (by omega)).mono ?_; rintro e w2 ⟨x, y, rfl, _, _, _, _, hR2, hO2⟩; have za2 := (hO2.cell (p := ⟨w.heap.size, 0, none⟩) (show w.heap.size < w1.heap.size by omega) hrb).trans za1; have zb2 := (hO2.cell (p := ⟨w.heap.size, 1, none⟩) (show w.heap.size < w1.heap.size by omega) hrb).trans zb1; have ya2 := (hO2.frozen (p := ⟨w.heap.size, 0, none⟩) (show w.heap.size < w1.heap.size by omega) hrb).trans ya1; have yb2 := (hO2.frozen (p := ⟨w.heap.size, 1, none⟩) (show w.heap.size < w1.heap.size by omega) hrb).trans yb1; have hO02 := hO01.trans hO2; have hs2 := hO2.size))
    · (refine bodyPost_ret (by simp [results, Tryd.results71, go_sem, za2, zb2]; first | done | exact ⟨rfl, rfl⟩) rfl ⟨_, _, rfl, (hR2.below (by go_grown)).mono (by omega), (by repeat' (first | (with_reducible exact hO02) | (with_reducible refine Only.alloc ?_ _) | (with_reducible refine Only.setCell ?_ (Or.inr ?_) _) | (with_reducible refine Only.drew ?_) | exact Nat.le_refl _ | omega))⟩)
    · clear za0 zb0 ya0 yb0 hR0 hO0
      go_upto_region 4 with (go_at_call 96; refine (pick_h (l.length : Int) lp l2 N b _ w1 hR1 (by omega)).mono ?_; rintro e w2 ⟨xi, rfl, hi0, hi1, hR2, hO2⟩; obtain ⟨i, rfl⟩ := Int.eq_ofNat_of_zero_le hi0; have hil : i < l.length := (by omega); have za2 := (hO2.cell (p := ⟨w.heap.size, 0, none⟩) (show w.heap.size < w1.heap.size by omega) hrb).trans za1; have zb2 := (hO2.cell (p := ⟨w.heap.size, 1, none⟩) (show w.heap.size < w1.heap.size by omega) hrb).trans zb1; have ya2 := (hO2.frozen (p := ⟨w.heap.size, 0, none⟩) (show w.heap.size < w1.heap.size by omega) hrb).trans ya1; have yb2 := (hO2.frozen (p := ⟨w.heap.size, 1, none⟩) (show w.heap.size < w1.heap.size by omega) hrb).trans yb1; have hO02 := hO01.trans hO2; have hs2 := hO2.size; obtain ⟨p0, p1⟩ := HC.out i hil w2 hO02)
      have hbP : Below w2.heap.size w2 (w2.alloc (.cells #[.int .i64 (px l i), .int .i64 (py l i)] 26)) := by go_grown
      have sP : (w2.alloc (.cells #[.int .i64 (px l i), .int .i64 (py l i)] 26)).heap.size = w2.heap.size + 1 := by simp
      have a0 := box0 w2 (px l i) (py l i) 26
      have a1 := box1 w2 (px l i) (py l i) 26
      have za3 := cell_later hbP za2
      have zb3 := cell_later hbP zb2
      have ya3 := (hbP.frozen (show w.heap.size < w2.heap.size by omega)).trans ya2
      have yb3 := (hbP.frozen (show w.heap.size < w2.heap.size by omega)).trans yb2
      have hR3 := hR2.below (hbP.mono (by have := hR2.lt; omega))
      have hO03 := hO02.trans (Only.ofBelow hbP)
      clear za1 zb1 ya1 yb1 za2 zb2 ya2 yb2 hR1 hO1 hR2 hO2 p0 p1 hO01 hO02
      generalize w2.alloc (.cells #[.int .i64 (px l i), .int .i64 (py l i)] 26) = wP at a0 a1 za3 zb3 ya3 yb3 hR3 hO03 sP hbP ⊢
      go_upto_region 5 with (go_at_call 96; refine (pick_h (l.length : Int) lp l2 N b _ wP hR3 (by omega)).mono ?_; rintro e w4 ⟨xj, rfl, hj0, hj1, hR4, hO4⟩; obtain ⟨j, rfl⟩ := Int.eq_ofNat_of_zero_le hj0; have hjl : j < l.length := (by omega); have za4 := (hO4.cell (p := ⟨w.heap.size, 0, none⟩) (show w.heap.size < wP.heap.size by omega) hrb).trans za3; have zb4 := (hO4.cell (p := ⟨w.heap.size, 1, none⟩) (show w.heap.size < wP.heap.size by omega) hrb).trans zb3; have ya4 := (hO4.frozen (p := ⟨w.heap.size, 0, none⟩) (show w.heap.size < wP.heap.size by omega) hrb).trans ya3; have yb4 := (hO4.frozen (p := ⟨w.heap.size, 1, none⟩) (show w.heap.size < wP.heap.size by omega) hrb).trans yb3; have hO04 := hO03.trans hO4; have hs4 := hO4.size; obtain ⟨p0, p1⟩ := HC.out j hjl w4 hO04; have a2 := (hO4.cell (p := ⟨w2.heap.size, 0, none⟩) (show w2.heap.size < wP.heap.size by omega) (show w2.heap.size ≠ b by omega)).trans a0; have a3 := (hO4.cell (p := ⟨w2.heap.size, 1, none⟩) (show w2.heap.size < wP.heap.size by omega) (show w2.heap.size ≠ b by omega)).trans a1)
      have hbQ : Below w4.heap.size w4 (w4.alloc (.cells #[.int .i64 (px l j), .int .i64 (py l j)] 26)) := by go_grown
      have sQ : (w4.alloc (.cells #[.int .i64 (px l j), .int .i64 (py l j)] 26)).heap.size = w4.heap.size + 1 := by simp
      have c0 := box0 w4 (px l j) (py l j) 26
      have c1 := box1 w4 (px l j) (py l j) 26
      have a4 := cell_later hbQ a2
      have a5 := cell_later hbQ a3
      have za5 := cell_later hbQ za4
      have zb5 := cell_later hbQ zb4
      have ya5 := (hbQ.frozen (show w.heap.size < w4.heap.size by omega)).trans ya4
      have yb5 := (hbQ.frozen (show w.heap.size < w4.heap.size by omega)).trans yb4
      have hR5 := hR4.below (hbQ.mono (by have := hR4.lt; omega))
      have hO05 := hO04.trans (Only.ofBelow hbQ)
      clear za3 zb3 ya3 yb3 za4 zb4 ya4 yb4 hR3 hR4 hO4 p0 p1 hO03 hO04 a0 a1 a2 a3
      generalize w4.alloc (.cells #[.int .i64 (px l j), .int .i64 (py l j)] 26) = wQ at c0 c1 a4 a5 za5 zb5 ya5 yb5 hR5 hO05 sQ hbQ ⊢
      go_upto_region 6 with (go_at_call 96; refine (pick_r 3 (by omega) (by omega) N b _ wQ hR5 (by omega)).mono ?_; rintro e w6 ⟨x, rfl, hx0, hx1, hR6, hO6⟩; have za6 := (hO6.cell (p := ⟨w.heap.size, 0, none⟩) (show w.heap.size < wQ.heap.size by omega) hrb).trans za5; have zb6 := (hO6.cell (p := ⟨w.heap.size, 1, none⟩) (show w.heap.size < wQ.heap.size by omega) hrb).trans zb5; have ya6 := (hO6.frozen (p := ⟨w.heap.size, 0, none⟩) (show w.heap.size < wQ.heap.size by omega) hrb).trans ya5; have yb6 := (hO6.frozen (p := ⟨w.heap.size, 1, none⟩) (show w.heap.size < wQ.heap.size by omega) hrb).trans yb5; have hO06 := hO05.trans hO6; have hs6 := hO6.size; have d0 := (hO6.cell (p := ⟨w2.heap.size, 0, none⟩) (show w2.heap.size < wQ.heap.size by omega) (show w2.heap.size ≠ b by omega)).trans a4; have d1 := (hO6.cell (p := ⟨w2.heap.size, 1, none⟩) (show w2.heap.size < wQ.heap.size by omega) (show w2.heap.size ≠ b by omega)).trans a5; have d2 := (hO6.cell (p := ⟨w4.heap.size, 0, none⟩) (show w4.heap.size < wQ.heap.size by omega) (show w4.heap.size ≠ b by omega)).trans c0; have d3 := (hO6.cell (p := ⟨w4.heap.size, 1, none⟩) (show w4.heap.size < wQ.heap.size by omega) (show w4.heap.size ≠ b by omega)).trans c1)
      clear za5 zb5 ya5 yb5 hR5 hO05 hO6 a4 a5 c0 c1
      by_cases x0 : x = 0
      · subst x0
        go_wp2
        (refine bodyPost_ret (by simp [results, Tryd.results71, go_sem, za6, zb6]; first | done | exact ⟨rfl, rfl⟩) rfl ⟨_, _, rfl, (hR6.below (by go_grown)).mono (by omega), (by repeat' (first | (with_reducible exact hO06) | (with_reducible refine Only.alloc ?_ _) | (with_reducible refine Only.setCell ?_ (Or.inr ?_) _) | (with_reducible refine Only.drew ?_) | exact Nat.le_refl _ | omega))⟩)
      · by_cases x1 : x = 1
        · subst x1
          go_wp2
          (refine bodyPost_ret (by simp [results, Tryd.results71, go_sem, za6, zb6]; first | done | exact ⟨rfl, rfl⟩) rfl ⟨_, _, rfl, (hR6.below (by go_grown)).mono (by omega), (by repeat' (first | (with_reducible exact hO06) | (with_reducible refine Only.alloc ?_ _) | (with_reducible refine Only.setCell ?_ (Or.inr ?_) _) | (with_reducible refine Only.drew ?_) | exact Nat.le_refl _ | omega))⟩)
        · have y0 : (x == 0) = false := by simpa using x0
          have y1 : (x == 1) = false := by simpa using x1
          clear x0 x1
          have hlt2 : w.heap.size < w2.heap.size := by omega
          go_wp2
          refine wp_region_held_drew (S := (fun u => u.cell? ⟨w2.heap.size, 0, none⟩ = some (.int .i64 (px l i)) ∧ u.cell? ⟨w2.heap.size, 1, none⟩ = some (.int .i64 (py l i)))) (by kernel_rfl) ?_ (fun hHeld => ?_)
          · exact ⟨d0, d1⟩
          refine wpAnyH_take (i := 0) (oi := { dst := some 50, op := Op.fieldAddr 26 (Operand.tmp 5) 0, type := 0, pos := "l4_inside.go:109", after := #[], guard := none }) (v := ?vNx0) rfl (by kernel_rfl) (by kernel_rfl) (by kernel_rfl) (fun _ _ _ h => h) (Or.inl ⟨by rfl, ?hyNx0⟩) (by with_reducible assumption) ?restNx0
          case hyNx0 => (intro w hSw; (try dsimp only at hSw); go_simp; try with_reducible rfl)
          case' restNx0 => (try simp only [Act.put, List.setIfInBounds_toArray, List.set_cons_zero, List.set_cons_succ])
          refine wpAnyH_take (i := 1) (oi := { dst := some 51, op := Op.load 3 (Operand.tmp 50), type := 3, pos := "l4_inside.go:109", after := #[{ on := 0, ground := Ground.data }], guard := none }) (v := ?vNx1) rfl (by kernel_rfl) (by kernel_rfl) (by kernel_rfl) (fun _ _ _ h => h) (Or.inl ⟨by rfl, ?hyNx1⟩) (by with_reducible assumption) ?restNx1
          case hyNx1 => (intro w hSw; (try dsimp only at hSw); go_simp; try with_reducible rfl)
          case' restNx1 => (try simp only [Act.put, List.setIfInBounds_toArray, List.set_cons_zero, List.set_cons_succ])
          refine wpAnyH_take (i := 2) (oi := { dst := some 52, op := Op.move (Operand.tmp 0), type := 79, pos := "l4_inside.go:109", after := #[], guard := none }) (v := ?vNx2) rfl (by kernel_rfl) (by kernel_rfl) (by kernel_rfl) (fun _ _ _ h => h) (Or.inl ⟨by rfl, ?hyNx2⟩) (by with_reducible assumption) ?restNx2
          case hyNx2 => (intro w hSw; (try dsimp only at hSw); go_simp; try with_reducible rfl)
          case' restNx2 => (try simp only [Act.put, List.setIfInBounds_toArray, List.set_cons_zero, List.set_cons_succ])
          refine wpAnyH_take (i := 6) (oi := { dst := some 56, op := Op.fieldAddr 26 (Operand.tmp 5) 1, type := 0, pos := "l4_inside.go:109", after := #[], guard := none }) (v := ?vNx6) rfl (by kernel_rfl) (by kernel_rfl) (by kernel_rfl) (fun _ _ _ h => h) (Or.inl ⟨by rfl, ?hyNx6⟩) (by with_reducible assumption) ?restNx6
          case hyNx6 => (intro w hSw; (try dsimp only at hSw); go_simp; try with_reducible rfl)
          case' restNx6 => (try simp only [Act.put, List.setIfInBounds_toArray, List.set_cons_zero, List.set_cons_succ])
          refine wpAnyH_take (i := 7) (oi := { dst := some 57, op := Op.load 3 (Operand.tmp 56), type := 3, pos := "l4_inside.go:109", after := #[{ on := 6, ground := Ground.data }], guard := none }) (v := ?vNx7) rfl (by kernel_rfl) (by kernel_rfl) (by kernel_rfl) (fun _ _ _ h => h) (Or.inl ⟨by rfl, ?hyNx7⟩) (by with_reducible assumption) ?restNx7
          case hyNx7 => (intro w hSw; (try dsimp only at hSw); go_simp; try with_reducible rfl)
          case' restNx7 => (try simp only [Act.put, List.setIfInBounds_toArray, List.set_cons_zero, List.set_cons_succ])
          refine wpAnyH_take (i := 8) (oi := { dst := some 58, op := Op.move (Operand.tmp 0), type := 79, pos := "l4_inside.go:109", after := #[], guard := none }) (v := ?vNx8) rfl (by kernel_rfl) (by kernel_rfl) (by kernel_rfl) (fun _ _ _ h => h) (Or.inl ⟨by rfl, ?hyNx8⟩) (by with_reducible assumption) ?restNx8
          case hyNx8 => (intro w hSw; (try dsimp only at hSw); go_simp; try with_reducible rfl)
          case' restNx8 => (try simp only [Act.put, List.setIfInBounds_toArray, List.set_cons_zero, List.set_cons_succ])
          refine wpAnyH_ready (rs := [3]) (by kernel_rfl) (by simp) ?_
          refine AllReadyH.cons (o := { dst := some 53, op := Op.call { callee := Callee.value (Operand.func 96), args := #[Operand.tmp 52, Operand.const (Value.int IntKind.i64 3)], argTypes := #[79, 3] }, type := 3, pos := "l4_inside.go:109", after := #[{ on := 2, ground := Ground.data }], guard := none }) rfl (fun K hK => ?_) AllReadyH.nil
          go_simp
          refine (pick_r 3 (by omega) (by omega) N b _ _ (hR6.below (Below.refl _ _).drew) (by omega)).mono ?_
          rintro e w7 ⟨u7, rfl, hv7, hw7, hR7, hP7⟩
          have hO7 : Only b w6 w7 := (Only.refl b w6).drew.trans hP7
          have za7 := (hO7.cell (p := ⟨w.heap.size, 0, none⟩) (show w.heap.size < w6.heap.size by omega) hrb).trans za6
          have zb7 := (hO7.cell (p := ⟨w.heap.size, 1, none⟩) (show w.heap.size < w6.heap.size by omega) hrb).trans zb6
          have ya7 := (hO7.frozen (p := ⟨w.heap.size, 0, none⟩) (show w.heap.size < w6.heap.size by omega) hrb).trans ya6
          have yb7 := (hO7.frozen (p := ⟨w.heap.size, 1, none⟩) (show w.heap.size < w6.heap.size by omega) hrb).trans yb6
          have hO07 := hO06.trans hO7
          have hs7 := hO7.size
          have d07 := (hO7.cell (p := ⟨w2.heap.size, 0, none⟩) (show w2.heap.size < w6.heap.size by omega) (show w2.heap.size ≠ b by omega)).trans d0
          have d17 := (hO7.cell (p := ⟨w2.heap.size, 1, none⟩) (show w2.heap.size < w6.heap.size by omega) (show w2.heap.size ≠ b by omega)).trans d1
          go_wp2_with fail
          refine hK.out _ _ ?_ (fun hHeld => ?_)
          · exact ⟨d07, d17⟩
          clear hK K
          try simp only [Act.put, List.setIfInBounds_toArray, List.set_cons_zero, List.set_cons_succ]
          refine wpAnyH_take (i := 4) (oi := { dst := some 54, op := Op.binOp BinOp.add 3 (Operand.tmp 51) (Operand.tmp 53) 3, type := 3, pos := "l4_inside.go:109", after := #[{ on := 1, ground := Ground.data }, { on := 3, ground := Ground.data }], guard := none }) (v := ?vNx4) rfl (by kernel_rfl) (by kernel_rfl) (by kernel_rfl) (fun _ _ _ h => h) (Or.inl ⟨by rfl, ?hyNx4⟩) (by with_reducible assumption) ?restNx4
          case hyNx4 => (intro w hSw; (try dsimp only at hSw); go_simp; try with_reducible rfl)
          case' restNx4 => (try simp only [Act.put, List.setIfInBounds_toArray, List.set_cons_zero, List.set_cons_succ])
          refine wpAnyH_take (i := 5) (oi := { dst := some 55, op := Op.binOp BinOp.sub 3 (Operand.tmp 54) (Operand.const (Value.int IntKind.i64 1)) 3, type := 3, pos := "l4_inside.go:109", after := #[{ on := 4, ground := Ground.data }], guard := none }) (v := ?vNx5) rfl (by kernel_rfl) (by kernel_rfl) (by kernel_rfl) (fun _ _ _ h => h) (Or.inl ⟨by rfl, ?hyNx5⟩) (by with_reducible assumption) ?restNx5
          case hyNx5 => (intro w hSw; (try dsimp only at hSw); go_simp; try with_reducible rfl)
          case' restNx5 => (try simp only [Act.put, List.setIfInBounds_toArray, List.set_cons_zero, List.set_cons_succ])
          refine wpAnyH_ready (rs := [9]) (by kernel_rfl) (by simp) ?_
          refine AllReadyH.cons (o := { dst := some 59, op := Op.call { callee := Callee.value (Operand.func 96), args := #[Operand.tmp 58, Operand.const (Value.int IntKind.i64 3)], argTypes := #[79, 3] }, type := 3, pos := "l4_inside.go:109", after := #[{ on := 8, ground := Ground.data }, { on := 3, ground := Ground.chain }], guard := none }) rfl (fun K hK => ?_) AllReadyH.nil
          go_simp
          refine (pick_r 3 (by omega) (by omega) N b _ _ (hR7) (by omega)).mono ?_
          rintro e w8 ⟨u8, rfl, hv8, hw8, hR8, hP8⟩
          have hO8 : Only b w7 w8 := hP8
          have za8 := (hO8.cell (p := ⟨w.heap.size, 0, none⟩) (show w.heap.size < w7.heap.size by omega) hrb).trans za7
          have zb8 := (hO8.cell (p := ⟨w.heap.size, 1, none⟩) (show w.heap.size < w7.heap.size by omega) hrb).trans zb7
          have ya8 := (hO8.frozen (p := ⟨w.heap.size, 0, none⟩) (show w.heap.size < w7.heap.size by omega) hrb).trans ya7
          have yb8 := (hO8.frozen (p := ⟨w.heap.size, 1, none⟩) (show w.heap.size < w7.heap.size by omega) hrb).trans yb7
          have hO08 := hO07.trans hO8
          have hs8 := hO8.size
          have d08 := (hO8.cell (p := ⟨w2.heap.size, 0, none⟩) (show w2.heap.size < w7.heap.size by omega) (show w2.heap.size ≠ b by omega)).trans d07
          have d18 := (hO8.cell (p := ⟨w2.heap.size, 1, none⟩) (show w2.heap.size < w7.heap.size by omega) (show w2.heap.size ≠ b by omega)).trans d17
          go_wp2_with fail
          refine hK.out _ _ ?_ (fun hHeld => ?_)
          · exact ⟨d08, d18⟩
          clear hK K
          try simp only [Act.put, List.setIfInBounds_toArray, List.set_cons_zero, List.set_cons_succ]
          refine wpAnyH_take (i := 10) (oi := { dst := some 60, op := Op.binOp BinOp.add 3 (Operand.tmp 57) (Operand.tmp 59) 3, type := 3, pos := "l4_inside.go:109", after := #[{ on := 7, ground := Ground.data }, { on := 9, ground := Ground.data }], guard := none }) (v := ?vNx10) rfl (by kernel_rfl) (by kernel_rfl) (by kernel_rfl) (fun _ _ _ h => h) (Or.inl ⟨by rfl, ?hyNx10⟩) (by with_reducible assumption) ?restNx10
          case hyNx10 => (intro w hSw; (try dsimp only at hSw); go_simp; try with_reducible rfl)
          case' restNx10 => (try simp only [Act.put, List.setIfInBounds_toArray, List.set_cons_zero, List.set_cons_succ])
          refine wpAnyH_take (i := 11) (oi := { dst := some 61, op := Op.binOp BinOp.sub 3 (Operand.tmp 60) (Operand.const (Value.int IntKind.i64 1)) 3, type := 3, pos := "l4_inside.go:109", after := #[{ on := 10, ground := Ground.data }], guard := none }) (v := ?vNx11) rfl (by kernel_rfl) (by kernel_rfl) (by kernel_rfl) (fun _ _ _ h => h) (Or.inl ⟨by rfl, ?hyNx11⟩) (by with_reducible assumption) ?restNx11
          case hyNx11 => (intro w hSw; (try dsimp only at hSw); go_simp; try with_reducible rfl)
          case' restNx11 => (try simp only [Act.put, List.setIfInBounds_toArray, List.set_cons_zero, List.set_cons_succ])
          refine wpAnyH_take (i := 12) (oi := { dst := some 62, op := Op.build 26 #[(0, Operand.tmp 55), (1, Operand.tmp 61)], type := 26, pos := "l4_inside.go:109", after := #[{ on := 5, ground := Ground.data }, { on := 11, ground := Ground.data }], guard := none }) (v := ?vNx12) rfl (by kernel_rfl) (by kernel_rfl) (by kernel_rfl) (fun _ _ _ h => h) (Or.inl ⟨by rfl, ?hyNx12⟩) (by with_reducible assumption) ?restNx12
          case hyNx12 => (intro w hSw; (try dsimp only at hSw); go_simp; try with_reducible rfl)
          case' restNx12 => (try simp only [Act.put, List.setIfInBounds_toArray, List.set_cons_zero, List.set_cons_succ])
          refine wpAnyH_ready (rs := [13]) (by kernel_rfl) (by simp) ?_
          refine AllReadyH.cons (o := { dst := none, op := Op.store 26 (Operand.tmp 4) (Operand.tmp 62), type := 0, pos := "l4_inside.go:109", after := #[{ on := 12, ground := Ground.data }, { on := 9, ground := Ground.chain }, { on := 0, ground := Ground.phase }, { on := 1, ground := Ground.phase }, { on := 2, ground := Ground.phase }, { on := 3, ground := Ground.phase }, { on := 4, ground := Ground.phase }, { on := 5, ground := Ground.phase }, { on := 6, ground := Ground.phase }, { on := 7, ground := Ground.phase }, { on := 8, ground := Ground.phase }, { on := 9, ground := Ground.phase }, { on := 10, ground := Ground.phase }, { on := 11, ground := Ground.phase }, { on := 12, ground := Ground.phase }], guard := none }) rfl (fun K hK => ?_) AllReadyH.nil
          go_simp
          refine hK.out _ _ ?_ (fun hHeld => ?_)
          · exact ⟨by go_simp, by go_simp⟩
          clear hK K
          try simp only [Act.put, List.setIfInBounds_toArray, List.set_cons_zero, List.set_cons_succ]
          refine wpAnyH_done (by kernel_rfl) ?_ _
          go_wp2
          (refine bodyPost_ret (by simp [results, Tryd.results71, go_sem, za8, zb8]; first | done | exact ⟨rfl, rfl⟩) rfl ⟨_, _, rfl, (hR8.below (by go_grown)).mono (by omega), (by repeat' (first | (with_reducible exact hO08) | (with_reducible refine Only.alloc ?_ _) | (with_reducible refine Only.setCell ?_ (Or.inr ?_) _) | (with_reducible refine Only.drew ?_) | exact Nat.le_refl _ | omega))⟩)
end Go.Proofs.YtipiamhnngmjmaaDoor
