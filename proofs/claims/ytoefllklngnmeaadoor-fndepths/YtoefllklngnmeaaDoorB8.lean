/-
  Points, sets and hulls: contracts for the walks (DrHull, DrNear, DrDp, ExMath, DpLaw, DpWalk in one text).
  Conditions: as each theorem states them.
-/
import Derived.Test.YtoefllklngnmeaaDoorB4
import Derived.Test.YtoefllklngnmeaaDoorHHull
import Derived.Test.YtoefllklngnmeaaDoorHOut
import Derived.Test.YtoefllklngnmeaaDoorLyLaw
import Derived.Test.YtoefllklngnmeaaDoorDp9t
import Derived.Test.YtoefllklngnmeaaDoorDp9s
import Derived.Test.YtoefllklngnmeaaDoorLy9g
import Derived.Test.YtoefllklngnmeaaDoorTop4
namespace Go.Proofs.YtoefllklngnmeaaDoor
open Go.RowKit
set_option linter.unusedVariables false
theorem OwnC.set {N g n cap : Nat} {l : List (Int × Int)} {w : World} (h : OwnC N (.slice (Option.some ⟨g, 0, none⟩) n cap) l w) (j : Nat) (x : Int) : ∃ l' : List (Int × Int), l'.length = l.length ∧ OwnC N (.slice (Option.some ⟨g, 0, none⟩) n cap) l' (w.setCell ⟨g, j, none⟩ (.int .i64 x)) := by
  rcases h with ⟨_, e⟩ | ⟨g', c', M, f, e, h1, h2, h3, h6, h4, h5⟩
  · simp at e
  · simp at e
    obtain ⟨rfl, rfl, rfl⟩ := e
    refine ⟨(List.range l.length).map fun i => (if i * 2 = j then x else px l i, if i * 2 + 1 = j then x else py l i), by simp, .inr ⟨g, cap, M, _, by simp, h1, by simpa using h2, h3, h6, h4.set j _, fun i hi => ?_⟩⟩
    simp only [List.length_map, List.length_range] at hi
    have h5' := h5 i hi
    unfold cel at h5' ⊢
    by_cases hi2 : i % 2 = 0
    · rw [if_pos hi2] at h5' ⊢
      have hlt : i / 2 < l.length := by omega
      have hx : px ((List.range l.length).map fun i => (if i * 2 = j then x else px l i, if i * 2 + 1 = j then x else py l i)) (i / 2) = if i / 2 * 2 = j then x else px l (i / 2) := by simp [px, hlt]
      rw [hx, show i / 2 * 2 = i by omega]
      by_cases hij : i = j
      · rw [if_pos hij, if_pos hij]
      · rw [if_neg hij, if_neg hij]; exact h5'
    · rw [if_neg hi2] at h5' ⊢
      have hlt : i / 2 < l.length := by omega
      have hx : py ((List.range l.length).map fun i => (if i * 2 = j then x else px l i, if i * 2 + 1 = j then x else py l i)) (i / 2) = if i / 2 * 2 + 1 = j then x else py l (i / 2) := by simp [py, hlt]
      rw [hx, show i / 2 * 2 + 1 = i by omega]
      by_cases hij : i = j
      · rw [if_pos hij, if_pos hij]
      · rw [if_neg hij, if_neg hij]; exact h5'
theorem OwnC.block {N n cap : Nat} {a : Option Addr} {l : List (Int × Int)} {w : World} (h : OwnC N (.slice a n cap) l w) (hn : 0 < n) : ∃ g, a = Option.some ⟨g, 0, none⟩ ∧ N ≤ g ∧ g < w.heap.size ∧ ∀ j, w.frozen? ⟨g, j, none⟩ = false := by
  rcases h with ⟨_, e⟩ | ⟨g, c, M, f, e, h1, _, _, _, h4, _⟩
  · simp at e; omega
  · simp at e
    exact ⟨g, e.1, h1, h4.lt, fun j => h4.frozen j⟩
theorem OwnC.only {N b : Nat} {v : Value} {l : List (Int × Int)} {u u' : World} (h : OwnC N v l u) (hO : Only b u u') (hb : b < N) : OwnC N v l u' := by
  rcases h with h | ⟨g, c, M, f, e, h1, h2, h3, h6, ⟨cc, k1, k2, k3⟩, h5⟩
  · exact .inl h
  · have hlt : g < u.heap.size := by
      by_cases hg : g < u.heap.size
      · exact hg
      · rw [Array.getElem?_eq_none (by omega)] at k1; cases k1
    exact .inr ⟨g, c, M, f, e, h1, h2, h3, h6, ⟨cc, (hO.block g hlt (by omega)).trans k1, k2, k3⟩, h5⟩
set_option maxHeartbeats 1000000 in
theorem pick_h (n : Int) (hn : 1 ≤ n) (hn' : n ≤ 200) (N b m : Nat) (w : World) (h : Rd N b m w) (hm : m ≤ 1000000) :
    Calls Tryd.prog 75 #[.pointer (some ⟨b, 0, none⟩), .int .i64 n] w fun e w' => ∃ v : Int, e = .returned (.int .i64 v) ∧ 0 ≤ v ∧ v < n ∧ Rd N b (m + 1) w' ∧ Only b w w' := by
  by_cases h2 : 2 ≤ n
  · exact pick_r n h2 hn' N b m w h hm
  · obtain rfl : n = 1 := by omega
    have H := hid h
    clear h
    go_enter Tryd.func75, Tryd.ntmps75
    go_wp2
    go_ret
    exact ⟨0, rfl, by omega, by omega, H.out.mono (by omega), Only.refl _ _⟩
end Go.Proofs.YtoefllklngnmeaaDoor
namespace Go.Proofs.YtoefllklngnmeaaDoor
open Go.RowKit
set_option linter.unusedVariables false
theorem boxf (w : World) (x y : Int) (t : TypeId) (i : Nat) : (w.alloc (.cells #[.int .i64 x, .int .i64 y] t)).frozen? ⟨w.heap.size, i, none⟩ = false := by
  have := heap_alloc_new w (.cells #[.int .i64 x, .int .i64 y] t)
  unfold World.frozen?
  rw [this]
  simp
set_option maxHeartbeats 8000000 in
set_option maxRecDepth 8000 in
theorem near_r (l : List (Int × Int)) (a : Option Addr) (len cap : Nat) (N b m : Nat) (w : World) (h : Rd N b m w) (hm : m ≤ 700000) (hl : l.length = len) (h1 : len ≤ 200) (hA : At w.heap.size a l w) (hab : ∀ g off, a = some ⟨g, off, none⟩ → g ≠ b) :
    Calls Tryd.prog 55 #[.pointer (some ⟨b, 0, none⟩), .slice a len cap] w fun e w' => ∃ x y : Int, e = .returned (.agg #[.int .i64 x, .int .i64 y]) ∧ Rd N b (m + 20) w' ∧ Only b w w' := by
  subst hl
  have hb := h.lt
  have hrb : w.heap.size ≠ b := by omega
  have za0 := box0 w 0 0 30
  have zb0 := box1 w 0 0 30
  have ya0 := boxf w 0 0 30 0
  have yb0 := boxf w 0 0 30 1
  have hR0 := h.below (by go_grown : Below (b + 1) w (w.alloc (.cells #[.int .i64 0, .int .i64 0] 30)))
  have hO0 : Only b w (w.alloc (.cells #[.int .i64 0, .int .i64 0] 30)) := (Only.refl b w).alloc _
  have hs0 : (w.alloc (.cells #[.int .i64 0, .int .i64 0] 30)).heap.size = w.heap.size + 1 := by simp
  by_cases l0 : l.length = 0
  · have hd : ((l.length : Int) == 0) = true := by rw [l0]; rfl
    clear l0 hA hab
    go_enter Tryd.func55, Tryd.ntmps55
    go_upto_region 1 with fail
    generalize w.alloc (.cells #[.int .i64 0, .int .i64 0] 30) = wB at za0 zb0 ya0 yb0 hR0 hO0 hs0 ⊢
    go_wp2_with (go_at_call 77; refine (anyPoint_r N b _ wB hR0 (by omega)).mono ?_; rintro e w1 ⟨x, y, rfl, _, _, _, _, hR1, hO1⟩; have za1 := (hO1.cell (p := ⟨w.heap.size, 0, none⟩) (show w.heap.size < wB.heap.size by omega) hrb).trans za0; have zb1 := (hO1.cell (p := ⟨w.heap.size, 1, none⟩) (show w.heap.size < wB.heap.size by omega) hrb).trans zb0; have ya1 := (hO1.frozen (p := ⟨w.heap.size, 0, none⟩) (show w.heap.size < wB.heap.size by omega) hrb).trans ya0; have yb1 := (hO1.frozen (p := ⟨w.heap.size, 1, none⟩) (show w.heap.size < wB.heap.size by omega) hrb).trans yb0; have hO01 := hO0.trans hO1; have hs1 := hO1.size)
    (refine bodyPost_ret (by simp [results, Tryd.results55, go_sem, za1, zb1]; first | done | exact ⟨rfl, rfl⟩) rfl ⟨_, _, rfl, (hR1.below (by go_grown)).mono (by omega), (by repeat' (first | (with_reducible exact hO01) | (with_reducible refine Only.alloc ?_ _) | (with_reducible refine Only.setCell ?_ (Or.inr ?_) _) | (with_reducible refine Only.drew ?_) | exact Nat.le_refl _ | omega))⟩)
  · have hd : ((l.length : Int) == 0) = false := by simp; exact List.ne_nil_of_length_pos (by omega)
    obtain ⟨g, off, rfl, hg1, _, _⟩ := hA 0 (by omega)
    have hgb := hab g off rfl
    have HC : Hid (∀ i, i < l.length → ∀ u, Only b w u → u.cell? ⟨g, off + i * 2, none⟩ = some (.int .i64 (px l i)) ∧ u.cell? ⟨g, off + i * 2 + 1, none⟩ = some (.int .i64 (py l i))) := fun i hi u hu => by
      obtain ⟨g', off', e, _, c0, c1⟩ := hA i hi
      obtain ⟨rfl, rfl⟩ : g = g' ∧ off = off' := by simpa using e
      exact ⟨(hu.cell (p := ⟨g, off + i * 2, none⟩) hg1 hgb).trans c0, (hu.cell (p := ⟨g, off + i * 2 + 1, none⟩) hg1 hgb).trans c1⟩
    clear hA hab
    have lp : 1 ≤ (l.length : Int) := by omega
    have l2 : (l.length : Int) ≤ 200 := by omega
    go_enter Tryd.func55, Tryd.ntmps55
    go_upto_region 1 with fail
    generalize w.alloc (.cells #[.int .i64 0, .int .i64 0] 30) = wB at za0 zb0 ya0 yb0 hR0 hO0 hs0 ⊢
    have tk : True := trivial
    go_upto_region 3 with (first
      | (go_at_call 76; refine (one_r 4 (by omega) (by omega) N b _ wB hR0 (by omega)).mono ?_; rintro e w1 ⟨v1, rfl, hR1, hO1⟩; have za1 := (hO1.cell (p := ⟨w.heap.size, 0, none⟩) (show w.heap.size < wB.heap.size by omega) hrb).trans za0; have zb1 := (hO1.cell (p := ⟨w.heap.size, 1, none⟩) (show w.heap.size < wB.heap.size by omega) hrb).trans zb0; have ya1 := (hO1.frozen (p := ⟨w.heap.size, 0, none⟩) (show w.heap.size < wB.heap.size by omega) hrb).trans ya0; have yb1 := (hO1.frozen (p := ⟨w.heap.size, 1, none⟩) (show w.heap.size < wB.heap.size by omega) hrb).trans yb0; have hO01 := hO0.trans hO1; have hs1 := hO1.size)
      | (go_at_call 77; refine (anyPoint_r N b _ w1 hR1 (by omega)).mono ?_; rintro e w2 ⟨x, y, rfl, _, _, _, _, hR2, hO2⟩; have za2 := (hO2.cell (p := ⟨w.heap.size, 0, none⟩) (show w.heap.size < w1.heap.size by omega) hrb).trans za1; have zb2 := (hO2.cell (p := ⟨w.heap.size, 1, none⟩) (show w.heap.size < w1.heap.size by omega) hrb).trans zb1; have ya2 := (hO2.frozen (p := ⟨w.heap.size, 0, none⟩) (show w.heap.size < w1.heap.size by omega) hrb).trans ya1; have yb2 := (hO2.frozen (p := ⟨w.heap.size, 1, none⟩) (show w.heap.size < w1.heap.size by omega) hrb).trans yb1; have hO02 := hO01.trans hO2; have hs2 := hO2.size))
    · (refine bodyPost_ret (by simp [results, Tryd.results55, go_sem, za2, zb2]; first | done | exact ⟨rfl, rfl⟩) rfl ⟨_, _, rfl, (hR2.below (by go_grown)).mono (by omega), (by repeat' (first | (with_reducible exact hO02) | (with_reducible refine Only.alloc ?_ _) | (with_reducible refine Only.setCell ?_ (Or.inr ?_) _) | (with_reducible refine Only.drew ?_) | exact Nat.le_refl _ | omega))⟩)
    · clear za0 zb0 ya0 yb0 hR0 hO0
      go_upto_region 4 with (go_at_call 75; refine (pick_h (l.length : Int) lp l2 N b _ w1 hR1 (by omega)).mono ?_; rintro e w2 ⟨xi, rfl, hi0, hi1, hR2, hO2⟩; obtain ⟨i, rfl⟩ := Int.eq_ofNat_of_zero_le hi0; have hil : i < l.length := (by omega); have za2 := (hO2.cell (p := ⟨w.heap.size, 0, none⟩) (show w.heap.size < w1.heap.size by omega) hrb).trans za1; have zb2 := (hO2.cell (p := ⟨w.heap.size, 1, none⟩) (show w.heap.size < w1.heap.size by omega) hrb).trans zb1; have ya2 := (hO2.frozen (p := ⟨w.heap.size, 0, none⟩) (show w.heap.size < w1.heap.size by omega) hrb).trans ya1; have yb2 := (hO2.frozen (p := ⟨w.heap.size, 1, none⟩) (show w.heap.size < w1.heap.size by omega) hrb).trans yb1; have hO02 := hO01.trans hO2; have hs2 := hO2.size; obtain ⟨p0, p1⟩ := HC.out i hil w2 hO02)
      have hbP : Below w2.heap.size w2 (w2.alloc (.cells #[.int .i64 (px l i), .int .i64 (py l i)] 30)) := by go_grown
      have sP : (w2.alloc (.cells #[.int .i64 (px l i), .int .i64 (py l i)] 30)).heap.size = w2.heap.size + 1 := by simp
      have a0 := box0 w2 (px l i) (py l i) 30
      have a1 := box1 w2 (px l i) (py l i) 30
      have za3 := cell_later hbP za2
      have zb3 := cell_later hbP zb2
      have ya3 := (hbP.frozen (show w.heap.size < w2.heap.size by omega)).trans ya2
      have yb3 := (hbP.frozen (show w.heap.size < w2.heap.size by omega)).trans yb2
      have hR3 := hR2.below (hbP.mono (by have := hR2.lt; omega))
      have hO03 := hO02.trans (Only.ofBelow hbP)
      clear za1 zb1 ya1 yb1 za2 zb2 ya2 yb2 hR1 hO1 hR2 hO2 p0 p1 hO01 hO02
      generalize w2.alloc (.cells #[.int .i64 (px l i), .int .i64 (py l i)] 30) = wP at a0 a1 za3 zb3 ya3 yb3 hR3 hO03 sP hbP ⊢
      go_upto_region 5 with (go_at_call 75; refine (pick_h (l.length : Int) lp l2 N b _ wP hR3 (by omega)).mono ?_; rintro e w4 ⟨xj, rfl, hj0, hj1, hR4, hO4⟩; obtain ⟨j, rfl⟩ := Int.eq_ofNat_of_zero_le hj0; have hjl : j < l.length := (by omega); have za4 := (hO4.cell (p := ⟨w.heap.size, 0, none⟩) (show w.heap.size < wP.heap.size by omega) hrb).trans za3; have zb4 := (hO4.cell (p := ⟨w.heap.size, 1, none⟩) (show w.heap.size < wP.heap.size by omega) hrb).trans zb3; have ya4 := (hO4.frozen (p := ⟨w.heap.size, 0, none⟩) (show w.heap.size < wP.heap.size by omega) hrb).trans ya3; have yb4 := (hO4.frozen (p := ⟨w.heap.size, 1, none⟩) (show w.heap.size < wP.heap.size by omega) hrb).trans yb3; have hO04 := hO03.trans hO4; have hs4 := hO4.size; obtain ⟨p0, p1⟩ := HC.out j hjl w4 hO04; have a2 := (hO4.cell (p := ⟨w2.heap.size, 0, none⟩) (show w2.heap.size < wP.heap.size by omega) (show w2.heap.size ≠ b by omega)).trans a0; have a3 := (hO4.cell (p := ⟨w2.heap.size, 1, none⟩) (show w2.heap.size < wP.heap.size by omega) (show w2.heap.size ≠ b by omega)).trans a1)
      have hbQ : Below w4.heap.size w4 (w4.alloc (.cells #[.int .i64 (px l j), .int .i64 (py l j)] 30)) := by go_grown
      have sQ : (w4.alloc (.cells #[.int .i64 (px l j), .int .i64 (py l j)] 30)).heap.size = w4.heap.size + 1 := by simp
      have c0 := box0 w4 (px l j) (py l j) 30
      have c1 := box1 w4 (px l j) (py l j) 30
      have a4 := cell_later hbQ a2
      have a5 := cell_later hbQ a3
      have za5 := cell_later hbQ za4
      have zb5 := cell_later hbQ zb4
      have ya5 := (hbQ.frozen (show w.heap.size < w4.heap.size by omega)).trans ya4
      have yb5 := (hbQ.frozen (show w.heap.size < w4.heap.size by omega)).trans yb4
      have hR5 := hR4.below (hbQ.mono (by have := hR4.lt; omega))
      have hO05 := hO04.trans (Only.ofBelow hbQ)
      clear za3 zb3 ya3 yb3 za4 zb4 ya4 yb4 hR3 hR4 hO4 p0 p1 hO03 hO04 a0 a1 a2 a3
      generalize w4.alloc (.cells #[.int .i64 (px l j), .int .i64 (py l j)] 30) = wQ at c0 c1 a4 a5 za5 zb5 ya5 yb5 hR5 hO05 sQ hbQ ⊢
      go_upto_region 6 with (go_at_call 75; refine (pick_r 3 (by omega) (by omega) N b _ wQ hR5 (by omega)).mono ?_; rintro e w6 ⟨x, rfl, hx0, hx1, hR6, hO6⟩; have za6 := (hO6.cell (p := ⟨w.heap.size, 0, none⟩) (show w.heap.size < wQ.heap.size by omega) hrb).trans za5; have zb6 := (hO6.cell (p := ⟨w.heap.size, 1, none⟩) (show w.heap.size < wQ.heap.size by omega) hrb).trans zb5; have ya6 := (hO6.frozen (p := ⟨w.heap.size, 0, none⟩) (show w.heap.size < wQ.heap.size by omega) hrb).trans ya5; have yb6 := (hO6.frozen (p := ⟨w.heap.size, 1, none⟩) (show w.heap.size < wQ.heap.size by omega) hrb).trans yb5; have hO06 := hO05.trans hO6; have hs6 := hO6.size; have d0 := (hO6.cell (p := ⟨w2.heap.size, 0, none⟩) (show w2.heap.size < wQ.heap.size by omega) (show w2.heap.size ≠ b by omega)).trans a4; have d1 := (hO6.cell (p := ⟨w2.heap.size, 1, none⟩) (show w2.heap.size < wQ.heap.size by omega) (show w2.heap.size ≠ b by omega)).trans a5; have d2 := (hO6.cell (p := ⟨w4.heap.size, 0, none⟩) (show w4.heap.size < wQ.heap.size by omega) (show w4.heap.size ≠ b by omega)).trans c0; have d3 := (hO6.cell (p := ⟨w4.heap.size, 1, none⟩) (show w4.heap.size < wQ.heap.size by omega) (show w4.heap.size ≠ b by omega)).trans c1)
      clear za5 zb5 ya5 yb5 hR5 hO05 hO6 a4 a5 c0 c1
      by_cases x0 : x = 0
      · subst x0
        go_wp2
        (refine bodyPost_ret (by simp [results, Tryd.results55, go_sem, za6, zb6]; first | done | exact ⟨rfl, rfl⟩) rfl ⟨_, _, rfl, (hR6.below (by go_grown)).mono (by omega), (by repeat' (first | (with_reducible exact hO06) | (with_reducible refine Only.alloc ?_ _) | (with_reducible refine Only.setCell ?_ (Or.inr ?_) _) | (with_reducible refine Only.drew ?_) | exact Nat.le_refl _ | omega))⟩)
      · by_cases x1 : x = 1
        · subst x1
          go_wp2
          (refine bodyPost_ret (by simp [results, Tryd.results55, go_sem, za6, zb6]; first | done | exact ⟨rfl, rfl⟩) rfl ⟨_, _, rfl, (hR6.below (by go_grown)).mono (by omega), (by repeat' (first | (with_reducible exact hO06) | (with_reducible refine Only.alloc ?_ _) | (with_reducible refine Only.setCell ?_ (Or.inr ?_) _) | (with_reducible refine Only.drew ?_) | exact Nat.le_refl _ | omega))⟩)
        · have y0 : (x == 0) = false := by simpa using x0
          have y1 : (x == 1) = false := by simpa using x1
          clear x0 x1
          have hlt2 : w.heap.size < w2.heap.size := by omega
          go_wp2
          refine wp_region_held_drew (S := (fun u => u.cell? ⟨w2.heap.size, 0, none⟩ = some (.int .i64 (px l i)) ∧ u.cell? ⟨w2.heap.size, 1, none⟩ = some (.int .i64 (py l i)))) (by kernel_rfl) ?_ (fun hHeld => ?_)
          · exact ⟨d0, d1⟩
          refine wpAnyH_take (i := 0) (oi := { dst := some 50, op := Op.fieldAddr 30 (Operand.tmp 5) 0, type := 0, pos := "l4_inside.go:109", after := #[], guard := none }) (v := ?vNx0) rfl (by kernel_rfl) (by kernel_rfl) (by kernel_rfl) (fun _ _ _ h => h) (Or.inl ⟨by rfl, ?hyNx0⟩) (by with_reducible assumption) ?restNx0
          case hyNx0 => (intro w hSw; (try dsimp only at hSw); go_simp; try with_reducible rfl)
          case' restNx0 => (try simp only [Act.put, List.setIfInBounds_toArray, List.set_cons_zero, List.set_cons_succ])
          refine wpAnyH_take (i := 1) (oi := { dst := some 51, op := Op.load 3 (Operand.tmp 50), type := 3, pos := "l4_inside.go:109", after := #[{ on := 0, ground := Ground.data }], guard := none }) (v := ?vNx1) rfl (by kernel_rfl) (by kernel_rfl) (by kernel_rfl) (fun _ _ _ h => h) (Or.inl ⟨by rfl, ?hyNx1⟩) (by with_reducible assumption) ?restNx1
          case hyNx1 => (intro w hSw; (try dsimp only at hSw); go_simp; try with_reducible rfl)
          case' restNx1 => (try simp only [Act.put, List.setIfInBounds_toArray, List.set_cons_zero, List.set_cons_succ])
          refine wpAnyH_take (i := 2) (oi := { dst := some 52, op := Op.move (Operand.tmp 0), type := 70, pos := "l4_inside.go:109", after := #[], guard := none }) (v := ?vNx2) rfl (by kernel_rfl) (by kernel_rfl) (by kernel_rfl) (fun _ _ _ h => h) (Or.inl ⟨by rfl, ?hyNx2⟩) (by with_reducible assumption) ?restNx2
          case hyNx2 => (intro w hSw; (try dsimp only at hSw); go_simp; try with_reducible rfl)
          case' restNx2 => (try simp only [Act.put, List.setIfInBounds_toArray, List.set_cons_zero, List.set_cons_succ])
          refine wpAnyH_take (i := 6) (oi := { dst := some 56, op := Op.fieldAddr 30 (Operand.tmp 5) 1, type := 0, pos := "l4_inside.go:109", after := #[], guard := none }) (v := ?vNx6) rfl (by kernel_rfl) (by kernel_rfl) (by kernel_rfl) (fun _ _ _ h => h) (Or.inl ⟨by rfl, ?hyNx6⟩) (by with_reducible assumption) ?restNx6
          case hyNx6 => (intro w hSw; (try dsimp only at hSw); go_simp; try with_reducible rfl)
          case' restNx6 => (try simp only [Act.put, List.setIfInBounds_toArray, List.set_cons_zero, List.set_cons_succ])
          refine wpAnyH_take (i := 7) (oi := { dst := some 57, op := Op.load 3 (Operand.tmp 56), type := 3, pos := "l4_inside.go:109", after := #[{ on := 6, ground := Ground.data }], guard := none }) (v := ?vNx7) rfl (by kernel_rfl) (by kernel_rfl) (by kernel_rfl) (fun _ _ _ h => h) (Or.inl ⟨by rfl, ?hyNx7⟩) (by with_reducible assumption) ?restNx7
          case hyNx7 => (intro w hSw; (try dsimp only at hSw); go_simp; try with_reducible rfl)
          case' restNx7 => (try simp only [Act.put, List.setIfInBounds_toArray, List.set_cons_zero, List.set_cons_succ])
          refine wpAnyH_take (i := 8) (oi := { dst := some 58, op := Op.move (Operand.tmp 0), type := 70, pos := "l4_inside.go:109", after := #[], guard := none }) (v := ?vNx8) rfl (by kernel_rfl) (by kernel_rfl) (by kernel_rfl) (fun _ _ _ h => h) (Or.inl ⟨by rfl, ?hyNx8⟩) (by with_reducible assumption) ?restNx8
          case hyNx8 => (intro w hSw; (try dsimp only at hSw); go_simp; try with_reducible rfl)
          case' restNx8 => (try simp only [Act.put, List.setIfInBounds_toArray, List.set_cons_zero, List.set_cons_succ])
          refine wpAnyH_ready (rs := [3]) (by kernel_rfl) (by simp) ?_
          refine AllReadyH.cons (o := { dst := some 53, op := Op.call { callee := Callee.value (Operand.func 75), args := #[Operand.tmp 52, Operand.const (Value.int IntKind.i64 3)], argTypes := #[70, 3] }, type := 3, pos := "l4_inside.go:109", after := #[{ on := 2, ground := Ground.data }], guard := none }) rfl (fun K hK => ?_) AllReadyH.nil
          go_simp
          refine (pick_r 3 (by omega) (by omega) N b _ _ (hR6.below (Below.refl _ _).drew) (by omega)).mono ?_
          rintro e w7 ⟨u7, rfl, hv7, hw7, hR7, hP7⟩
          have hO7 : Only b w6 w7 := (Only.refl b w6).drew.trans hP7
          have za7 := (hO7.cell (p := ⟨w.heap.size, 0, none⟩) (show w.heap.size < w6.heap.size by omega) hrb).trans za6
          have zb7 := (hO7.cell (p := ⟨w.heap.size, 1, none⟩) (show w.heap.size < w6.heap.size by omega) hrb).trans zb6
          have ya7 := (hO7.frozen (p := ⟨w.heap.size, 0, none⟩) (show w.heap.size < w6.heap.size by omega) hrb).trans ya6
          have yb7 := (hO7.frozen (p := ⟨w.heap.size, 1, none⟩) (show w.heap.size < w6.heap.size by omega) hrb).trans yb6
          have hO07 := hO06.trans hO7
          have hs7 := hO7.size
          have d07 := (hO7.cell (p := ⟨w2.heap.size, 0, none⟩) (show w2.heap.size < w6.heap.size by omega) (show w2.heap.size ≠ b by omega)).trans d0
          have d17 := (hO7.cell (p := ⟨w2.heap.size, 1, none⟩) (show w2.heap.size < w6.heap.size by omega) (show w2.heap.size ≠ b by omega)).trans d1
          go_wp2_with fail
          refine hK.out _ _ ?_ (fun hHeld => ?_)
          · exact ⟨d07, d17⟩
          clear hK K
          try simp only [Act.put, List.setIfInBounds_toArray, List.set_cons_zero, List.set_cons_succ]
          refine wpAnyH_take (i := 4) (oi := { dst := some 54, op := Op.binOp BinOp.add 3 (Operand.tmp 51) (Operand.tmp 53) 3, type := 3, pos := "l4_inside.go:109", after := #[{ on := 1, ground := Ground.data }, { on := 3, ground := Ground.data }], guard := none }) (v := ?vNx4) rfl (by kernel_rfl) (by kernel_rfl) (by kernel_rfl) (fun _ _ _ h => h) (Or.inl ⟨by rfl, ?hyNx4⟩) (by with_reducible assumption) ?restNx4
          case hyNx4 => (intro w hSw; (try dsimp only at hSw); go_simp; try with_reducible rfl)
          case' restNx4 => (try simp only [Act.put, List.setIfInBounds_toArray, List.set_cons_zero, List.set_cons_succ])
          refine wpAnyH_take (i := 5) (oi := { dst := some 55, op := Op.binOp BinOp.sub 3 (Operand.tmp 54) (Operand.const (Value.int IntKind.i64 1)) 3, type := 3, pos := "l4_inside.go:109", after := #[{ on := 4, ground := Ground.data }], guard := none }) (v := ?vNx5) rfl (by kernel_rfl) (by kernel_rfl) (by kernel_rfl) (fun _ _ _ h => h) (Or.inl ⟨by rfl, ?hyNx5⟩) (by with_reducible assumption) ?restNx5
          case hyNx5 => (intro w hSw; (try dsimp only at hSw); go_simp; try with_reducible rfl)
          case' restNx5 => (try simp only [Act.put, List.setIfInBounds_toArray, List.set_cons_zero, List.set_cons_succ])
          refine wpAnyH_ready (rs := [9]) (by kernel_rfl) (by simp) ?_
          refine AllReadyH.cons (o := { dst := some 59, op := Op.call { callee := Callee.value (Operand.func 75), args := #[Operand.tmp 58, Operand.const (Value.int IntKind.i64 3)], argTypes := #[70, 3] }, type := 3, pos := "l4_inside.go:109", after := #[{ on := 8, ground := Ground.data }, { on := 3, ground := Ground.chain }], guard := none }) rfl (fun K hK => ?_) AllReadyH.nil
          go_simp
          refine (pick_r 3 (by omega) (by omega) N b _ _ (hR7) (by omega)).mono ?_
          rintro e w8 ⟨u8, rfl, hv8, hw8, hR8, hP8⟩
          have hO8 : Only b w7 w8 := hP8
          have za8 := (hO8.cell (p := ⟨w.heap.size, 0, none⟩) (show w.heap.size < w7.heap.size by omega) hrb).trans za7
          have zb8 := (hO8.cell (p := ⟨w.heap.size, 1, none⟩) (show w.heap.size < w7.heap.size by omega) hrb).trans zb7
          have ya8 := (hO8.frozen (p := ⟨w.heap.size, 0, none⟩) (show w.heap.size < w7.heap.size by omega) hrb).trans ya7
          have yb8 := (hO8.frozen (p := ⟨w.heap.size, 1, none⟩) (show w.heap.size < w7.heap.size by omega) hrb).trans yb7
          have hO08 := hO07.trans hO8
          have hs8 := hO8.size
          have d08 := (hO8.cell (p := ⟨w2.heap.size, 0, none⟩) (show w2.heap.size < w7.heap.size by omega) (show w2.heap.size ≠ b by omega)).trans d07
          have d18 := (hO8.cell (p := ⟨w2.heap.size, 1, none⟩) (show w2.heap.size < w7.heap.size by omega) (show w2.heap.size ≠ b by omega)).trans d17
          go_wp2_with fail
          refine hK.out _ _ ?_ (fun hHeld => ?_)
          · exact ⟨d08, d18⟩
          clear hK K
          try simp only [Act.put, List.setIfInBounds_toArray, List.set_cons_zero, List.set_cons_succ]
          refine wpAnyH_take (i := 10) (oi := { dst := some 60, op := Op.binOp BinOp.add 3 (Operand.tmp 57) (Operand.tmp 59) 3, type := 3, pos := "l4_inside.go:109", after := #[{ on := 7, ground := Ground.data }, { on := 9, ground := Ground.data }], guard := none }) (v := ?vNx10) rfl (by kernel_rfl) (by kernel_rfl) (by kernel_rfl) (fun _ _ _ h => h) (Or.inl ⟨by rfl, ?hyNx10⟩) (by with_reducible assumption) ?restNx10
          case hyNx10 => (intro w hSw; (try dsimp only at hSw); go_simp; try with_reducible rfl)
          case' restNx10 => (try simp only [Act.put, List.setIfInBounds_toArray, List.set_cons_zero, List.set_cons_succ])
          refine wpAnyH_take (i := 11) (oi := { dst := some 61, op := Op.binOp BinOp.sub 3 (Operand.tmp 60) (Operand.const (Value.int IntKind.i64 1)) 3, type := 3, pos := "l4_inside.go:109", after := #[{ on := 10, ground := Ground.data }], guard := none }) (v := ?vNx11) rfl (by kernel_rfl) (by kernel_rfl) (by kernel_rfl) (fun _ _ _ h => h) (Or.inl ⟨by rfl, ?hyNx11⟩) (by with_reducible assumption) ?restNx11
          case hyNx11 => (intro w hSw; (try dsimp only at hSw); go_simp; try with_reducible rfl)
          case' restNx11 => (try simp only [Act.put, List.setIfInBounds_toArray, List.set_cons_zero, List.set_cons_succ])
          refine wpAnyH_take (i := 12) (oi := { dst := some 62, op := Op.build 30 #[(0, Operand.tmp 55), (1, Operand.tmp 61)], type := 30, pos := "l4_inside.go:109", after := #[{ on := 5, ground := Ground.data }, { on := 11, ground := Ground.data }], guard := none }) (v := ?vNx12) rfl (by kernel_rfl) (by kernel_rfl) (by kernel_rfl) (fun _ _ _ h => h) (Or.inl ⟨by rfl, ?hyNx12⟩) (by with_reducible assumption) ?restNx12
          case hyNx12 => (intro w hSw; (try dsimp only at hSw); go_simp; try with_reducible rfl)
          case' restNx12 => (try simp only [Act.put, List.setIfInBounds_toArray, List.set_cons_zero, List.set_cons_succ])
          refine wpAnyH_ready (rs := [13]) (by kernel_rfl) (by simp) ?_
          refine AllReadyH.cons (o := { dst := none, op := Op.store 30 (Operand.tmp 4) (Operand.tmp 62), type := 0, pos := "l4_inside.go:109", after := #[{ on := 12, ground := Ground.data }, { on := 9, ground := Ground.chain }, { on := 0, ground := Ground.phase }, { on := 1, ground := Ground.phase }, { on := 2, ground := Ground.phase }, { on := 3, ground := Ground.phase }, { on := 4, ground := Ground.phase }, { on := 5, ground := Ground.phase }, { on := 6, ground := Ground.phase }, { on := 7, ground := Ground.phase }, { on := 8, ground := Ground.phase }, { on := 9, ground := Ground.phase }, { on := 10, ground := Ground.phase }, { on := 11, ground := Ground.phase }, { on := 12, ground := Ground.phase }], guard := none }) rfl (fun K hK => ?_) AllReadyH.nil
          go_simp
          refine hK.out _ _ ?_ (fun hHeld => ?_)
          · exact ⟨by go_simp, by go_simp⟩
          clear hK K
          try simp only [Act.put, List.setIfInBounds_toArray, List.set_cons_zero, List.set_cons_succ]
          refine wpAnyH_done (by kernel_rfl) ?_ _
          go_wp2
          (refine bodyPost_ret (by simp [results, Tryd.results55, go_sem, za8, zb8]; first | done | exact ⟨rfl, rfl⟩) rfl ⟨_, _, rfl, (hR8.below (by go_grown)).mono (by omega), (by repeat' (first | (with_reducible exact hO08) | (with_reducible refine Only.alloc ?_ _) | (with_reducible refine Only.setCell ?_ (Or.inr ?_) _) | (with_reducible refine Only.drew ?_) | exact Nat.le_refl _ | omega))⟩)
end Go.Proofs.YtoefllklngnmeaaDoor
namespace Go.Proofs.YtoefllklngnmeaaDoor
open Go.RowKit
set_option linter.unusedVariables false
theorem Bytes.mono {N N' : Nat} {a : Option Addr} {len : Nat} {w : World} (h : Bytes N a len w) (hN : N ≤ N') : Bytes N' a len w := fun i hi => by
  obtain ⟨blk, off, z, e, hb, hc, h0, h1⟩ := h i hi
  exact ⟨blk, off, z, e, Nat.lt_of_lt_of_le hb hN, hc, h0, h1⟩
/-- A new cursor is ready. -/
theorem rd_new (N b : Nat) (a : Option Addr) (len cap : Nat) (U : World) (hB : Bytes N a len U) (hl : len ≤ 1048576) (hN : N ≤ b) (hb : U.heap.size = b) :
    Rd N b 0 (U.alloc (.cells #[.slice a len cap, .int .i64 0, .int .u64 0] 73)) := by
  subst hb
  refine ⟨a, len, cap, 0, ⟨?_, ?_, ⟨0, ?_, by omega, by omega⟩, ?_, ?_⟩, hB.below ((Below.refl _ _).alloc (Nat.le_refl _) _), hN, hl, Nat.le_refl _⟩
  · simp [go_sem]
  · simp [go_sem]
  · simp [go_sem]
  · simp [go_sem]
  · simp [go_sem]
set_option maxHeartbeats 4000000 in
set_option maxRecDepth 8000 in
theorem drawDepth_c (a : Option Addr) (len cap : Nat) (w : World) (hB : Bytes w.heap.size a len w) (hl : len ≤ 1048576) :
    Calls Tryd.prog 32 #[.slice a len cap] w fun e w' => ∃ v x y, e = .returned (.tuple #[v, .agg #[.int .i64 x, .int .i64 y]]) ∧ ∃ l, Own w.heap.size v l w' ∧ l.length ≤ 13 ∧ Below w.heap.size w w' := by
  have hR0 : Rd w.heap.size (w.heap.size + 1) 0 ((w.alloc (.cells #[.int .i64 0, .int .i64 0] 30)).alloc (.cells #[.slice a len cap, .int .i64 0, .int .u64 0] 73)) := rd_new w.heap.size (w.heap.size + 1) a len cap (w.alloc (.cells #[.int .i64 0, .int .i64 0] 30)) (hB.below (show Below w.heap.size w (w.alloc (.cells #[.int .i64 0, .int .i64 0] 30)) by go_grown)) hl (by omega) (by simp)
  clear hB
  have hW : Below w.heap.size w ((w.alloc (.cells #[.int .i64 0, .int .i64 0] 30)).alloc (.cells #[.slice a len cap, .int .i64 0, .int .u64 0] 73)) := by go_grown
  have hsB : ((w.alloc (.cells #[.int .i64 0, .int .i64 0] 30)).alloc (.cells #[.slice a len cap, .int .i64 0, .int .u64 0] 73)).heap.size = w.heap.size + 1 + 1 := by simp
  have za0 : ((w.alloc (.cells #[.int .i64 0, .int .i64 0] 30)).alloc (.cells #[.slice a len cap, .int .i64 0, .int .u64 0] 73)).cell? ⟨w.heap.size, 0, none⟩ = some (.int .i64 0) := by go_simp
  have zb0 : ((w.alloc (.cells #[.int .i64 0, .int .i64 0] 30)).alloc (.cells #[.slice a len cap, .int .i64 0, .int .u64 0] 73)).cell? ⟨w.heap.size, 1, none⟩ = some (.int .i64 0) := by go_simp
  have ya0 : ((w.alloc (.cells #[.int .i64 0, .int .i64 0] 30)).alloc (.cells #[.slice a len cap, .int .i64 0, .int .u64 0] 73)).frozen? ⟨w.heap.size, 0, none⟩ = false := by go_simp
  have yb0 : ((w.alloc (.cells #[.int .i64 0, .int .i64 0] 30)).alloc (.cells #[.slice a len cap, .int .i64 0, .int .u64 0] 73)).frozen? ⟨w.heap.size, 1, none⟩ = false := by go_simp
  go_enter Tryd.func32, Tryd.ntmps32
  go_upto_region 2 with fail
  generalize ((w.alloc (.cells #[.int .i64 0, .int .i64 0] 30)).alloc (.cells #[.slice a len cap, .int .i64 0, .int .u64 0] 73)) = wB at hR0 hW hsB za0 zb0 ya0 yb0 ⊢
  generalize hbe : w.heap.size + 1 = b at hR0 hsB ⊢
  have hnb : w.heap.size ≠ b := by omega
  go_upto_region 3 with (go_at_call 54; refine (anySet_r w.heap.size b 0 wB hR0 (by omega)).mono ?_; rintro e w1 ⟨v1, rfl, l, ho1, hl1, hR1, hO1⟩; obtain ⟨a1, p1, hv1⟩ := ho1.shape; subst hv1)
  have hs1 := hO1.size
  go_wp2_with (go_at_call 55; refine (near_r l _ _ _ w.heap.size b _ w1 hR1 (by omega) rfl (by omega) ho1.at (fun g off e => by have := ho1.ge g off e; omega)).mono ?_; rintro e w2 ⟨x, y, rfl, hR2, hO2⟩; have hO12 := hO1.trans hO2; have k0 := (hO12.cell (p := ⟨w.heap.size, 0, none⟩) (show w.heap.size < wB.heap.size by omega) hnb).trans za0; have k1 := (hO12.cell (p := ⟨w.heap.size, 1, none⟩) (show w.heap.size < wB.heap.size by omega) hnb).trans zb0; have f0 := (hO12.frozen (p := ⟨w.heap.size, 0, none⟩) (show w.heap.size < wB.heap.size by omega) hnb).trans ya0; have f1 := (hO12.frozen (p := ⟨w.heap.size, 1, none⟩) (show w.heap.size < wB.heap.size by omega) hnb).trans yb0)
  refine bodyPost_ret (v := .tuple #[.slice a1 l.length p1, .agg #[.int .i64 x, .int .i64 y]]) (by simp [results, Tryd.results32, go_sem, k0, k1]) rfl ⟨_, _, _, rfl, l, ?_, hl1, ?_⟩
  · exact (((ho1.only hO2 (by omega)).mono (show w.heap.size + 1 ≤ wB.heap.size by omega)).only (((Only.refl w.heap.size _).setCell (.inl rfl) _).setCell (.inl rfl) _) (Nat.lt_succ_self _)).mono (Nat.le_succ _)
  · exact hW.trans (((hO12.below (by omega) (by omega) : Below w.heap.size wB w2).setCell (Nat.le_refl _) _).setCell (Nat.le_refl _) _)
end Go.Proofs.YtoefllklngnmeaaDoor
namespace Go.Proofs.YtoefllklngnmeaaDoor
open Go.RowKit
set_option linter.unusedVariables false
/-- Among points of a half plane about q there is one with none to its right. -/
theorem least_turn {d q : Int × Int} : ∀ (l : List (Int × Int)), l ≠ [] → (∀ p, p ∈ l → Pos d (vec q p)) → ∃ a, a ∈ l ∧ ∀ p, p ∈ l → 0 ≤ sd q a p
  | [], h, _ => absurd rfl h
  | [x], _, _ => ⟨x, by simp, fun p hp => by simp at hp; subst hp; rw [sd_end]; exact Int.le_refl _⟩
  | x :: y :: t, _, hP => by
    obtain ⟨a, ha, hA⟩ := least_turn (y :: t) (by simp) (fun p hp => hP p (List.mem_cons_of_mem _ hp))
    by_cases hx : 0 ≤ sd q a x
    · refine ⟨a, List.mem_cons_of_mem _ ha, fun p hp => ?_⟩
      rcases List.mem_cons.1 hp with rfl | hp
      · exact hx
      · exact hA p hp
    · refine ⟨x, by simp, fun p hp => ?_⟩
      rcases List.mem_cons.1 hp with rfl | hp
      · rw [sd_end]; exact Int.le_refl _
      · have h1 : 0 ≤ cx (vec q x) (vec q a) := by
          rw [cx_anti (vec q a) (vec q x), ← sd_cx]; omega
        have h2 : 0 ≤ cx (vec q a) (vec q p) := by rw [← sd_cx]; exact hA p hp
        rw [sd_cx]
        exact tri (hP x (by simp)) (hP a (List.mem_cons_of_mem _ ha)) (hP p (List.mem_cons_of_mem _ hp)) h1 h2
/-- .. and one with none to its left. -/
theorem most_turn {d q : Int × Int} : ∀ (l : List (Int × Int)), l ≠ [] → (∀ p, p ∈ l → Pos d (vec q p)) → ∃ a, a ∈ l ∧ ∀ p, p ∈ l → sd q a p ≤ 0
  | [], h, _ => absurd rfl h
  | [x], _, _ => ⟨x, by simp, fun p hp => by simp at hp; subst hp; rw [sd_end]; exact Int.le_refl _⟩
  | x :: y :: t, _, hP => by
    obtain ⟨a, ha, hA⟩ := most_turn (y :: t) (by simp) (fun p hp => hP p (List.mem_cons_of_mem _ hp))
    by_cases hx : sd q a x ≤ 0
    · refine ⟨a, List.mem_cons_of_mem _ ha, fun p hp => ?_⟩
      rcases List.mem_cons.1 hp with rfl | hp
      · exact hx
      · exact hA p hp
    · refine ⟨x, by simp, fun p hp => ?_⟩
      rcases List.mem_cons.1 hp with rfl | hp
      · rw [sd_end]; exact Int.le_refl _
      · have h1 : 0 ≤ cx (vec q a) (vec q x) := by rw [← sd_cx]; omega
        have h2 : 0 ≤ cx (vec q p) (vec q a) := by
          have := hA p hp
          rw [sd_cx] at this
          rw [cx_anti (vec q a) (vec q p)]
          omega
        have h3 := tri (hP p (List.mem_cons_of_mem _ hp)) (hP a (List.mem_cons_of_mem _ ha)) (hP x (by simp)) h2 h1
        rw [sd_cx, cx_anti (vec q p) (vec q x)]
        omega
/-- From outside a ring both are there. -/
theorem Ring.tangents {s h : List (Int × Int)} {q : Int × Int} (H : Ring s h) (hn : ¬ InP h q) : (∃ a, a ∈ h ∧ ∀ p, p ∈ h → 0 ≤ sd q a p) ∧ ∃ b, b ∈ h ∧ ∀ p, p ∈ h → sd q b p ≤ 0 := by
  obtain ⟨d, hd⟩ := H.out hn
  have hne : h ≠ [] := List.ne_nil_of_length_pos H.one
  exact ⟨least_turn h hne hd, most_turn h hne hd⟩
/-- Two with none to the right lie on one ray. -/
theorem Ring.one_ray {s h : List (Int × Int)} {q a b : Int × Int} (H : Ring s h) (hn : ¬ InP h q) (ha : a ∈ h) (hb : b ∈ h) (h1 : sd q a b = 0) : 0 < dt (vec q a) (vec q b) := by
  obtain ⟨d, hd⟩ := H.out hn
  exact same_ray (hd a ha) (hd b hb) (by rw [← sd_cx]; exact h1)
/-- No side is seen from a point just where it is not outside. -/
theorem Ring.sees {s h : List (Int × Int)} {q : Int × Int} (H : Ring s h) (h3 : 3 ≤ h.length) : InP h q ↔ ∀ i, i < h.length → 0 ≤ sd (pt h i) (pt h ((i + 1) % h.length)) q := (H.poly h3).in_iff
/-- How far a point is in a direction. -/
def score (d p : Int × Int) : Int := d.1 * p.1 + d.2 * p.2
/-- Across a side, both of its ends are farthest. -/
theorem Ring.across {s h : List (Int × Int)} (H : Ring s h) (h2 : 2 ≤ h.length) {i : Nat} (hi : i < h.length) {p : Int × Int} (hp : p ∈ s) :
    let q := pt h i
    let r := pt h ((i + 1) % h.length)
    score (r.2 - q.2, q.1 - r.1) p ≤ score (r.2 - q.2, q.1 - r.1) q ∧ score (r.2 - q.2, q.1 - r.1) r = score (r.2 - q.2, q.1 - r.1) q := by
  have h1 := H.left h2 hi hp
  constructor
  · have e : score ((pt h ((i + 1) % h.length)).2 - (pt h i).2, (pt h i).1 - (pt h ((i + 1) % h.length)).1) (pt h i) - score ((pt h ((i + 1) % h.length)).2 - (pt h i).2, (pt h i).1 - (pt h ((i + 1) % h.length)).1) p = sd (pt h i) (pt h ((i + 1) % h.length)) p := by
      unfold score sd; grind
    show score _ _ ≤ score _ _
    omega
  · show score _ _ = score _ _
    unfold score; grind
end Go.Proofs.YtoefllklngnmeaaDoor
namespace Go.Proofs.YtoefllklngnmeaaDoor
open Go.RowKit Go.Shelf
set_option linter.unusedVariables false
theorem dpN_ge {l : List (Int × Int)} {q : Int × Int} {m : Nat} (hm : m ≤ l.length) : ∀ n, n ≤ l.length → (∀ p, p ∈ l → p ≠ q → m ≤ fewN l q p) → m ≤ dpN l q n
  | 0, _, _ => hm
  | n + 1, hn, h => by
    have ih := dpN_ge hm n (by omega) h
    by_cases e : (px l n, py l n) = q
    · rw [dpN_here e]; exact ih
    · rw [dpN_more e]
      have := h _ (pt_mem (l := l) (i := n) (by omega)) e
      have h2 : m ≤ fewN l q (px l n, py l n) := this
      omega
theorem dpN_at {l : List (Int × Int)} {q : Int × Int} {k : Nat} : ∀ n, k < n → (px l k, py l k) ≠ q → dpN l q n ≤ fewN l q (px l k, py l k)
  | 0, h, _ => by omega
  | n + 1, h, hne => by
    by_cases e : k = n
    · subst e; rw [dpN_more hne]; omega
    · have ih := dpN_at (l := l) n (by omega) hne
      by_cases e : (px l n, py l n) = q
      · rw [dpN_here e]; exact ih
      · rw [dpN_more e]; omega
theorem cnt_some {l : List (Int × Int)} {q p x : Int × Int} {c : Nat} (hx : x ∈ l) (h : clsN q p x = c) : 0 < cnt l q p c := List.countP_pos_iff.2 ⟨x, hx, by simp [h]⟩
theorem cnt_none {l : List (Int × Int)} {q p : Int × Int} {c : Nat} (h : ∀ x, x ∈ l → clsN q p x ≠ c) : cnt l q p c = 0 := List.countP_eq_zero.2 fun x hx => by simpa using h x hx
theorem cls_left {q p x : Int × Int} (hq : gp q) (hp : gp p) (hx : gp x) (h : 0 < sd q p x) : clsN q p x = 1 := by
  have hn : x ≠ q := fun e => by rw [e, sd_start] at h; omega
  unfold clsN
  rw [if_neg hn, sideN_eq hq hp hx]
  rcases sg_cases (sd q p x) with ⟨_, e⟩ | ⟨h', _⟩ | ⟨h', _⟩
  · rw [if_pos e]
  · omega
  · omega
theorem cls_right {q p x : Int × Int} (hq : gp q) (hp : gp p) (hx : gp x) (h : sd q p x < 0) : clsN q p x = 2 := by
  have hn : x ≠ q := fun e => by rw [e, sd_start] at h; omega
  unfold clsN
  rw [if_neg hn, sideN_eq hq hp hx]
  rcases sg_cases (sd q p x) with ⟨h', _⟩ | ⟨h', _⟩ | ⟨_, e⟩
  · omega
  · omega
  · rw [if_neg (by omega), if_pos e]
theorem cls_line {q p x : Int × Int} (hq : gp q) (hp : gp p) (hx : gp x) (hn : x ≠ q) (hne : p ≠ q) (h : sd q p x = 0) : (0 < dt (vec q p) (vec q x) → clsN q p x = 3) ∧ (dt (vec q p) (vec q x) < 0 → clsN q p x = 4) := by
  have hs := dot_side hne hn h
  unfold clsN
  rw [if_neg hn, sideN_eq hq hp hx]
  rcases sg_cases (sd q p x) with ⟨h', _⟩ | ⟨_, e⟩ | ⟨h', _⟩
  · omega
  · rw [if_neg (by omega), if_neg (by omega)]
    by_cases hl : lessB q.1 q.2 x.1 x.2 = lessB q.1 q.2 p.1 p.2
    · rw [if_pos hl]
      exact ⟨fun _ => rfl, fun k => by have := hs.1 hl; omega⟩
    · rw [if_neg hl]
      exact ⟨fun k => by have := hs.2 hl; omega, fun _ => rfl⟩
  · omega
/-- Strictly inside a ring there are corners to the right of every line. -/
theorem Ring.right {s h : List (Int × Int)} {q d : Int × Int} (H : Ring s h) (h3 : 3 ≤ h.length) (hi : ∀ i, i < h.length → 0 < sd (pt h i) (pt h ((i + 1) % h.length)) q) (hd : d ≠ (0, 0)) : ∃ p, p ∈ h ∧ cx d (vec q p) < 0 := by
  have hq : q ∉ h := fun hm => by
    obtain ⟨i, hl, e⟩ := mem_pt hm
    have := hi i hl
    rw [e, sd_start] at this
    omega
  have hc : ¬ ∃ d, ∀ p, p ∈ h → p ≠ q → Pos d (vec q p) := fun k => hq (H.corner (.inr ⟨h3, hi⟩) k)
  have hc2 : ¬ ∀ p, p ∈ h → p ≠ q → Pos d (vec q p) := fun k => hc ⟨d, k⟩
  obtain ⟨p, hp⟩ := Classical.not_forall.1 hc2
  obtain ⟨hpm, hp⟩ := Classical.not_imp.1 hp
  obtain ⟨hpq, hp⟩ := Classical.not_imp.1 hp
  by_cases hlt : cx d (vec q p) < 0
  · exact ⟨p, hpm, hlt⟩
  · have h0 : cx d (vec q p) = 0 := by
      apply Classical.byContradiction
      intro hh
      exact hp (.inl (by omega))
    have hdt : 0 < dt d (vec q p) := by
      have h1 : ¬ dt d (vec q p) < 0 := fun k => hp (.inr ⟨h0, k⟩)
      have h2 : dt d (vec q p) ≠ 0 := fun k => by
        have hl := lagr d (vec q p)
        rw [k, h0] at hl
        have a1 := dd_pos hd
        have a2 := dd_pos (vec_ne (a := q) (b := p) hpq)
        have := Int.mul_pos a1 a2
        omega
      omega
    obtain ⟨j, hj, e⟩ := mem_pt hpm
    obtain ⟨i, hil, hij⟩ : ∃ i, i < h.length ∧ (i + 1) % h.length = j := by
      by_cases hj0 : j = 0
      · exact ⟨h.length - 1, by omega, by rw [hj0, show h.length - 1 + 1 = h.length by omega, Nat.mod_self]⟩
      · exact ⟨j - 1, by omega, by rw [show j - 1 + 1 = j by omega, Nat.mod_eq_of_lt hj]⟩
    refine ⟨pt h i, pt_mem hil, ?_⟩
    have hs := hi i hil
    rw [hij, e] at hs
    have e1 : sd (pt h i) p q = cx (vec q (pt h i)) (vec q p) := by unfold sd cx vec; grind
    rw [e1] at hs
    have hr := ray d (vec q (pt h i)) (vec q p) h0
    have hp1 := Int.mul_pos hs (dd_pos hd)
    rw [hr] at hp1
    rw [cx_anti (vec q (pt h i)) d]
    have : 0 < cx (vec q (pt h i)) d := by
      apply Classical.byContradiction
      intro hh
      have := Int.mul_nonneg (show 0 ≤ dt d (vec q p) by omega) (show 0 ≤ - cx (vec q (pt h i)) d by omega)
      rw [Int.mul_neg] at this
      omega
    omega
/-- .. and to the left. -/
theorem Ring.leftish {s h : List (Int × Int)} {q d : Int × Int} (H : Ring s h) (h3 : 3 ≤ h.length) (hi : ∀ i, i < h.length → 0 < sd (pt h i) (pt h ((i + 1) % h.length)) q) (hd : d ≠ (0, 0)) : ∃ p, p ∈ h ∧ 0 < cx d (vec q p) := by
  obtain ⟨p, hp, h⟩ := H.right (d := (-d.1, -d.2)) h3 hi (fun e => hd (by simp at e; exact Prod.ext (by omega) (by omega)))
  have e : cx (-d.1, -d.2) (vec q p) = - cx d (vec q p) := by unfold cx; grind
  exact ⟨p, hp, by omega⟩
/-- From outside all of a set lies within a half plane. -/
theorem out_all {s : List (Int × Int)} {q : Int × Int} (hr : Rise s) (hn : ¬ InP (hullB tP s) q) : q ∉ s ∧ ∃ d, ∀ p, p ∈ s → Pos d (vec q p) := by
  have hqs : q ∉ s := fun hm => hn ((hull_ring hr (List.ne_nil_of_mem hm)).inside hm)
  refine ⟨hqs, ?_⟩
  have hr' : Rise (fromL (s ++ [q])) := fromL_rise _
  have hm : ∀ p, p ∈ fromL (s ++ [q]) ↔ p ∈ s ∨ p = q := fun p => by rw [fromL_iff]; simp
  by_cases hq : q ∈ hullB tP (fromL (s ++ [q]))
  · obtain ⟨h1, d, hd⟩ := hull_ext hr' hq
    exact ⟨d, fun p hp => hd p ((hm p).2 (.inl hp)) (fun e => hqs (e ▸ hp))⟩
  · exfalso
    have key := hull_sub (s := fromL (s ++ [q])) (s' := s) hr' hr (fun p hp => (hm p).2 (.inl hp)) (fun p hp => by
      rcases (hm p).1 (hullB_mem hp) with h | h
      · exact h
      · exact absurd (h ▸ hp) hq)
    rw [key] at hn
    have hqm : q ∈ fromL (s ++ [q]) := (hm q).2 (.inr rfl)
    exact hn ((hull_ring hr' (List.ne_nil_of_mem hqm)).inside hqm)
theorem hulL_tP {s : List (Int × Int)} (hG : goodL s = true) : hulL s = hullB tP s := by unfold hulL; rw [if_pos hG]; exact hull_slL (goodL_all hG)
/-- In a hull, or on its rim: some are on both sides, here, or ahead and behind. -/
theorem few_in {s : List (Int × Int)} {q p : Int × Int} (hG : goodL s = true) (hq : gp q) (hi : InP (hullB tP s) q) (hp : p ∈ s) (hne : p ≠ q) : 1 ≤ fewN s q p := by
  have hA := goodL_all hG
  have hr : Rise s := goodL_rises hG
  have H := hull_ring hr (List.ne_nil_of_mem hp)
  have gpp : gp p := hA p hp
  unfold fewN
  rcases hi with ⟨i, hil, ho⟩ | ⟨h3, hin⟩
  · have ha : pt (hullB tP s) i ∈ s := H.sub _ (pt_mem hil)
    have hb : pt (hullB tP s) ((i + 1) % (hullB tP s).length) ∈ s := H.sub _ (pt_mem (H.lt _))
    generalize pt (hullB tP s) i = a at *
    generalize pt (hullB tP s) ((i + 1) % (hullB tP s).length) = b at *
    obtain ⟨o1, o2⟩ := ho
    by_cases hqs : q ∈ s
    · have := cnt_some (q := q) (p := p) (c := 0) hqs (by unfold clsN; rw [if_pos rfl])
      omega
    · have hna : a ≠ q := fun e => hqs (e ▸ ha)
      have hnb : b ≠ q := fun e => hqs (e ▸ hb)
      have z : cx (vec q a) (vec q b) = 0 := by
        have : cx (vec q a) (vec q b) = sd a b q := by unfold cx sd vec; grind
        omega
      have n : dt (vec q a) (vec q b) < 0 := by
        have e : dt (vec a q) (vec q b) = - dt (vec q a) (vec q b) := by unfold dt vec; grind
        have h2 : dt (vec q a) (vec q b) ≠ 0 := fun k => by
          have hl := lagr (vec q a) (vec q b)
          rw [k, z] at hl
          have := Int.mul_pos (dd_pos (vec_ne (a := q) (b := a) hna)) (dd_pos (vec_ne (a := q) (b := b) hnb))
          omega
        omega
      have da := dd_pos (vec_ne (a := q) (b := a) hna)
      have hr1 := ray (vec q a) (vec q p) (vec q b) z
      have hr2 := rayd (vec q a) (vec q p) (vec q b) z
      have ga : gp a := hA a ha
      have gb : gp b := hA b hb
      have flip : ∀ (x y : Int), y * dt (vec q a) (vec q a) = dt (vec q a) (vec q b) * x → (0 < x → y < 0) ∧ (x < 0 → 0 < y) ∧ (x = 0 → y = 0) := fun x y hy => by
        refine ⟨fun hx => ?_, fun hx => ?_, fun hx => ?_⟩
        · apply Classical.byContradiction
          intro hh
          have h1 := Int.mul_nonneg (show 0 ≤ y by omega) (show 0 ≤ dt (vec q a) (vec q a) by omega)
          have h2 := Int.mul_pos (show 0 < - dt (vec q a) (vec q b) by omega) hx
          rw [Int.neg_mul] at h2
          omega
        · apply Classical.byContradiction
          intro hh
          have h1 := Int.mul_nonneg (show 0 ≤ -y by omega) (show 0 ≤ dt (vec q a) (vec q a) by omega)
          have h2 := Int.mul_pos (show 0 < - dt (vec q a) (vec q b) by omega) (show 0 < -x by omega)
          rw [Int.neg_mul] at h1
          rw [Int.neg_mul_neg] at h2
          omega
        · rw [hx, Int.mul_zero] at hy
          rcases Int.mul_eq_zero.1 hy with h | h
          · exact h
          · omega
      have f1 := flip _ _ hr1
      have f2 := flip _ _ hr2
      have ea : sd q p a = cx (vec q p) (vec q a) := rfl
      have eb : sd q p b = cx (vec q p) (vec q b) := rfl
      rw [← ea, ← eb] at f1
      rcases Int.lt_trichotomy (sd q p a) 0 with h | h | h
      · have c1 := cnt_some ha (cls_right hq gpp ga h)
        have c2 := cnt_some hb (cls_left hq gpp gb (f1.2.1 h))
        omega
      · have hb0 := f1.2.2 h
        have la := cls_line hq gpp ga hna hne h
        have lb := cls_line hq gpp gb hnb hne hb0
        have hd : dt (vec q p) (vec q a) ≠ 0 := fun k => by
          have hl := lagr (vec q p) (vec q a)
          rw [k] at hl
          rw [ea] at h
          rw [h] at hl
          have := Int.mul_pos (dd_pos (vec_ne (a := q) (b := p) hne)) da
          omega
        rcases Int.lt_or_gt_of_ne hd with k | k
        · have c1 := cnt_some ha (la.2 k)
          have c2 := cnt_some hb (lb.1 (f2.2.1 k))
          omega
        · have c1 := cnt_some ha (la.1 k)
          have c2 := cnt_some hb (lb.2 (f2.1 k))
          omega
      · have c1 := cnt_some ha (cls_left hq gpp ga h)
        have c2 := cnt_some hb (cls_right hq gpp gb (f1.1 h))
        omega
  · have hd := vec_ne (a := q) (b := p) hne
    obtain ⟨a, ha, h1⟩ := H.right h3 hin hd
    obtain ⟨b, hb, h2⟩ := H.leftish h3 hin hd
    have c1 := cnt_some (H.sub a ha) (cls_right hq gpp (hA a (H.sub a ha)) h1)
    have c2 := cnt_some (H.sub b hb) (cls_left hq gpp (hA b (H.sub b hb)) h2)
    omega
/-- Outside, and only there, the depth is 0. -/
theorem dp_out {s : List (Int × Int)} {q : Int × Int} (hG : goodL s = true) (hq : gp q) : dpN s q s.length = 0 ↔ whS (hulL s) q = 0 := by
  have hA := goodL_all hG
  have hr : Rise s := goodL_rises hG
  have e0 := hulL_tP hG
  have hAh : allG (hullB tP s) := fun p hp => hA p (hullB_mem hp)
  rw [e0]
  have hw := whS_in hAh hq
  by_cases hi : InP (hullB tP s) q
  · have h1 := hw.2 hi
    have hs : 1 ≤ s.length := by
      apply Classical.byContradiction
      intro hh
      have : s = [] := List.eq_nil_of_length_eq_zero (by omega)
      rw [this] at hi
      have e : hullB tP [] = [] := by unfold hullB; rw [if_pos (by simp)]
      rw [e] at hi
      rcases hi with ⟨i, hl, _⟩ | ⟨h3, _⟩
      · simp at hl
      · simp at h3
    have := dpN_ge (l := s) (q := q) hs s.length (Nat.le_refl _) (fun p hp hne => few_in hG hq hi hp hne)
    constructor
    · intro k; omega
    · intro k; exact absurd k h1
  · have h0 : whS (hullB tP s) q = 0 := by
      apply Classical.byContradiction
      intro hh
      exact hi (hw.1 hh)
    refine ⟨fun _ => h0, fun _ => ?_⟩
    by_cases hs : s = []
    · rw [hs]; rfl
    · obtain ⟨hqs, d, hd⟩ := out_all hr hi
      obtain ⟨a, ha, hmin⟩ := least_turn s hs hd
      obtain ⟨k, hk, e⟩ := mem_pt ha
      have hne : a ≠ q := fun e => hqs (e ▸ ha)
      have h1 := dpN_at (l := s) (q := q) (k := k) s.length hk (by show pt s k ≠ q; rw [e]; exact hne)
      have h2 : fewN s q a = 0 := by
        have c0 : cnt s q a 0 = 0 := cnt_none fun x hx => by
          have hxq : x ≠ q := fun e => hqs (e ▸ hx)
          unfold clsN
          rw [if_neg hxq]
          repeat (first | split | omega)
        have side : ∀ x, x ∈ s → clsN q a x ≠ 2 ∧ clsN q a x ≠ 4 := fun x hx => by
          have hxq : x ≠ q := fun e => hqs (e ▸ hx)
          have hm := hmin x hx
          by_cases h0 : sd q a x = 0
          · have := same_ray (hd a ha) (hd x hx) h0
            have := (cls_line hq (hA a ha) (hA x hx) hxq hne h0).1 this
            omega
          · have := cls_left hq (hA a ha) (hA x hx) (show 0 < sd q a x by omega)
            omega
        have c2 : cnt s q a 2 = 0 := cnt_none fun x hx => (side x hx).1
        have c4 : cnt s q a 4 = 0 := cnt_none fun x hx => (side x hx).2
        unfold fewN
        omega
      have h3 : fewN s q (px s k, py s k) = 0 := by
        have e' : (px s k, py s k) = a := e
        rw [e']; exact h2
      omega
theorem cnt_split (s : List (Int × Int)) (q p : Int × Int) (c : Nat) : cnt s q p c = cnt (rimL s) q p c + cnt (rstL s) q p c := by
  unfold cnt rimL rstL
  generalize rimOn s = f
  induction s with
  | nil => rfl
  | cons x r ih =>
    cases h : f x <;> simp [h, List.countP_cons, ih] <;> omega
/-- Strictly inside: on both sides some of the rim. -/
theorem rim_sides {s : List (Int × Int)} {q p : Int × Int} (hG : goodL s = true) (hq : q ∈ s) (hn : rimOn s q = false) (hp : gp p) (hne : p ≠ q) : 1 ≤ cnt (rimL s) q p 1 ∧ 1 ≤ cnt (rimL s) q p 2 := by
  have hA := goodL_all hG
  have hr : Rise s := goodL_rises hG
  have H := hull_ring hr (List.ne_nil_of_mem hq)
  have hH : hullB slB s = hullB tP s := hull_slL hA
  have hAh : allG (hullB tP s) := fun p hp => hA p (hullB_mem hp)
  have hrim : ∀ x, x ∈ hullB tP s → x ∈ rimL s := fun x hx => by
    have := rim_hull hG
    rw [hulL_tP hG, hulL_tP (rimL_good hG)] at this
    rw [← this] at hx
    exact hullB_mem hx
  have hstrict : 3 ≤ (hullB tP s).length ∧ ∀ i, i < (hullB tP s).length → 0 < sd (pt (hullB tP s) i) (pt (hullB tP s) ((i + 1) % (hullB tP s).length)) q := by
    rcases H.inside hq with ⟨i, hi, ho⟩ | h
    · exfalso
      unfold rimOn at hn
      have := of_decide_eq_false hn
      rw [hH] at this
      refine this (whS_one.2 ?_)
      unfold onS rimS
      refine decide_eq_true ((fstT_lt _).2 ⟨i, hi, ?_⟩)
      unfold sideT
      exact (onB_iff (hAh _ (pt_mem hi)) (hAh _ (pt_mem (H.lt _))) (hA q hq)).2 ho
    · exact h
  have hd := vec_ne (a := q) (b := p) hne
  obtain ⟨a, ha, h1⟩ := H.right hstrict.1 hstrict.2 hd
  obtain ⟨b, hb, h2⟩ := H.leftish hstrict.1 hstrict.2 hd
  have c1 := cnt_some (hrim a ha) (cls_right (hA q hq) hp (hA a (H.sub a ha)) h1)
  have c2 := cnt_some (hrim b hb) (cls_left (hA q hq) hp (hA b (H.sub b hb)) h2)
  omega
theorem lay_sides {s : List (Int × Int)} {q p : Int × Int} (hG : goodL s = true) (hp : gp p) (hne : p ≠ q) : ∀ k, q ∈ rstK k s → k + cnt (rstK k s) q p 1 ≤ cnt s q p 1 ∧ k + cnt (rstK k s) q p 2 ≤ cnt s q p 2
  | 0, _ => by show 0 + cnt s q p 1 ≤ _ ∧ 0 + cnt s q p 2 ≤ _; omega
  | k + 1, h => by
    have h' : q ∈ rstL (rstK k s) := h
    obtain ⟨hm, hn⟩ := List.mem_filter.1 h'
    have ih := lay_sides hG hp hne k hm
    have hr := rim_sides (rstK_good hG k) hm (by simpa using hn) hp hne
    have e1 := cnt_split (rstK k s) q p 1
    have e2 := cnt_split (rstK k s) q p 2
    show k + 1 + cnt (rstL (rstK k s)) q p 1 ≤ _ ∧ k + 1 + cnt (rstL (rstK k s)) q p 2 ≤ _
    omega
/-- A point's depth is above its layer. -/
theorem dp_layer {s : List (Int × Int)} {q : Int × Int} (hG : goodL s = true) (hq : q ∈ s) : lyOk s q = true ∧ dpOk s q.1 q.2 = true ∧ lyV s q + 1 ≤ dpV s q.1 q.2 := by
  have hA := goodL_all hG
  have hO : lyOk s q = true := by unfold lyOk; rw [hG, decide_eq_true hq]; rfl
  have hD : dpOk s q.1 q.2 = true := by unfold dpOk; rw [hG, Bool.true_and]; exact hA q hq
  refine ⟨hO, hD, ?_⟩
  have e : lysL s = layL s := by unfold lysL; rw [if_pos hG]
  obtain ⟨x, hx, hqx⟩ := (layL_mem s.length s (Nat.le_refl _) hG q).2 hq
  obtain ⟨k, hk, rfl⟩ := List.getElem_of_mem hx
  have hn : q ∈ nth (layL s) k := by unfold nth; rw [List.getD_eq_getElem?_getD, List.getElem?_eq_getElem hk]; exact hqx
  obtain ⟨_, hV⟩ := lay_no hG hk hn
  rw [hV]
  obtain ⟨e1, _⟩ := layL_at hG hk
  rw [e1] at hn
  have hm : q ∈ rstK k s := (List.mem_filter.1 hn).1
  unfold dpV
  rw [if_pos hD]
  have hlen := layL_len s
  refine dpN_ge (l := s) (by omega) s.length (Nat.le_refl _) fun p hp hne => ?_
  have hs := lay_sides (q := q) hG (hA p hp) hne k hm
  have h0 := cnt_some (q := q) (p := p) (c := 0) hq (by unfold clsN; rw [if_pos rfl])
  unfold fewN
  show k + 1 ≤ cnt s q p 0 + min (cnt s q p 1) (cnt s q p 2) + min (cnt s q p 3) (cnt s q p 4)
  omega
theorem dp_wh {s : List (Int × Int)} {x y : Int} (hl : s.length ≤ 30) (h : dpOk s x y = true) : whOk (hulL s) x y = true ∧ dpV s x y ≤ s.length ∧ (dpV s x y = 0 ↔ whV (hulL s) x y = 0) := by
  have h' := h
  unfold dpOk at h'
  rw [Bool.and_eq_true] at h'
  obtain ⟨hG, hg⟩ := h'
  have hO : whOk (hulL s) x y = true := by unfold whOk; rw [hul_gh hG hl, hg]; rfl
  refine ⟨hO, ?_, ?_⟩
  · unfold dpV; rw [if_pos h]; exact dpN_le _ _ _
  · unfold dpV whV
    rw [if_pos h, if_pos hO]
    exact dp_out hG hg
end Go.Proofs.YtoefllklngnmeaaDoor
namespace Go.Proofs.YtoefllklngnmeaaDoor
open Go.RowKit
set_option linter.unusedVariables false
set_option maxRecDepth 8000
theorem dpV_len (s : List (Int × Int)) (x y : Int) : dpV s x y ≤ s.length := by
  unfold dpV
  split
  · exact dpN_le _ _ _
  · exact Nat.zero_le _
theorem big_c (a0 : Option Addr) (len0 cap0 : Nat) (a1 : Option Addr) (len1 cap1 : Nat) (w : World) (h : len0 + len1 ≤ 1048576) :
    Calls Tryd.prog 31 #[.slice a0 len0 cap0, .slice a1 len1 cap1] w fun e w' => e = .returned (.bool false) ∧ w = w' := by
  have h0 : ¬ (1048576 : Int) < (len0 : Int) := by omega
  have h1 : ¬ (1048576 : Int) - (len0 : Int) < (len1 : Int) := by omega
  go_enter Tryd.func31, Tryd.ntmps31
  go_wp2
  go_ret
  exact ⟨rfl, rfl⟩
theorem big_t (a0 : Option Addr) (len0 cap0 : Nat) (a1 : Option Addr) (len1 cap1 : Nat) (w : World) (m0 : len0 ≤ maxLen) (m1 : len1 ≤ maxLen) (h : ¬ len0 + len1 ≤ 1048576) :
    Calls Tryd.prog 31 #[.slice a0 len0 cap0, .slice a1 len1 cap1] w fun e w' => e = .returned (.bool true) ∧ w = w' := by
  unfold maxLen at m0 m1
  by_cases h0 : (1048576 : Int) < (len0 : Int)
  · go_enter Tryd.func31, Tryd.ntmps31
    go_wp2
    go_ret
    exact ⟨rfl, rfl⟩
  · have h1 : (1048576 : Int) - (len0 : Int) < (len1 : Int) := by omega
    go_enter Tryd.func31, Tryd.ntmps31
    go_wp2
    go_ret
    exact ⟨rfl, rfl⟩
set_option maxRecDepth 8000 in
set_option maxHeartbeats 16000000 in
theorem depths_walk (a0 : Option Addr) (len0 cap0 : Nat) (a1 : Option Addr) (len1 cap1 : Nat) (w : World) (B0 : Bytes w.heap.size a0 len0 w) (B1 : Bytes w.heap.size a1 len1 w) (m0 : len0 ≤ maxLen) (m1 : len1 ≤ maxLen) (c0 : w.cell? ⟨0, 0, none⟩ = some (.int .i64 1000000)) :
    Calls Tryd.prog 9 #[.slice a0 len0 cap0, .slice a1 len1 cap1] w fun e w' => e = .returned (.bool true) ∧ Below w.heap.size w w' := by
  have C0 := hid c0
  have HB0 := hid B0
  have HB1 := hid B1
  clear c0 B0 B1
  by_cases hl : len0 + len1 ≤ 1048576
  · have l0 : len0 ≤ 1048576 := by omega
    have l1 : len1 ≤ 1048576 := by omega
    clear m0 m1
    go_enter Tryd.func9, Tryd.ntmps9
    go_upto_region 4 with (first
      | (go_at_call 31; refine (big_c _ _ _ _ _ _ _ hl).mono ?_; rintro e w' ⟨rfl, rfl⟩)
      | (go_at_call 32; refine (drawDepth_c _ _ _ _ HB0.out l0).mono ?_; rintro e w1 ⟨v1, x, y, rfl, s, hos, hs13, hb1⟩; obtain ⟨av, ps, hvs⟩ := hos.shape; subst hvs))
    have hbx1 : Below w1.heap.size w1 (w1.alloc (.cells #[.int .i64 x, .int .i64 y] 30)) := by go_grown
    have n10 := box0 w1 x y 30
    have n11 := box1 w1 x y 30
    have hox1 := hos.later hbx1
    have hcx1 := grew hb1 hbx1
    obtain ⟨gA, hg1⟩ : ∃ g, g = w1.heap.size := ⟨_, rfl⟩
    rw [← hg1] at n10 n11
    rw [← hg1]
    generalize w1.alloc (.cells #[.int .i64 x, .int .i64 y] 30) = wA at n10 n11 hox1 hcx1 ⊢
    clear hbx1 hg1
    clear hos hb1
    have hsm : s.length ≤ 1048576 := by omega
    have hdle := dpV_len s x y
    obtain ⟨d, hd⟩ : ∃ d, dpV s x y = d := ⟨_, rfl⟩
    rw [hd] at hdle
    cases hD : dpOk s x y
    · go_upto_region 21 with (first
        | (go_at_call 14; refine (depthImpl_c s x y _ _ _ wA rfl hsm hox1.at (cell_later hcx1 C0.out)).mono ?_; rw [hD, hd]; rintro e w2 ⟨rfl, hb2⟩; have hB2 := grew (Below.refl wA.heap.size wA) hb2; have n20 := cell_later hB2 n10; have n21 := cell_later hB2 n11)
        | (go_at_call 11; refine (depthSpec_c s x y _ _ _ w2 rfl hsm (hox1.later hB2).at).mono ?_; rw [hD, hd]; rintro e w3 ⟨rfl, hb3⟩; have hB3 := grew hB2 hb3; have n30 := cell_later hB3 n10; have n31 := cell_later hB3 n11; have hc3 := grew hcx1 hB3))
      go_upto_region 22 with (go_at_call 32; refine (drawDepth_c _ _ _ w3 ((HB1.out.below hc3).mono hc3.size) l1).mono ?_; rintro e wj ⟨vj, x2, y2, rfl, lj, hoj, hlj, hbj⟩; obtain ⟨aj, pj, hvj⟩ := hoj.shape; subst hvj; have hcj := grew hc3 hbj)
      have hbx8 : Below wj.heap.size wj (wj.alloc (.cells #[.int .i64 x2, .int .i64 y2] 30)) := by go_grown
      have n80 := box0 wj x2 y2 30
      have n81 := box1 wj x2 y2 30
      have hox8 := hoj.later hbx8
      have hcx8 := grew hcj hbx8
      obtain ⟨gJ, hg8⟩ : ∃ g, g = wj.heap.size := ⟨_, rfl⟩
      rw [← hg8] at n80 n81
      rw [← hg8]
      generalize wj.alloc (.cells #[.int .i64 x2, .int .i64 y2] 30) = wJ at n80 n81 hox8 hcx8 ⊢
      clear hbx8 hg8
      have hjm : lj.length ≤ 1048576 := by omega
      cases hDj : dpOk lj x2 y2
      · go_wp2_with (first
          | (go_at_call 14; refine (depthImpl_c lj x2 y2 _ _ _ wJ rfl hjm hox8.at (cell_later hcx8 C0.out)).mono ?_; rw [hDj]; rintro e w30 ⟨rfl, hb30⟩; have hB30 := grew (Below.refl wJ.heap.size wJ) hb30; have n300 := cell_later hB30 n80; have n301 := cell_later hB30 n81)
          | (go_at_call 11; refine (depthSpec_c lj x2 y2 _ _ _ w30 rfl hjm (hox8.later hB30).at).mono ?_; rw [hDj]; rintro e w31 ⟨rfl, hb31⟩; have hB31 := grew hB30 hb31; have n310 := cell_later hB31 n80; have n311 := cell_later hB31 n81; have hc31 := grew hcx8 hB31))
        all_goals go_ret
        all_goals exact ⟨rfl, hc31⟩
      · go_wp2_with (first
          | (go_at_call 14; refine (depthImpl_c lj x2 y2 _ _ _ wJ rfl hjm hox8.at (cell_later hcx8 C0.out)).mono ?_; rw [hDj]; rintro e w30 ⟨rfl, hb30⟩; have hB30 := grew (Below.refl wJ.heap.size wJ) hb30; have n300 := cell_later hB30 n80; have n301 := cell_later hB30 n81)
          | (go_at_call 11; refine (depthSpec_c lj x2 y2 _ _ _ w30 rfl hjm (hox8.later hB30).at).mono ?_; rw [hDj]; rintro e w31 ⟨rfl, hb31⟩; have hB31 := grew hB30 hb31; have n310 := cell_later hB31 n80; have n311 := cell_later hB31 n81; have hc31 := grew hcx8 hB31))
        all_goals go_ret
        all_goals exact ⟨rfl, hc31⟩
    · have hG : goodL s = true := by unfold dpOk at hD; rw [Bool.and_eq_true] at hD; exact hD.1
      obtain ⟨hO, _, hz⟩ := dp_wh (by omega) hD
      obtain ⟨v, hv⟩ : ∃ v, whV (hulL s) x y = v := ⟨_, rfl⟩
      rw [hd, hv] at hz
      have HNO : Hid (∀ j, j < s.length → lyOk s (px s j, py s j) = true ∧ dpOk s (px s j) (py s j) = true ∧ lyV s (px s j, py s j) + 1 ≤ dpV s (px s j) (py s j)) := hid (fun j hj => dp_layer hG (q := (px s j, py s j)) (pt_mem hj))
      have hd0 : decide ((d : Int) < 0) = false := decide_eq_false (by omega)
      have hdl : decide ((s.length : Int) < (d : Int)) = false := decide_eq_false (by omega)
      have hdn : decide (s.length < d) = false := decide_eq_false (by omega)
      have hEq : ((d : Int) == 0) = (v == 0) := by
        by_cases k : d = 0
        · rw [hz.1 k, k]; rfl
        · have k2 : v ≠ 0 := fun e => k (hz.2 e)
          have e1 : ((d : Int) == 0) = false := by simpa using k
          have e2 : (v == 0) = false := by simpa using k2
          rw [e1, e2]
      clear hz
      obtain ⟨t9, ht9⟩ : ∃ t, (v == 0) = t := ⟨_, rfl⟩
      rw [ht9] at hEq
      go_upto_region 13 with (first
        | (go_at_call 14; refine (depthImpl_c s x y _ _ _ wA rfl hsm hox1.at (cell_later hcx1 C0.out)).mono ?_; rw [hD, hd]; rintro e w2 ⟨rfl, hb2⟩; have hB2 := grew (Below.refl wA.heap.size wA) hb2; have n20 := cell_later hB2 n10; have n21 := cell_later hB2 n11)
        | (go_at_call 11; refine (depthSpec_c s x y _ _ _ w2 rfl hsm (hox1.later hB2).at).mono ?_; rw [hD, hd]; rintro e w3 ⟨rfl, hb3⟩; have hB3 := grew hB2 hb3; have n30 := cell_later hB3 n10; have n31 := cell_later hB3 n11; have hc3 := grew hcx1 hB3)
        | (go_at_call 33; refine (hullImpl_c s _ _ _ w3 rfl hsm (hox1.later hB3).at (cell_later hc3 C0.out)).mono ?_; rw [hG]; rintro e w4 ⟨v4, rfl, ho4, hb4⟩; obtain ⟨a4, p4, hv4⟩ := ho4.shape; subst hv4; have hB4 := grew hB3 hb4; have hc4 := grew hcx1 hB4; have n40 := cell_later hB4 n10; have n41 := cell_later hB4 n11)
        | (go_at_call 34; refine (whereIsImpl_c (hulL s) x y _ _ _ w4 rfl (hulL_len _ hsm) ho4.at (cell_later hc4 C0.out)).mono ?_; rw [hO, hv]; rintro e w5 ⟨rfl, hb5⟩; have hB5 := grew hB4 hb5; have hc5 := grew hcx1 hB5))
      have HSA := hid (hox1.later hB5).at
      have HC5 := hid hc5
      clear hox1 hcx1 ho4 hb2 hb3 hb4 hb5 hB2 hB3 hB4 hB5 hc3 hc4 hc5 n10 n11 n20 n21 n30 n31 n40 n41 hEq ht9 hd0 hdl hdn
      go_wp2
      go_loopw [92] (fun sj wr => ∃ j : Nat, j ≤ s.length ∧ sj = .int .i64 j ∧ Below w5.heap.size w5 wr) (fun sj _ => s.length - (intOf sj).toNat)
      case atStart => exact ⟨0, Nat.zero_le _, rfl, Below.refl _ _⟩
      case round =>
        obtain ⟨j, hj, rfl, hbj⟩ := hrel
        by_cases hjl : j < s.length
        · obtain ⟨bx, ox, ex, hbx, g0, g1⟩ := ((HSA.out.later hbj).mono hbj.size) j hjl
          subst ex
          have hno := HNO.out j hjl
          obtain ⟨ux, hx⟩ : ∃ u, px s j = u := ⟨_, rfl⟩
          obtain ⟨uy, hy⟩ : ∃ u, py s j = u := ⟨_, rfl⟩
          rw [hx, hy] at hno
          rw [hx] at g0
          rw [hy] at g1
          have HN1 := hid hno.1
          have HN2 := hid hno.2.1
          have h12 := hno.2.2
          have hd9 := dpV_len s ux uy
          obtain ⟨k, hk⟩ : ∃ k, lyV s (ux, uy) = k := ⟨_, rfl⟩
          obtain ⟨d2, hd2⟩ : ∃ d2, dpV s ux uy = d2 := ⟨_, rfl⟩
          have HK := hid hk
          have HD2 := hid hd2
          rw [hk, hd2] at h12
          rw [hd2] at hd9
          have hwk : IntKind.i64.wrap ((k : Int) + 1) = (k : Int) + 1 := by rw [IntKind.wrap_i64]; omega
          have hlt : decide ((d2 : Int) < (k : Int) + 1) = false := decide_eq_false (by omega)
          have hbX : Below wr.heap.size wr (wr.alloc (.cells #[.int .i64 ux, .int .i64 uy] 30)) := by go_grown
          have HBX := hid (grew hbj hbX)
          have HCX := hid (grew HC5.out HBX.out)
          have i0 : (0 : Int) ≤ (j : Int) := by omega
          have i1 : (j : Int) < (s.length : Int) := by omega
          have z0 := box0 wr ux uy 30
          have z1 := box1 wr ux uy 30
          clear hx hy hno hbX hbj hk hd2 hd9
          go_wp2_with (first
            | (go_at_call 23; refine (layerImpl_c s ux uy _ _ _ _ rfl hsm ((HSA.out.later HBX.out).mono HBX.out.size) (cell_later HCX.out C0.out)).mono ?_; rw [HN1.out, HK.out]; rintro e w9 ⟨rfl, hb9⟩; have z90 := cell_later hb9 z0; have z91 := cell_later hb9 z1; have HB9 := hid (grew HBX.out hb9); have HC9 := hid (grew HC5.out HB9.out))
            | (go_at_call 14; refine (depthImpl_c s ux uy _ _ _ _ rfl hsm ((HSA.out.later HB9.out).mono HB9.out.size) (cell_later HC9.out C0.out)).mono ?_; rw [HN2.out, HD2.out]; rintro e w10 ⟨rfl, hb10⟩))
          go_roundw
          case rel => exact ⟨j + 1, by omega, by go_num, grew HB9.out hb10⟩
          case measure => simp [intOf]; omega
        · obtain rfl : j = s.length := by omega
          have hcr := grew HC5.out hbj
          clear hbj
          go_upto_region 22 with (go_at_call 32; refine (drawDepth_c _ _ _ wr ((HB1.out.below hcr).mono hcr.size) l1).mono ?_; rintro e wj ⟨vj, x2, y2, rfl, lj, hoj, hlj, hbj⟩; obtain ⟨aj, pj, hvj⟩ := hoj.shape; subst hvj; have hcj := grew hcr hbj)
          have hbx8 : Below wj.heap.size wj (wj.alloc (.cells #[.int .i64 x2, .int .i64 y2] 30)) := by go_grown
          have n80 := box0 wj x2 y2 30
          have n81 := box1 wj x2 y2 30
          have hox8 := hoj.later hbx8
          have hcx8 := grew hcj hbx8
          obtain ⟨gJ, hg8⟩ : ∃ g, g = wj.heap.size := ⟨_, rfl⟩
          rw [← hg8] at n80 n81
          rw [← hg8]
          generalize wj.alloc (.cells #[.int .i64 x2, .int .i64 y2] 30) = wJ at n80 n81 hox8 hcx8 ⊢
          clear hbx8 hg8
          have hjm : lj.length ≤ 1048576 := by omega
          cases hDj : dpOk lj x2 y2
          · go_wp2_with (first
              | (go_at_call 14; refine (depthImpl_c lj x2 y2 _ _ _ wJ rfl hjm hox8.at (cell_later hcx8 C0.out)).mono ?_; rw [hDj]; rintro e w30 ⟨rfl, hb30⟩; have hB30 := grew (Below.refl wJ.heap.size wJ) hb30; have n300 := cell_later hB30 n80; have n301 := cell_later hB30 n81)
              | (go_at_call 11; refine (depthSpec_c lj x2 y2 _ _ _ w30 rfl hjm (hox8.later hB30).at).mono ?_; rw [hDj]; rintro e w31 ⟨rfl, hb31⟩; have hB31 := grew hB30 hb31; have n310 := cell_later hB31 n80; have n311 := cell_later hB31 n81; have hc31 := grew hcx8 hB31))
            all_goals go_ret
            all_goals exact ⟨rfl, hc31⟩
          · go_wp2_with (first
              | (go_at_call 14; refine (depthImpl_c lj x2 y2 _ _ _ wJ rfl hjm hox8.at (cell_later hcx8 C0.out)).mono ?_; rw [hDj]; rintro e w30 ⟨rfl, hb30⟩; have hB30 := grew (Below.refl wJ.heap.size wJ) hb30; have n300 := cell_later hB30 n80; have n301 := cell_later hB30 n81)
              | (go_at_call 11; refine (depthSpec_c lj x2 y2 _ _ _ w30 rfl hjm (hox8.later hB30).at).mono ?_; rw [hDj]; rintro e w31 ⟨rfl, hb31⟩; have hB31 := grew hB30 hb31; have n310 := cell_later hB31 n80; have n311 := cell_later hB31 n81; have hc31 := grew hcx8 hB31))
            all_goals go_ret
            all_goals exact ⟨rfl, hc31⟩
  · go_enter Tryd.func9, Tryd.ntmps9
    go_wp2_with (go_at_call 31; refine (big_t _ _ _ _ _ _ _ m0 m1 (by omega)).mono ?_; rintro e w' ⟨rfl, rfl⟩)
    go_ret
    exact ⟨rfl, by go_grown⟩
end Go.Proofs.YtoefllklngnmeaaDoor
