/-
  A point laid into a list, in the program (a contract for the walks).
  Conditions: as each theorem states them.
-/
import Derived.Test.YtegmlemejmahiaaDoorSet8
import Derived.Deep.DeepCutAuto
namespace Go.Proofs.YtegmlemejmahiaaDoor
open Go.RowKit
set_option linter.unusedVariables false
/-- A slice as Go has it: nil, or at an address, no longer than its room. -/
def Fit (a : Option Addr) (len cap : Nat) : Prop := (a = none ∧ cap = 0 ∧ len = 0) ∨ ((∃ b off, a = some ⟨b, off, none⟩) ∧ len ≤ cap ∧ cap ≤ maxLen)
theorem cells_src {N b off : Nat} {l : List (Int × Int)} {w : World} (hA : At N (some ⟨b, off, none⟩) l w) {i : Nat} {ao : Option Addr} (hao : i < l.length → ao = some ⟨b, off + i * 2, none⟩) :
    ∀ ad, ao = some ad → ∀ j u, (cells (l.drop i))[j]? = some u → w.cell? (ad.add j) = some u := by
  intro ad had j u hu
  have hj : j < (l.drop i).length * 2 := by
    have := (List.getElem?_eq_some_iff.1 hu).1
    rwa [cells_len] at this
  have hil : i < l.length := by rw [List.length_drop] at hj; omega
  rw [hao hil] at had
  obtain rfl := Option.some.inj had
  rw [cells_get _ _ hj] at hu
  obtain rfl := Option.some.inj hu
  rw [List.length_drop] at hj
  obtain ⟨b', off', e, _, h0, h1⟩ := hA (i + j / 2) (by omega)
  obtain ⟨rfl, rfl⟩ : b = b' ∧ off = off' := by simp at e; exact e
  rw [Go.WideShapes.add_plain]
  unfold cel
  by_cases h2 : j % 2 = 0
  · rw [if_pos h2, show off + i * 2 + j = off + (i + j / 2) * 2 by omega, h0]
    simp [px]
  · rw [if_neg h2, show off + i * 2 + j = off + (i + j / 2) * 2 + 1 by omega, h1]
    simp [py]
theorem cells_pre {N b off : Nat} {l : List (Int × Int)} {w : World} (hA : At N (some ⟨b, off, none⟩) l w) {k : Nat} {ao : Option Addr} (hao : 0 < l.length → ao = some ⟨b, off, none⟩) :
    ∀ ad, ao = some ad → ∀ j u, (cells (l.take k))[j]? = some u → w.cell? (ad.add j) = some u := by
  intro ad had j u hu
  have hj : j < (l.take k).length * 2 := by
    have := (List.getElem?_eq_some_iff.1 hu).1
    rwa [cells_len] at this
  have hj2 : j / 2 < k ∧ j / 2 < l.length := by rw [List.length_take] at hj; omega
  rw [hao (by omega)] at had
  obtain rfl := Option.some.inj had
  rw [cells_get _ _ hj] at hu
  obtain rfl := Option.some.inj hu
  obtain ⟨b', off', e, _, h0, h1⟩ := hA (j / 2) hj2.2
  obtain ⟨rfl, rfl⟩ : b = b' ∧ off = off' := by simp at e; exact e
  rw [Go.WideShapes.add_plain]
  unfold cel
  by_cases h2 : j % 2 = 0
  · rw [if_pos h2, show off + j = off + (j / 2) * 2 by omega, h0]
    simp [px, hj2.1]
  · rw [if_neg h2, show off + j = off + (j / 2) * 2 + 1 by omega, h1]
    simp [py, hj2.1]
theorem one_src (w : World) (x y : Int) : ∀ ad, some (⟨w.heap.size, 0, none⟩ : Addr) = some ad → ∀ j u, (cells [(x, y)])[j]? = some u → (w.alloc (.cells #[.int .i64 x, .int .i64 y] 26)).cell? (ad.add j) = some u := by
  intro ad h j u hu
  obtain rfl := Option.some.inj h
  rw [Go.WideShapes.add_plain, Nat.zero_add]
  match j, hu with
  | 0, hu => simp [cells] at hu; subst hu; exact box0 w x y _
  | 1, hu => simp [cells] at hu; subst hu; exact box1 w x y _
theorem put_cells (l : List (Int × Int)) (k : Nat) (x y : Int) : cells (l.take k) ++ cells [(x, y)] ++ cells (l.drop k) = cells (l.take k ++ (x, y) :: l.drop k) := by
  rw [← cells_append, ← cells_append, List.append_assoc]; rfl
theorem At.laterB {N B : Nat} {a : Option Addr} {l : List (Int × Int)} {w w' : World} (h : At N a l w) (hb : Below B w w') (hN : N ≤ B) : At N a l w' := fun i hi => by
  obtain ⟨b, off, e, hb', h0, h1⟩ := h i hi
  exact ⟨b, off, e, hb', (hb.cell (show b < B by omega)).trans h0, (hb.cell (show b < B by omega)).trans h1⟩
theorem growNone {w w' : World} (h : w.grownBy w' none) : Below w.heap.size w w' := (Below.refl _ _).grown h (Nat.le_refl _) (fun k hk => by cases hk)
theorem grownB {B : Nat} {w w' : World} {g : Nat} (h : w.grownBy w' (some g)) (hB : B ≤ w.heap.size) (hg : B ≤ g) : Below B w w' := (Below.refl _ _).grown h hB (fun k hk => by cases hk; exact hg)
set_option maxHeartbeats 2000000 in
set_option maxRecDepth 4000 in
theorem with_c (l : List (Int × Int)) (k : Nat) (x y : Int) (a : Option Addr) (len cap : Nat) (w : World) (hl : l.length = len) (h1 : len ≤ 1048576) (hk : k ≤ len) (hF : Fit a len cap) (hA : At w.heap.size a l w) :
    Calls Tryd.prog 88 #[.slice a len cap, .int .i64 k, .agg #[.int .i64 x, .int .i64 y]] w fun e w' => ∃ v, e = .returned v ∧ Own w.heap.size v (l.take k ++ (x, y) :: l.drop k) w' ∧ Below w.heap.size w w' := by
  subst hl
  have HA := hid hA
  clear hA
  have B0 := box0 w x y 26
  have B1 := box1 w x y 26
  have hgB : Below w.heap.size w (w.alloc (.cells #[.int .i64 x, .int .i64 y] 26)) := by go_grown
  obtain ⟨i0, hi, hz0, hz1, hz2⟩ := info_parts info_pt
  rcases hF with ⟨rfl, rfl, hl0⟩ | ⟨⟨b, off, rfl⟩, hlc, hcm⟩
  · obtain rfl := List.eq_nil_of_length_eq_zero hl0
    obtain rfl : k = 0 := by simpa using hk
    simp only [List.length_nil]
    go_enter Tryd.func88, Tryd.ntmps88
    go_upto_region 1 with fail
    generalize w.alloc (.cells #[.int .i64 x, .int .i64 y] 26) = wB at B0 B1 hgB ⊢
    have hwB : w.heap.size < wB.heap.size := World.block_lt_of_cell? wB _ B0
    go_wp2_with (first
      | (at_make; refine wpList_make_own _ rfl _ _ 69 rfl wB.heap.size 26 i0 _ 2 Tryd.underlying69 hi hz0 hz1 .i64 .i64 _ (0 + 1) rfl rfl (by omega) (by rw [hz2]; omega) (by unfold maxLen; omega) (Nat.le_refl _) ?_; intro w0 hown0 hgrow0; have hb0 := growNone hgrow0; have s0 := cell_later hb0 B0; have s1 := cell_later hb0 B1; have hsz0 := hb0.size; clear hgrow0)
      | (at_builtin; refine wpList_append_fits_any _ rfl (.tmp 12) (.tmp 15) 69 rfl wB.heap.size 26 i0 2 Tryd.underlying69 hi hz1 wB.heap.size 0 (0 + 1) [] rfl hown0 _ 0 _ [] rfl rfl (by intro h; exact ⟨rfl, rfl⟩) (by intro ad h; cases h) (by intro u h; cases h) (by omega) ?_; intro w1 hown1 hgrow1; simp only [Nat.zero_add, Nat.add_zero, List.append_nil] at hown1; have hb1 : Below wB.heap.size w0 w1 := grownB hgrow1 hsz0 (Nat.le_refl _); have q0 := (hb1.cell hwB).trans s0; have q1 := (hb1.cell hwB).trans s1; have hbw1 := hb0.trans hb1; have hsz1 := hbw1.size; have hblt : w.heap.size < w1.heap.size := by omega)
      | (at_builtin; refine wpList_append_fits_any _ rfl (.tmp 17) (.tmp 19) 69 rfl wB.heap.size 26 i0 2 Tryd.underlying69 hi hz1 wB.heap.size 0 (0 + 1) _ rfl (hown1.alloc _) _ 1 _ (cells [(x, y)]) rfl rfl (by intro h; cases h) (one_src w1 x y) (cells_ones _) (by omega) ?_; intro w2 hown2 hgrow2; have hb2 : Below wB.heap.size w1 w2 := ((Below.refl wB.heap.size w1).alloc hsz1 _).trans (grownB hgrow2 (by simp; omega) (Nat.le_refl _)); have hbw2 := hbw1.trans hb2; skip)
      | (at_builtin; refine wpList_append_fits_any _ rfl (.tmp 21) (.tmp 24) 69 rfl wB.heap.size 26 i0 2 Tryd.underlying69 hi hz1 wB.heap.size (0 + 1) (0 + 1) _ rfl hown2 _ 0 _ (cells []) rfl rfl (by intro h; exact ⟨rfl, rfl⟩) (by intro ad h; cases h) (cells_ones _) (by omega) ?_; intro w3 hown3 hgrow3; have hb3 : Below wB.heap.size w2 w3 := grownB hgrow3 hbw2.size (Nat.le_refl _); have hbw3 := hbw2.trans hb3))
    go_ret
    exact ⟨_, rfl, (own_of (l := [(x, y)]) (by simpa [cells] using hown3)).mono (Nat.le_of_lt hwB), grew hgB hbw3⟩
  · have hk1 : (0 : Int) ≤ (k : Int) := by omega
    have hk2 : (k : Int) ≤ (l.length : Int) := by omega
    have hk3 : (k : Int) ≤ (cap : Int) := by omega
    have hl1 : (l.length : Int) ≤ (cap : Int) := by omega
    go_enter Tryd.func88, Tryd.ntmps88
    go_upto_region 1 with fail
    generalize w.alloc (.cells #[.int .i64 x, .int .i64 y] 26) = wB at B0 B1 hgB ⊢
    have hwB : w.heap.size < wB.heap.size := World.block_lt_of_cell? wB _ B0
    go_wp2_with (first
      | (at_make; refine wpList_make_own _ rfl _ _ 69 rfl wB.heap.size 26 i0 _ 2 Tryd.underlying69 hi hz0 hz1 .i64 .i64 _ (l.length + 1) rfl rfl (by omega) (by rw [hz2]; omega) (by unfold maxLen; omega) (Nat.le_refl _) ?_; intro w0 hown0 hgrow0; have hb0 := growNone hgrow0; have HA0 := hid (HA.out.later (grew hgB hb0)); have s0 := cell_later hb0 B0; have s1 := cell_later hb0 B1; have hsz0 := hb0.size; clear hgrow0)
      | (at_builtin; refine wpList_append_fits_any _ rfl (.tmp 12) (.tmp 15) 69 rfl wB.heap.size 26 i0 2 Tryd.underlying69 hi hz1 wB.heap.size 0 (l.length + 1) [] rfl hown0 _ k _ (cells (l.take k)) rfl (by rw [cells_len, List.length_take, Nat.min_eq_left (by omega)]) (by intro h; first | cases h | (split at h <;> cases h)) (cells_pre HA0.out (by intro h; first | rfl | simp [h])) (cells_ones _) (by omega) ?_; intro w1 hown1 hgrow1; simp only [Nat.zero_add, List.nil_append] at hown1; have hb1 : Below wB.heap.size w0 w1 := grownB hgrow1 hsz0 (Nat.le_refl _); have HA1 := hid ((At.laterB HA0.out hb1 (Nat.le_of_lt hwB))); have q0 := (hb1.cell hwB).trans s0; have q1 := (hb1.cell hwB).trans s1; have hbw1 := hb0.trans hb1; have hsz1 := hbw1.size; have hblt : w.heap.size < w1.heap.size := by omega)
      | (at_builtin; refine wpList_append_fits_any _ rfl (.tmp 17) (.tmp 19) 69 rfl wB.heap.size 26 i0 2 Tryd.underlying69 hi hz1 wB.heap.size k (l.length + 1) _ rfl (hown1.alloc _) _ 1 _ (cells [(x, y)]) rfl rfl (by intro h; cases h) (one_src w1 x y) (cells_ones _) (by omega) ?_; intro w2 hown2 hgrow2; have hb2 : Below wB.heap.size w1 w2 := ((Below.refl wB.heap.size w1).alloc hsz1 _).trans (grownB hgrow2 (by simp; omega) (Nat.le_refl _)); have hbw2 := hbw1.trans hb2; have HA2 := hid (At.laterB HA1.out hb2 (Nat.le_of_lt hwB)))
      | (at_builtin; refine wpList_append_fits_any _ rfl (.tmp 21) (.tmp 24) 69 rfl wB.heap.size 26 i0 2 Tryd.underlying69 hi hz1 wB.heap.size (k + 1) (l.length + 1) _ rfl hown2 _ (l.length - k) _ (cells (l.drop k)) rfl (by rw [cells_len, List.length_drop]) (by intro h; first | cases h | (split at h <;> cases h)) (cells_src HA2.out (by intro h; first | rfl | (exfalso; omega) | (have hne : ¬ cap = k := (by omega); simp [hne]))) (cells_ones _) (by omega) ?_; intro w3 hown3 hgrow3; have hb3 : Below wB.heap.size w2 w3 := grownB hgrow3 hbw2.size (Nat.le_refl _); have hbw3 := hbw2.trans hb3))
    all_goals go_ret
    all_goals rw [put_cells] at hown3
    all_goals exact ⟨_, rfl, (own_of hown3).mono (Nat.le_of_lt hwB), grew hgB hbw3⟩
end Go.Proofs.YtegmlemejmahiaaDoor
