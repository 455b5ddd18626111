/-
  The draws of sets of points (contracts for the walks).
  Conditions: as each theorem states them.
-/
import Derived.Test.YtipiamhnngmjmaaDoorLists
namespace Go.Proofs.YtipiamhnngmjmaaDoor
open Go.RowKit
set_option linter.unusedVariables false
set_option maxRecDepth 8000
theorem Own.set {N g n cap : Nat} {l : List (Int × Int)} {w : World} (h : Own N (.slice (some ⟨g, 0, none⟩) n cap) l w) (j : Nat) (x : Int) : ∃ l' : List (Int × Int), l'.length = l.length ∧ Own N (.slice (some ⟨g, 0, none⟩) n cap) l' (w.setCell ⟨g, j, none⟩ (.int .i64 x)) := by
  rcases h with ⟨_, e⟩ | ⟨g', c', f, e, h1, h2, h3, h4, h5⟩
  · simp at e
  · simp at e
    obtain ⟨rfl, rfl, rfl⟩ := e
    refine ⟨(List.range l.length).map fun i => (if i * 2 = j then x else px l i, if i * 2 + 1 = j then x else py l i), by simp, .inr ⟨g, cap, _, by simp, h1, by simpa using h2, h3, h4.set j _, fun i hi => ?_⟩⟩
    simp only [List.length_map, List.length_range] at hi
    have h5' := h5 i hi
    unfold cel at h5' ⊢
    by_cases hi2 : i % 2 = 0
    · rw [if_pos hi2] at h5' ⊢
      have hlt : i / 2 < l.length := by omega
      have hx : px ((List.range l.length).map fun i => (if i * 2 = j then x else px l i, if i * 2 + 1 = j then x else py l i)) (i / 2) = if i / 2 * 2 = j then x else px l (i / 2) := by simp [px, hlt]
      rw [hx, show i / 2 * 2 = i by omega]
      by_cases hij : i = j
      · rw [if_pos hij, if_pos hij]
      · rw [if_neg hij, if_neg hij]; exact h5'
    · rw [if_neg hi2] at h5' ⊢
      have hlt : i / 2 < l.length := by omega
      have hx : py ((List.range l.length).map fun i => (if i * 2 = j then x else px l i, if i * 2 + 1 = j then x else py l i)) (i / 2) = if i / 2 * 2 + 1 = j then x else py l (i / 2) := by simp [py, hlt]
      rw [hx, show i / 2 * 2 + 1 = i by omega]
      by_cases hij : i = j
      · rw [if_pos hij, if_pos hij]
      · rw [if_neg hij, if_neg hij]; exact h5'
theorem Own.block {N n cap : Nat} {a : Option Addr} {l : List (Int × Int)} {w : World} (h : Own N (.slice a n cap) l w) (hn : 0 < n) : ∃ g, a = some ⟨g, 0, none⟩ ∧ N ≤ g ∧ g < w.heap.size ∧ ∀ j, w.frozen? ⟨g, j, none⟩ = false := by
  rcases h with ⟨_, e⟩ | ⟨g, c, f, e, h1, _, _, h4, _⟩
  · simp at e; omega
  · simp at e
    exact ⟨g, e.1, h1, h4.lt, fun j => h4.frozen j⟩
set_option maxHeartbeats 1000000 in
theorem set_r (N b m : Nat) (w : World) (h : Rd N b m w) (hm : m ≤ 700000) :
    Calls Tryd.prog 95 #[.pointer (some ⟨b, 0, none⟩)] w fun e w' => ∃ v, e = .returned v ∧ ∃ l, Own w.heap.size v l w' ∧ l.length ≤ 12 ∧ Rd N b (m + 200) w' ∧ Only b w w' := by
  have hb := h.lt
  have H := hid h
  clear h
  go_enter Tryd.func95, Tryd.ntmps95
  go_wp2_with (first
    | (go_at_call 112; refine (points_r N b m _ H.out (by omega)).mono ?_; rintro e w1 ⟨v1, rfl, o, ho1, hl1, _, hR1, hO1⟩; obtain ⟨a1, p1, hv1⟩ := ho1.shape; subst hv1; have hs1 := hO1.size; have hf1 := fromL_len o o.length (Nat.le_refl _))
    | (go_at_call 83; refine (l2From_c o _ _ _ w1 rfl (by omega) ho1.at).mono ?_; rintro e w2 ⟨v2, rfl, ho2, hb2⟩))
  go_ret
  rw [List.take_length] at hf1
  exact ⟨_, rfl, _, ho2.mono hs1, by omega, hR1.below (hb2.mono (by omega)), hO1.trans (Only.ofBelow hb2)⟩
set_option maxHeartbeats 2000000 in
theorem anySet_r (N b m : Nat) (w : World) (h : Rd N b m w) (hm : m ≤ 600000) :
    Calls Tryd.prog 70 #[.pointer (some ⟨b, 0, none⟩)] w fun e w' => ∃ v, e = .returned v ∧ ∃ l, Own w.heap.size v l w' ∧ l.length ≤ 13 ∧ Rd N b (m + 201) w' ∧ Only b w w' := by
  have hb := h.lt
  have H := hid h
  clear h
  obtain ⟨i0, hi, hz0, hz1, hz2⟩ := info_parts info_pt
  have hC := set_r N b m w H.out (by omega)
  go_enter Tryd.func70, Tryd.ntmps70
  go_upto_region 2 with (go_at_call 95; refine hC.mono ?_; rintro e w1 ⟨v1, rfl, l, ho1, hl1, hR1, hO1⟩; obtain ⟨a1, p1, hv1⟩ := ho1.shape; subst hv1)
  have hs1 := hO1.size
  by_cases h2 : 1 < l.length
  · obtain ⟨g, rfl, hg1, hg2, hgf⟩ := ho1.block (by omega)
    have HO1 := hid ho1
    go_upto_region 4 with (go_at_call 96; refine (pick_r 30 (by omega) (by omega) N b _ w1 hR1 (by omega)).mono ?_; rintro e w2 ⟨x, rfl, hx0, hx1, hR2, hO2⟩)
    have ho2 := HO1.out.only hO2 hb
    have hs2 := hO2.size
    have hO12 := hO1.trans hO2
    obtain ⟨b', off', e1, _, q0, q1⟩ := ho2.at 0 (by omega)
    obtain ⟨rfl, rfl⟩ : g = b' ∧ 0 = off' := by simp at e1; exact e1
    obtain ⟨b', off', e2, _, q2, q3⟩ := ho2.at 1 (by omega)
    obtain ⟨rfl, rfl⟩ : g = b' ∧ 0 = off' := by simp at e2; exact e2
    simp only [Nat.zero_mul, Nat.zero_add, Nat.one_mul] at q0 q1 q2 q3
    obtain ⟨g3, e3, _, hg4, hgf2⟩ := ho2.block (by omega)
    obtain rfl : g = g3 := by simpa using e3
    have f0 := hgf2 0
    have f2 := hgf2 2
    have f3 := hgf2 3
    have HO2 := hid ho2
    clear ho1 HO1 ho2 hgf hgf2 e1 e2 e3
    have q3' : w2.cell? ⟨g, 3, none⟩ = some (.int .i64 (py l 1)) := q3
    clear q3
    have hbg : b + 1 ≤ g := by omega
    by_cases x0 : x = 0
    · subst x0
      go_wp2
      go_ret
      obtain ⟨l1, e1, ho3⟩ := HO2.out.set 2 (px l 0)
      obtain ⟨l2, e2, ho4⟩ := ho3.set 3 (py l 0)
      exact ⟨_, rfl, l2, ho4, by omega, (hR2.below (((Below.refl _ _).setCell hbg _).setCell hbg _)).mono (by omega), (hO12.setCell (Or.inr hg1) _).setCell (Or.inr hg1) _⟩
    · by_cases x1 : x = 1
      · subst x1
        go_wp2
        go_ret
        obtain ⟨l1, e1, ho3⟩ := HO2.out.set 0 (-1000001)
        exact ⟨_, rfl, l1, ho3, by omega, (hR2.below ((Below.refl _ _).setCell hbg _)).mono (by omega), hO12.setCell (Or.inr hg1) _⟩
      · by_cases x2 : x = 2
        · subst x2
          go_wp2_with (at_builtin; refine wpList_append_own _ rfl (.tmp 25) (.tmp 29) 33 rfl w.heap.size 26 i0 _ 2 16 Tryd.underlying33 hi hz0 hz1 hz2 rfl (by decide) _ _ _ rfl ((row_of HO2.out).alloc _) _ 1 1 (cells [(px l 0, py l 0)]) rfl rfl (one_src w2 _ _ _ rfl) (cells_ones _) (by unfold maxLen; omega) (by omega) (by simp; omega) ?_; intro v3 w3 hown3 hgrow3 _)
          go_ret
          rw [← cells_append] at hown3
          exact ⟨_, rfl, _, own_of hown3, by simp; omega, ((hR2.below (by go_grown)).grown hgrow3 (fun q hq => ((row_of HO2.out).lt q hq).1) hb).mono (by omega), (hO12.alloc _).grown hgrow3 (fun q hq => ((row_of HO2.out).lt q hq).1)⟩
        · have y0 : (x == 0) = false := by simpa using x0
          have y1 : (x == 1) = false := by simpa using x1
          have y2 : (x == 2) = false := by simpa using x2
          clear x0 x1 x2
          go_wp2
          go_ret
          exact ⟨_, rfl, l, HO2.out, by omega, hR2.mono (by omega), hO12⟩
  · go_wp2
    go_ret
    exact ⟨_, rfl, l, ho1, by omega, hR1.mono (by omega), hO1⟩
end Go.Proofs.YtipiamhnngmjmaaDoor
