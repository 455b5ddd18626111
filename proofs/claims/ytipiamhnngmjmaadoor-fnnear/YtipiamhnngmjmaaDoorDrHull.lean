/-
  The drawn hulls (contracts for the walks).
  Conditions: as each theorem states them.
-/
import Derived.Test.YtipiamhnngmjmaaDoorLists2
import Derived.Test.YtipiamhnngmjmaaDoorHHull
namespace Go.Proofs.YtipiamhnngmjmaaDoor
open Go.RowKit
set_option linter.unusedVariables false
theorem OwnC.set {N g n cap : Nat} {l : List (Int × Int)} {w : World} (h : OwnC N (.slice (Option.some ⟨g, 0, none⟩) n cap) l w) (j : Nat) (x : Int) : ∃ l' : List (Int × Int), l'.length = l.length ∧ OwnC N (.slice (Option.some ⟨g, 0, none⟩) n cap) l' (w.setCell ⟨g, j, none⟩ (.int .i64 x)) := by
  rcases h with ⟨_, e⟩ | ⟨g', c', M, f, e, h1, h2, h3, h6, h4, h5⟩
  · simp at e
  · simp at e
    obtain ⟨rfl, rfl, rfl⟩ := e
    refine ⟨(List.range l.length).map fun i => (if i * 2 = j then x else px l i, if i * 2 + 1 = j then x else py l i), by simp, .inr ⟨g, cap, M, _, by simp, h1, by simpa using h2, h3, h6, h4.set j _, fun i hi => ?_⟩⟩
    simp only [List.length_map, List.length_range] at hi
    have h5' := h5 i hi
    unfold cel at h5' ⊢
    by_cases hi2 : i % 2 = 0
    · rw [if_pos hi2] at h5' ⊢
      have hlt : i / 2 < l.length := by omega
      have hx : px ((List.range l.length).map fun i => (if i * 2 = j then x else px l i, if i * 2 + 1 = j then x else py l i)) (i / 2) = if i / 2 * 2 = j then x else px l (i / 2) := by simp [px, hlt]
      rw [hx, show i / 2 * 2 = i by omega]
      by_cases hij : i = j
      · rw [if_pos hij, if_pos hij]
      · rw [if_neg hij, if_neg hij]; exact h5'
    · rw [if_neg hi2] at h5' ⊢
      have hlt : i / 2 < l.length := by omega
      have hx : py ((List.range l.length).map fun i => (if i * 2 = j then x else px l i, if i * 2 + 1 = j then x else py l i)) (i / 2) = if i / 2 * 2 + 1 = j then x else py l (i / 2) := by simp [py, hlt]
      rw [hx, show i / 2 * 2 + 1 = i by omega]
      by_cases hij : i = j
      · rw [if_pos hij, if_pos hij]
      · rw [if_neg hij, if_neg hij]; exact h5'
theorem OwnC.block {N n cap : Nat} {a : Option Addr} {l : List (Int × Int)} {w : World} (h : OwnC N (.slice a n cap) l w) (hn : 0 < n) : ∃ g, a = Option.some ⟨g, 0, none⟩ ∧ N ≤ g ∧ g < w.heap.size ∧ ∀ j, w.frozen? ⟨g, j, none⟩ = false := by
  rcases h with ⟨_, e⟩ | ⟨g, c, M, f, e, h1, _, _, _, h4, _⟩
  · simp at e; omega
  · simp at e
    exact ⟨g, e.1, h1, h4.lt, fun j => h4.frozen j⟩
theorem OwnC.only {N b : Nat} {v : Value} {l : List (Int × Int)} {u u' : World} (h : OwnC N v l u) (hO : Only b u u') (hb : b < N) : OwnC N v l u' := by
  rcases h with h | ⟨g, c, M, f, e, h1, h2, h3, h6, ⟨cc, k1, k2, k3⟩, h5⟩
  · exact .inl h
  · have hlt : g < u.heap.size := by
      by_cases hg : g < u.heap.size
      · exact hg
      · rw [Array.getElem?_eq_none (by omega)] at k1; cases k1
    exact .inr ⟨g, c, M, f, e, h1, h2, h3, h6, ⟨cc, (hO.block g hlt (by omega)).trans k1, k2, k3⟩, h5⟩
set_option maxHeartbeats 1000000 in
theorem pick_h (n : Int) (hn : 1 ≤ n) (hn' : n ≤ 200) (N b m : Nat) (w : World) (h : Rd N b m w) (hm : m ≤ 1000000) :
    Calls Tryd.prog 96 #[.pointer (some ⟨b, 0, none⟩), .int .i64 n] w fun e w' => ∃ v : Int, e = .returned (.int .i64 v) ∧ 0 ≤ v ∧ v < n ∧ Rd N b (m + 1) w' ∧ Only b w w' := by
  by_cases h2 : 2 ≤ n
  · exact pick_r n h2 hn' N b m w h hm
  · obtain rfl : n = 1 := by omega
    have H := hid h
    clear h
    go_enter Tryd.func96, Tryd.ntmps96
    go_wp2
    go_ret
    exact ⟨0, rfl, by omega, by omega, H.out.mono (by omega), Only.refl _ _⟩
set_option maxHeartbeats 1000000 in
theorem hull_r (N b m : Nat) (w : World) (h : Rd N b m w) (hm : m ≤ 700000) :
    Calls Tryd.prog 111 #[.pointer (some ⟨b, 0, none⟩)] w fun e w' => ∃ v, e = .returned v ∧ ∃ l, OwnC w.heap.size v l w' ∧ l.length ≤ 24 ∧ Rd N b (m + 200) w' ∧ Only b w w' := by
  have hb := h.lt
  have H := hid h
  clear h
  go_enter Tryd.func111, Tryd.ntmps111
  go_wp2_with (first
    | (go_at_call 95; refine (set_r N b m _ H.out (by omega)).mono ?_; rintro e w1 ⟨v1, rfl, o, ho1, hl1, hR1, hO1⟩; obtain ⟨a1, p1, hv1⟩ := ho1.shape; subst hv1; have hs1 := hO1.size; have hf1 := hullB_len (t := slB) o)
    | (go_at_call 82; refine (l3Hull_c o _ _ _ w1 rfl (by omega) ho1.fit ho1.at).mono ?_; rintro e w2 ⟨v2, rfl, ho2, hb2⟩))
  go_ret
  exact ⟨_, rfl, _, ho2.mono hs1, by omega, hR1.below (hb2.mono (by omega)), hO1.trans (Only.ofBelow hb2)⟩
set_option maxHeartbeats 4000000 in
set_option maxRecDepth 8000 in
theorem anyHull_r (N b m : Nat) (w : World) (h : Rd N b m w) (hm : m ≤ 600000) :
    Calls Tryd.prog 94 #[.pointer (some ⟨b, 0, none⟩)] w fun e w' => ∃ v, e = .returned v ∧ ∃ l, OwnC w.heap.size v l w' ∧ l.length ≤ 25 ∧ Rd N b (m + 202) w' ∧ Only b w w' := by
  have hb := h.lt
  have H := hid h
  clear h
  obtain ⟨i0, hi, hz0, hz1, hz2⟩ := info_parts info_pt
  have hC := hull_r N b m w H.out (by omega)
  go_enter Tryd.func94, Tryd.ntmps94
  go_upto_region 2 with (go_at_call 111; refine hC.mono ?_; rintro e w1 ⟨v1, rfl, l, ho1, hl1, hR1, hO1⟩; obtain ⟨a1, p1, hv1⟩ := ho1.shape; subst hv1)
  have hs1 := hO1.size
  by_cases h2 : 1 < l.length
  · obtain ⟨g, rfl, hg1, hg2, hgf⟩ := ho1.block (by omega)
    have HO1 := hid ho1
    clear ho1 hC
    have tk : True := trivial
    go_upto_region 5 with (first
      | (go_at_call 96; clear tk; refine (pick_h _ ?_ ?_ N b _ w1 hR1 (by omega)).mono ?_; (first | omega | (unfold wrap64; omega) | (rw [IntKind.wrap_i64]; omega)); (first | omega | (unfold wrap64; omega) | (rw [IntKind.wrap_i64]; omega)); rintro e w2 ⟨xk, rfl, hk0, hk1, hR2, hO2⟩)
      | (go_at_call 96; refine (pick_r 15 (by omega) (by omega) N b _ w2 hR2 (by omega)).mono ?_; rintro e w3 ⟨x, rfl, hx0, hx1, hR3, hO3⟩))
    obtain ⟨k, rfl⟩ := Int.eq_ofNat_of_zero_le hk0
    have hkl : k + 1 < l.length := by first | omega | (unfold wrap64 at hk1; omega) | (rw [IntKind.wrap_i64] at hk1; omega)
    have ho3 := (HO1.out.only hO2 hb).only hO3 hb
    have hs2 := hO2.size
    have hs3 := hO3.size
    have hO13 := (hO1.trans hO2).trans hO3
    clear hR1 hR2 hO1 hO2 hO3 hk1 HO1
    obtain ⟨b', off', e1, _, q0, q1⟩ := ho3.at k (by omega)
    obtain ⟨rfl, rfl⟩ : g = b' ∧ 0 = off' := by simp at e1; exact e1
    obtain ⟨b', off', e2, _, q2, q3⟩ := ho3.at (k + 1) hkl
    obtain ⟨rfl, rfl⟩ : g = b' ∧ 0 = off' := by simp at e2; exact e2
    obtain ⟨b', off', e4, _, q4, q5⟩ := ho3.at 0 (by omega)
    obtain ⟨rfl, rfl⟩ : g = b' ∧ 0 = off' := by simp at e4; exact e4
    simp only [Nat.zero_mul, Nat.zero_add] at q0 q1 q2 q3 q4 q5
    obtain ⟨g3, e3, _, hg4, hgf2⟩ := ho3.block (by omega)
    obtain rfl : g = g3 := by simpa using e3
    have f0 := hgf2 (k * 2)
    have f1 := hgf2 (k * 2 + 1)
    have f2 := hgf2 ((k + 1) * 2)
    have f3 := hgf2 ((k + 1) * 2 + 1)
    have HO3 := hid ho3
    clear ho3 hgf hgf2 e1 e2 e3 e4
    have hbg : b + 1 ≤ g := by omega
    have i1 : (0 : Int) ≤ (k : Int) := by omega
    have i2 : (k : Int) < (l.length : Int) := by omega
    have i3 : (k : Int) + 1 < (l.length : Int) := by omega
    have i4 : (0 : Int) ≤ (k : Int) + 1 := by omega
    by_cases x0 : x = 0
    · subst x0
      go_wp2
      go_ret
      obtain ⟨l1, e1, ho4⟩ := HO3.out.set (k * 2) (px l (k + 1))
      obtain ⟨l2, e2, ho5⟩ := ho4.set (k * 2 + 1) (py l (k + 1))
      obtain ⟨l3, e3, ho6⟩ := ho5.set ((k + 1) * 2) (px l k)
      obtain ⟨l4, e4, ho7⟩ := ho6.set ((k + 1) * 2 + 1) (py l k)
      exact ⟨_, rfl, l4, ho7.later (by go_grown), by omega, (hR3.below (by go_grown)).mono (by omega), ((((hO13.setCell (Or.inr hg1) _).setCell (Or.inr hg1) _).setCell (Or.inr hg1) _).setCell (Or.inr hg1) _).alloc _⟩
    · by_cases x1 : x = 1
      · subst x1
        go_wp2
        go_ret
        obtain ⟨l1, e1, ho4⟩ := HO3.out.set (k * 2) (wrap64 (px l k + 1))
        exact ⟨_, rfl, l1, ho4, by omega, (hR3.below ((Below.refl _ _).setCell hbg _)).mono (by omega), hO13.setCell (Or.inr hg1) _⟩
      · by_cases x2 : x = 2
        · subst x2
          have hlen : l.length + 1 ≤ 1048576 := by omega
          go_wp2_with (at_builtin; refine wpList_append_cut rfl (.tmp 49) (.tmp 53) 33 rfl w.heap.size Tryd.underlying33 hi hz0 hz1 hz2 (by rfl) (.slice (some ⟨g, 0, none⟩) l.length p1) l [(px l 0, py l 0)] rfl (HO3.out.later (by go_grown)) _ _ _ rfl rfl (fun j u hu => one_src _ (px l 0) (py l 0) _ rfl j u hu) (by simp) (by simpa using hlen) (by simp; omega) ?_; intro g4 cp w4 hO4 hg5 _; have hGr := hid hg5; have HX := hid hO4; clear hg5 hO4)
          go_ret
          exact ⟨_, rfl, _, HX.out, by simp; omega, ((hR3.below (by go_grown)).grown hGr.out (fun q hq => (show g = q by simpa [Value.ownBlock] using hq) ▸ hbg) (show b + 1 ≤ b + 1 from Nat.le_refl _)).mono (by omega), (hO13.alloc _).grown hGr.out (fun q hq => (show g = q by simpa [Value.ownBlock] using hq) ▸ hg1)⟩
        · have y0 : (x == 0) = false := by simpa using x0
          have y1 : (x == 1) = false := by simpa using x1
          have y2 : (x == 2) = false := by simpa using x2
          clear x0 x1 x2
          go_wp2
          go_ret
          exact ⟨_, rfl, l, HO3.out, by omega, hR3.mono (by omega), hO13⟩
  · go_wp2
    go_ret
    exact ⟨_, rfl, l, ho1, by omega, hR1.mono (by omega), hO1⟩
end Go.Proofs.YtipiamhnngmjmaaDoor
