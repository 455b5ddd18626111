/-
  Points, sets and hulls: contracts for the walks (DrHull, DrNear, DrTan in one text).
  Conditions: as each theorem states them.
-/
import Derived.Test.YtegmlemejmahiaaGreatDoorB4
import Derived.Test.YtegmlemejmahiaaGreatDoorHHull
namespace Go.Proofs.YtegmlemejmahiaaGreatDoor
open Go.RowKit
set_option linter.unusedVariables false
set_option maxRecDepth 8000
theorem OwnC.set {N g n cap : Nat} {l : List (Int × Int)} {w : World} (h : OwnC N (.slice (Option.some ⟨g, 0, none⟩) n cap) l w) (j : Nat) (x : Int) : ∃ l' : List (Int × Int), l'.length = l.length ∧ OwnC N (.slice (Option.some ⟨g, 0, none⟩) n cap) l' (w.setCell ⟨g, j, none⟩ (.int .i64 x)) := by
  rcases h with ⟨_, e⟩ | ⟨g', c', M, f, e, h1, h2, h3, h6, h4, h5⟩
  · simp at e
  · simp at e
    obtain ⟨rfl, rfl, rfl⟩ := e
    refine ⟨(List.range l.length).map fun i => (if i * 2 = j then x else px l i, if i * 2 + 1 = j then x else py l i), by simp, .inr ⟨g, cap, M, _, by simp, h1, by simpa using h2, h3, h6, h4.set j _, fun i hi => ?_⟩⟩
    simp only [List.length_map, List.length_range] at hi
    have h5' := h5 i hi
    unfold cel at h5' ⊢
    by_cases hi2 : i % 2 = 0
    · rw [if_pos hi2] at h5' ⊢
      have hlt : i / 2 < l.length := by omega
      have hx : px ((List.range l.length).map fun i => (if i * 2 = j then x else px l i, if i * 2 + 1 = j then x else py l i)) (i / 2) = if i / 2 * 2 = j then x else px l (i / 2) := by simp [px, hlt]
      rw [hx, show i / 2 * 2 = i by omega]
      by_cases hij : i = j
      · rw [if_pos hij, if_pos hij]
      · rw [if_neg hij, if_neg hij]; exact h5'
    · rw [if_neg hi2] at h5' ⊢
      have hlt : i / 2 < l.length := by omega
      have hx : py ((List.range l.length).map fun i => (if i * 2 = j then x else px l i, if i * 2 + 1 = j then x else py l i)) (i / 2) = if i / 2 * 2 + 1 = j then x else py l (i / 2) := by simp [py, hlt]
      rw [hx, show i / 2 * 2 + 1 = i by omega]
      by_cases hij : i = j
      · rw [if_pos hij, if_pos hij]
      · rw [if_neg hij, if_neg hij]; exact h5'
theorem OwnC.block {N n cap : Nat} {a : Option Addr} {l : List (Int × Int)} {w : World} (h : OwnC N (.slice a n cap) l w) (hn : 0 < n) : ∃ g, a = Option.some ⟨g, 0, none⟩ ∧ N ≤ g ∧ g < w.heap.size ∧ ∀ j, w.frozen? ⟨g, j, none⟩ = false := by
  rcases h with ⟨_, e⟩ | ⟨g, c, M, f, e, h1, _, _, _, h4, _⟩
  · simp at e; omega
  · simp at e
    exact ⟨g, e.1, h1, h4.lt, fun j => h4.frozen j⟩
theorem OwnC.only {N b : Nat} {v : Value} {l : List (Int × Int)} {u u' : World} (h : OwnC N v l u) (hO : Only b u u') (hb : b < N) : OwnC N v l u' := by
  rcases h with h | ⟨g, c, M, f, e, h1, h2, h3, h6, ⟨cc, k1, k2, k3⟩, h5⟩
  · exact .inl h
  · have hlt : g < u.heap.size := by
      by_cases hg : g < u.heap.size
      · exact hg
      · rw [Array.getElem?_eq_none (by omega)] at k1; cases k1
    exact .inr ⟨g, c, M, f, e, h1, h2, h3, h6, ⟨cc, (hO.block g hlt (by omega)).trans k1, k2, k3⟩, h5⟩
set_option maxHeartbeats 1000000 in
theorem pick_h (n : Int) (hn : 1 ≤ n) (hn' : n ≤ 200) (N b m : Nat) (w : World) (h : Rd N b m w) (hm : m ≤ 1000000) :
    Calls Tryz.prog 35 #[.pointer (some ⟨b, 0, none⟩), .int .i64 n] w fun e w' => ∃ v : Int, e = .returned (.int .i64 v) ∧ 0 ≤ v ∧ v < n ∧ Rd N b (m + 1) w' ∧ Only b w w' := by
  by_cases h2 : 2 ≤ n
  · exact pick_r n h2 hn' N b m w h hm
  · obtain rfl : n = 1 := by omega
    have H := hid h
    clear h
    go_enter Tryz.func35, Tryz.ntmps35
    go_wp2
    go_ret
    exact ⟨0, rfl, by omega, by omega, H.out.mono (by omega), Only.refl _ _⟩
set_option maxHeartbeats 1000000 in
theorem hull_r (N b m : Nat) (w : World) (h : Rd N b m w) (hm : m ≤ 700000) :
    Calls Tryz.prog 77 #[.pointer (some ⟨b, 0, none⟩)] w fun e w' => ∃ v, e = .returned v ∧ ∃ l, OwnC w.heap.size v l w' ∧ l.length ≤ 24 ∧ Rd N b (m + 200) w' ∧ Only b w w' := by
  have hb := h.lt
  have H := hid h
  clear h
  go_enter Tryz.func77, Tryz.ntmps77
  go_wp2_with (first
    | (go_at_call 90; refine (set_r N b m _ H.out (by omega)).mono ?_; rintro e w1 ⟨v1, rfl, o, ho1, hl1, hR1, hO1⟩; obtain ⟨a1, p1, hv1⟩ := ho1.shape; subst hv1; have hs1 := hO1.size; have hf1 := hullB_len (t := slB) o)
    | (go_at_call 46; refine (l3Hull_c o _ _ _ w1 rfl (by omega) ho1.fit ho1.at).mono ?_; rintro e w2 ⟨v2, rfl, ho2, hb2⟩))
  go_ret
  exact ⟨_, rfl, _, ho2.mono hs1, by omega, hR1.below (hb2.mono (by omega)), hO1.trans (Only.ofBelow hb2)⟩
set_option maxHeartbeats 4000000 in
set_option maxRecDepth 8000 in
theorem anyHull_r (N b m : Nat) (w : World) (h : Rd N b m w) (hm : m ≤ 600000) :
    Calls Tryz.prog 50 #[.pointer (some ⟨b, 0, none⟩)] w fun e w' => ∃ v, e = .returned v ∧ ∃ l, OwnC w.heap.size v l w' ∧ l.length ≤ 25 ∧ Rd N b (m + 202) w' ∧ Only b w w' := by
  have hb := h.lt
  have H := hid h
  clear h
  obtain ⟨i0, hi, hz0, hz1, hz2⟩ := info_parts info_pt
  have hC := hull_r N b m w H.out (by omega)
  go_enter Tryz.func50, Tryz.ntmps50
  go_upto_region 2 with (go_at_call 77; refine hC.mono ?_; rintro e w1 ⟨v1, rfl, l, ho1, hl1, hR1, hO1⟩; obtain ⟨a1, p1, hv1⟩ := ho1.shape; subst hv1)
  have hs1 := hO1.size
  by_cases h2 : 1 < l.length
  · obtain ⟨g, rfl, hg1, hg2, hgf⟩ := ho1.block (by omega)
    have HO1 := hid ho1
    clear ho1 hC
    have tk : True := trivial
    go_upto_region 5 with (first
      | (go_at_call 35; clear tk; refine (pick_h _ ?_ ?_ N b _ w1 hR1 (by omega)).mono ?_; (first | omega | (unfold wrap64; omega) | (rw [IntKind.wrap_i64]; omega)); (first | omega | (unfold wrap64; omega) | (rw [IntKind.wrap_i64]; omega)); rintro e w2 ⟨xk, rfl, hk0, hk1, hR2, hO2⟩)
      | (go_at_call 35; refine (pick_r 15 (by omega) (by omega) N b _ w2 hR2 (by omega)).mono ?_; rintro e w3 ⟨x, rfl, hx0, hx1, hR3, hO3⟩))
    obtain ⟨k, rfl⟩ := Int.eq_ofNat_of_zero_le hk0
    have hkl : k + 1 < l.length := by first | omega | (unfold wrap64 at hk1; omega) | (rw [IntKind.wrap_i64] at hk1; omega)
    have ho3 := (HO1.out.only hO2 hb).only hO3 hb
    have hs2 := hO2.size
    have hs3 := hO3.size
    have hO13 := (hO1.trans hO2).trans hO3
    clear hR1 hR2 hO1 hO2 hO3 hk1 HO1
    obtain ⟨b', off', e1, _, q0, q1⟩ := ho3.at k (by omega)
    obtain ⟨rfl, rfl⟩ : g = b' ∧ 0 = off' := by simp at e1; exact e1
    obtain ⟨b', off', e2, _, q2, q3⟩ := ho3.at (k + 1) hkl
    obtain ⟨rfl, rfl⟩ : g = b' ∧ 0 = off' := by simp at e2; exact e2
    obtain ⟨b', off', e4, _, q4, q5⟩ := ho3.at 0 (by omega)
    obtain ⟨rfl, rfl⟩ : g = b' ∧ 0 = off' := by simp at e4; exact e4
    simp only [Nat.zero_mul, Nat.zero_add] at q0 q1 q2 q3 q4 q5
    obtain ⟨g3, e3, _, hg4, hgf2⟩ := ho3.block (by omega)
    obtain rfl : g = g3 := by simpa using e3
    have f0 := hgf2 (k * 2)
    have f1 := hgf2 (k * 2 + 1)
    have f2 := hgf2 ((k + 1) * 2)
    have f3 := hgf2 ((k + 1) * 2 + 1)
    have HO3 := hid ho3
    clear ho3 hgf hgf2 e1 e2 e3 e4
    have hbg : b + 1 ≤ g := by omega
    have i1 : (0 : Int) ≤ (k : Int) := by omega
    have i2 : (k : Int) < (l.length : Int) := by omega
    have i3 : (k : Int) + 1 < (l.length : Int) := by omega
    have i4 : (0 : Int) ≤ (k : Int) + 1 := by omega
    by_cases x0 : x = 0
    · subst x0
      go_wp2
      go_ret
      obtain ⟨l1, e1, ho4⟩ := HO3.out.set (k * 2) (px l (k + 1))
      obtain ⟨l2, e2, ho5⟩ := ho4.set (k * 2 + 1) (py l (k + 1))
      obtain ⟨l3, e3, ho6⟩ := ho5.set ((k + 1) * 2) (px l k)
      obtain ⟨l4, e4, ho7⟩ := ho6.set ((k + 1) * 2 + 1) (py l k)
      exact ⟨_, rfl, l4, ho7.later (by go_grown), by omega, (hR3.below (by go_grown)).mono (by omega), ((((hO13.setCell (Or.inr hg1) _).setCell (Or.inr hg1) _).setCell (Or.inr hg1) _).setCell (Or.inr hg1) _).alloc _⟩
    · by_cases x1 : x = 1
      · subst x1
        go_wp2
        go_ret
        obtain ⟨l1, e1, ho4⟩ := HO3.out.set (k * 2) (wrap64 (px l k + 1))
        exact ⟨_, rfl, l1, ho4, by omega, (hR3.below ((Below.refl _ _).setCell hbg _)).mono (by omega), hO13.setCell (Or.inr hg1) _⟩
      · by_cases x2 : x = 2
        · subst x2
          have hlen : l.length + 1 ≤ 1048576 := by omega
          go_wp2_with (at_builtin; refine wpList_append_cut rfl (.tmp 49) (.tmp 53) 24 rfl w.heap.size Tryz.underlying24 hi hz0 hz1 hz2 (by rfl) (.slice (some ⟨g, 0, none⟩) l.length p1) l [(px l 0, py l 0)] rfl (HO3.out.later (by go_grown)) _ _ _ rfl rfl (fun j u hu => one_src _ (px l 0) (py l 0) _ rfl j u hu) (by simp) (by simpa using hlen) (by simp; omega) ?_; intro g4 cp w4 hO4 hg5 _; have hGr := hid hg5; have HX := hid hO4; clear hg5 hO4)
          go_ret
          exact ⟨_, rfl, _, HX.out, by simp; omega, ((hR3.below (by go_grown)).grown hGr.out (fun q hq => (show g = q by simpa [Value.ownBlock] using hq) ▸ hbg) (show b + 1 ≤ b + 1 from Nat.le_refl _)).mono (by omega), (hO13.alloc _).grown hGr.out (fun q hq => (show g = q by simpa [Value.ownBlock] using hq) ▸ hg1)⟩
        · have y0 : (x == 0) = false := by simpa using x0
          have y1 : (x == 1) = false := by simpa using x1
          have y2 : (x == 2) = false := by simpa using x2
          clear x0 x1 x2
          go_wp2
          go_ret
          exact ⟨_, rfl, l, HO3.out, by omega, hR3.mono (by omega), hO13⟩
  · go_wp2
    go_ret
    exact ⟨_, rfl, l, ho1, by omega, hR1.mono (by omega), hO1⟩
end Go.Proofs.YtegmlemejmahiaaGreatDoor
namespace Go.Proofs.YtegmlemejmahiaaGreatDoor
open Go.RowKit
set_option linter.unusedVariables false
set_option maxRecDepth 8000
theorem boxf (w : World) (x y : Int) (t : TypeId) (i : Nat) : (w.alloc (.cells #[.int .i64 x, .int .i64 y] t)).frozen? ⟨w.heap.size, i, none⟩ = false := by
  have := heap_alloc_new w (.cells #[.int .i64 x, .int .i64 y] t)
  unfold World.frozen?
  rw [this]
  simp
set_option maxHeartbeats 8000000 in
set_option maxRecDepth 8000 in
theorem near_r (l : List (Int × Int)) (a : Option Addr) (len cap : Nat) (N b m : Nat) (w : World) (h : Rd N b m w) (hm : m ≤ 700000) (hl : l.length = len) (h1 : len ≤ 200) (hA : At w.heap.size a l w) (hab : ∀ g off, a = some ⟨g, off, none⟩ → g ≠ b) :
    Calls Tryz.prog 51 #[.pointer (some ⟨b, 0, none⟩), .slice a len cap] w fun e w' => ∃ x y : Int, e = .returned (.agg #[.int .i64 x, .int .i64 y]) ∧ Rd N b (m + 20) w' ∧ Only b w w' := by
  subst hl
  have hb := h.lt
  have hrb : w.heap.size ≠ b := by omega
  have za0 := box0 w 0 0 26
  have zb0 := box1 w 0 0 26
  have ya0 := boxf w 0 0 26 0
  have yb0 := boxf w 0 0 26 1
  have hR0 := h.below (by go_grown : Below (b + 1) w (w.alloc (.cells #[.int .i64 0, .int .i64 0] 26)))
  have hO0 : Only b w (w.alloc (.cells #[.int .i64 0, .int .i64 0] 26)) := (Only.refl b w).alloc _
  have hs0 : (w.alloc (.cells #[.int .i64 0, .int .i64 0] 26)).heap.size = w.heap.size + 1 := by simp
  by_cases l0 : l.length = 0
  · have hd : ((l.length : Int) == 0) = true := by rw [l0]; rfl
    clear l0 hA hab
    go_enter Tryz.func51, Tryz.ntmps51
    go_upto_region 1 with fail
    generalize w.alloc (.cells #[.int .i64 0, .int .i64 0] 26) = wB at za0 zb0 ya0 yb0 hR0 hO0 hs0 ⊢
    go_wp2_with (go_at_call 78; refine (anyPoint_r N b _ wB hR0 (by omega)).mono ?_; rintro e w1 ⟨x, y, rfl, _, _, _, _, hR1, hO1⟩; have za1 := (hO1.cell (p := ⟨w.heap.size, 0, none⟩) (show w.heap.size < wB.heap.size by omega) hrb).trans za0; have zb1 := (hO1.cell (p := ⟨w.heap.size, 1, none⟩) (show w.heap.size < wB.heap.size by omega) hrb).trans zb0; have ya1 := (hO1.frozen (p := ⟨w.heap.size, 0, none⟩) (show w.heap.size < wB.heap.size by omega) hrb).trans ya0; have yb1 := (hO1.frozen (p := ⟨w.heap.size, 1, none⟩) (show w.heap.size < wB.heap.size by omega) hrb).trans yb0; have hO01 := hO0.trans hO1; have hs1 := hO1.size)
    (refine bodyPost_ret (by simp [results, Tryz.results51, go_sem, za1, zb1]; first | done | exact ⟨rfl, rfl⟩) rfl ⟨_, _, rfl, (hR1.below (by go_grown)).mono (by omega), (by repeat' (first | (with_reducible exact hO01) | (with_reducible refine Only.alloc ?_ _) | (with_reducible refine Only.setCell ?_ (Or.inr ?_) _) | (with_reducible refine Only.drew ?_) | exact Nat.le_refl _ | omega))⟩)
  · have hd : ((l.length : Int) == 0) = false := by simp; exact List.ne_nil_of_length_pos (by omega)
    obtain ⟨g, off, rfl, hg1, _, _⟩ := hA 0 (by omega)
    have hgb := hab g off rfl
    have HC : Hid (∀ i, i < l.length → ∀ u, Only b w u → u.cell? ⟨g, off + i * 2, none⟩ = some (.int .i64 (px l i)) ∧ u.cell? ⟨g, off + i * 2 + 1, none⟩ = some (.int .i64 (py l i))) := fun i hi u hu => by
      obtain ⟨g', off', e, _, c0, c1⟩ := hA i hi
      obtain ⟨rfl, rfl⟩ : g = g' ∧ off = off' := by simpa using e
      exact ⟨(hu.cell (p := ⟨g, off + i * 2, none⟩) hg1 hgb).trans c0, (hu.cell (p := ⟨g, off + i * 2 + 1, none⟩) hg1 hgb).trans c1⟩
    clear hA hab
    have lp : 1 ≤ (l.length : Int) := by omega
    have l2 : (l.length : Int) ≤ 200 := by omega
    go_enter Tryz.func51, Tryz.ntmps51
    go_upto_region 1 with fail
    generalize w.alloc (.cells #[.int .i64 0, .int .i64 0] 26) = wB at za0 zb0 ya0 yb0 hR0 hO0 hs0 ⊢
    have tk : True := trivial
    go_upto_region 3 with (first
      | (go_at_call 34; refine (one_r 4 (by omega) (by omega) N b _ wB hR0 (by omega)).mono ?_; rintro e w1 ⟨v1, rfl, hR1, hO1⟩; have za1 := (hO1.cell (p := ⟨w.heap.size, 0, none⟩) (show w.heap.size < wB.heap.size by omega) hrb).trans za0; have zb1 := (hO1.cell (p := ⟨w.heap.size, 1, none⟩) (show w.heap.size < wB.heap.size by omega) hrb).trans zb0; have ya1 := (hO1.frozen (p := ⟨w.heap.size, 0, none⟩) (show w.heap.size < wB.heap.size by omega) hrb).trans ya0; have yb1 := (hO1.frozen (p := ⟨w.heap.size, 1, none⟩) (show w.heap.size < wB.heap.size by omega) hrb).trans yb0; have hO01 := hO0.trans hO1; have hs1 := hO1.size)
      | (go_at_call 78; refine (anyPoint_r N b _ w1 hR1 (by omega)).mono ?_; rintro e w2 ⟨x, y, rfl, _, _, _, _, hR2, hO2⟩; have za2 := (hO2.cell (p := ⟨w.heap.size, 0, none⟩) (show w.heap.size < w1.heap.size by omega) hrb).trans za1; have zb2 := (hO2.cell (p := ⟨w.heap.size, 1, none⟩) (show w.heap.size < w1.heap.size by omega) hrb).trans zb1; have ya2 := (hO2.frozen (p := ⟨w.heap.size, 0, none⟩) (show w.heap.size < w1.heap.size by omega) hrb).trans ya1; have yb2 := (hO2.frozen (p := ⟨w.heap.size, 1, none⟩) (show w.heap.size < w1.heap.size by omega) hrb).trans yb1; have hO02 := hO01.trans hO2; have hs2 := hO2.size))
    · (refine bodyPost_ret (by simp [results, Tryz.results51, go_sem, za2, zb2]; first | done | exact ⟨rfl, rfl⟩) rfl ⟨_, _, rfl, (hR2.below (by go_grown)).mono (by omega), (by repeat' (first | (with_reducible exact hO02) | (with_reducible refine Only.alloc ?_ _) | (with_reducible refine Only.setCell ?_ (Or.inr ?_) _) | (with_reducible refine Only.drew ?_) | exact Nat.le_refl _ | omega))⟩)
    · clear za0 zb0 ya0 yb0 hR0 hO0
      go_upto_region 4 with (go_at_call 35; refine (pick_h (l.length : Int) lp l2 N b _ w1 hR1 (by omega)).mono ?_; rintro e w2 ⟨xi, rfl, hi0, hi1, hR2, hO2⟩; obtain ⟨i, rfl⟩ := Int.eq_ofNat_of_zero_le hi0; have hil : i < l.length := (by omega); have za2 := (hO2.cell (p := ⟨w.heap.size, 0, none⟩) (show w.heap.size < w1.heap.size by omega) hrb).trans za1; have zb2 := (hO2.cell (p := ⟨w.heap.size, 1, none⟩) (show w.heap.size < w1.heap.size by omega) hrb).trans zb1; have ya2 := (hO2.frozen (p := ⟨w.heap.size, 0, none⟩) (show w.heap.size < w1.heap.size by omega) hrb).trans ya1; have yb2 := (hO2.frozen (p := ⟨w.heap.size, 1, none⟩) (show w.heap.size < w1.heap.size by omega) hrb).trans yb1; have hO02 := hO01.trans hO2; have hs2 := hO2.size; obtain ⟨p0, p1⟩ := HC.out i hil w2 hO02)
      have hbP : Below w2.heap.size w2 (w2.alloc (.cells #[.int .i64 (px l i), .int .i64 (py l i)] 26)) := by go_grown
      have sP : (w2.alloc (.cells #[.int .i64 (px l i), .int .i64 (py l i)] 26)).heap.size = w2.heap.size + 1 := by simp
      have a0 := box0 w2 (px l i) (py l i) 26
      have a1 := box1 w2 (px l i) (py l i) 26
      have za3 := cell_later hbP za2
      have zb3 := cell_later hbP zb2
      have ya3 := (hbP.frozen (show w.heap.size < w2.heap.size by omega)).trans ya2
      have yb3 := (hbP.frozen (show w.heap.size < w2.heap.size by omega)).trans yb2
      have hR3 := hR2.below (hbP.mono (by have := hR2.lt; omega))
      have hO03 := hO02.trans (Only.ofBelow hbP)
      clear za1 zb1 ya1 yb1 za2 zb2 ya2 yb2 hR1 hO1 hR2 hO2 p0 p1 hO01 hO02
      generalize w2.alloc (.cells #[.int .i64 (px l i), .int .i64 (py l i)] 26) = wP at a0 a1 za3 zb3 ya3 yb3 hR3 hO03 sP hbP ⊢
      go_upto_region 5 with (go_at_call 35; refine (pick_h (l.length : Int) lp l2 N b _ wP hR3 (by omega)).mono ?_; rintro e w4 ⟨xj, rfl, hj0, hj1, hR4, hO4⟩; obtain ⟨j, rfl⟩ := Int.eq_ofNat_of_zero_le hj0; have hjl : j < l.length := (by omega); have za4 := (hO4.cell (p := ⟨w.heap.size, 0, none⟩) (show w.heap.size < wP.heap.size by omega) hrb).trans za3; have zb4 := (hO4.cell (p := ⟨w.heap.size, 1, none⟩) (show w.heap.size < wP.heap.size by omega) hrb).trans zb3; have ya4 := (hO4.frozen (p := ⟨w.heap.size, 0, none⟩) (show w.heap.size < wP.heap.size by omega) hrb).trans ya3; have yb4 := (hO4.frozen (p := ⟨w.heap.size, 1, none⟩) (show w.heap.size < wP.heap.size by omega) hrb).trans yb3; have hO04 := hO03.trans hO4; have hs4 := hO4.size; obtain ⟨p0, p1⟩ := HC.out j hjl w4 hO04; have a2 := (hO4.cell (p := ⟨w2.heap.size, 0, none⟩) (show w2.heap.size < wP.heap.size by omega) (show w2.heap.size ≠ b by omega)).trans a0; have a3 := (hO4.cell (p := ⟨w2.heap.size, 1, none⟩) (show w2.heap.size < wP.heap.size by omega) (show w2.heap.size ≠ b by omega)).trans a1)
      have hbQ : Below w4.heap.size w4 (w4.alloc (.cells #[.int .i64 (px l j), .int .i64 (py l j)] 26)) := by go_grown
      have sQ : (w4.alloc (.cells #[.int .i64 (px l j), .int .i64 (py l j)] 26)).heap.size = w4.heap.size + 1 := by simp
      have c0 := box0 w4 (px l j) (py l j) 26
      have c1 := box1 w4 (px l j) (py l j) 26
      have a4 := cell_later hbQ a2
      have a5 := cell_later hbQ a3
      have za5 := cell_later hbQ za4
      have zb5 := cell_later hbQ zb4
      have ya5 := (hbQ.frozen (show w.heap.size < w4.heap.size by omega)).trans ya4
      have yb5 := (hbQ.frozen (show w.heap.size < w4.heap.size by omega)).trans yb4
      have hR5 := hR4.below (hbQ.mono (by have := hR4.lt; omega))
      have hO05 := hO04.trans (Only.ofBelow hbQ)
      clear za3 zb3 ya3 yb3 za4 zb4 ya4 yb4 hR3 hR4 hO4 p0 p1 hO03 hO04 a0 a1 a2 a3
      generalize w4.alloc (.cells #[.int .i64 (px l j), .int .i64 (py l j)] 26) = wQ at c0 c1 a4 a5 za5 zb5 ya5 yb5 hR5 hO05 sQ hbQ ⊢
      go_upto_region 6 with (go_at_call 35; refine (pick_r 3 (by omega) (by omega) N b _ wQ hR5 (by omega)).mono ?_; rintro e w6 ⟨x, rfl, hx0, hx1, hR6, hO6⟩; have za6 := (hO6.cell (p := ⟨w.heap.size, 0, none⟩) (show w.heap.size < wQ.heap.size by omega) hrb).trans za5; have zb6 := (hO6.cell (p := ⟨w.heap.size, 1, none⟩) (show w.heap.size < wQ.heap.size by omega) hrb).trans zb5; have ya6 := (hO6.frozen (p := ⟨w.heap.size, 0, none⟩) (show w.heap.size < wQ.heap.size by omega) hrb).trans ya5; have yb6 := (hO6.frozen (p := ⟨w.heap.size, 1, none⟩) (show w.heap.size < wQ.heap.size by omega) hrb).trans yb5; have hO06 := hO05.trans hO6; have hs6 := hO6.size; have d0 := (hO6.cell (p := ⟨w2.heap.size, 0, none⟩) (show w2.heap.size < wQ.heap.size by omega) (show w2.heap.size ≠ b by omega)).trans a4; have d1 := (hO6.cell (p := ⟨w2.heap.size, 1, none⟩) (show w2.heap.size < wQ.heap.size by omega) (show w2.heap.size ≠ b by omega)).trans a5; have d2 := (hO6.cell (p := ⟨w4.heap.size, 0, none⟩) (show w4.heap.size < wQ.heap.size by omega) (show w4.heap.size ≠ b by omega)).trans c0; have d3 := (hO6.cell (p := ⟨w4.heap.size, 1, none⟩) (show w4.heap.size < wQ.heap.size by omega) (show w4.heap.size ≠ b by omega)).trans c1)
      clear za5 zb5 ya5 yb5 hR5 hO05 hO6 a4 a5 c0 c1
      by_cases x0 : x = 0
      · subst x0
        go_wp2
        (refine bodyPost_ret (by simp [results, Tryz.results51, go_sem, za6, zb6]; first | done | exact ⟨rfl, rfl⟩) rfl ⟨_, _, rfl, (hR6.below (by go_grown)).mono (by omega), (by repeat' (first | (with_reducible exact hO06) | (with_reducible refine Only.alloc ?_ _) | (with_reducible refine Only.setCell ?_ (Or.inr ?_) _) | (with_reducible refine Only.drew ?_) | exact Nat.le_refl _ | omega))⟩)
      · by_cases x1 : x = 1
        · subst x1
          go_wp2
          (refine bodyPost_ret (by simp [results, Tryz.results51, go_sem, za6, zb6]; first | done | exact ⟨rfl, rfl⟩) rfl ⟨_, _, rfl, (hR6.below (by go_grown)).mono (by omega), (by repeat' (first | (with_reducible exact hO06) | (with_reducible refine Only.alloc ?_ _) | (with_reducible refine Only.setCell ?_ (Or.inr ?_) _) | (with_reducible refine Only.drew ?_) | exact Nat.le_refl _ | omega))⟩)
        · have y0 : (x == 0) = false := by simpa using x0
          have y1 : (x == 1) = false := by simpa using x1
          clear x0 x1
          have hlt2 : w.heap.size < w2.heap.size := by omega
          go_wp2
          refine wp_region_held_drew (S := (fun u => u.cell? ⟨w2.heap.size, 0, none⟩ = some (.int .i64 (px l i)) ∧ u.cell? ⟨w2.heap.size, 1, none⟩ = some (.int .i64 (py l i)))) (by kernel_rfl) ?_ (fun hHeld => ?_)
          · exact ⟨d0, d1⟩
          refine wpAnyH_take (i := 0) (oi := { dst := some 50, op := Op.fieldAddr 26 (Operand.tmp 5) 0, type := 0, pos := "l4_inside.go:109", after := #[], guard := none }) (v := ?vNx0) rfl (by kernel_rfl) (by kernel_rfl) (by kernel_rfl) (fun _ _ _ h => h) (Or.inl ⟨by rfl, ?hyNx0⟩) (by with_reducible assumption) ?restNx0
          case hyNx0 => (intro w hSw; (try dsimp only at hSw); go_simp; try with_reducible rfl)
          case' restNx0 => (try simp only [Act.put, List.setIfInBounds_toArray, List.set_cons_zero, List.set_cons_succ])
          refine wpAnyH_take (i := 1) (oi := { dst := some 51, op := Op.load 3 (Operand.tmp 50), type := 3, pos := "l4_inside.go:109", after := #[{ on := 0, ground := Ground.data }], guard := none }) (v := ?vNx1) rfl (by kernel_rfl) (by kernel_rfl) (by kernel_rfl) (fun _ _ _ h => h) (Or.inl ⟨by rfl, ?hyNx1⟩) (by with_reducible assumption) ?restNx1
          case hyNx1 => (intro w hSw; (try dsimp only at hSw); go_simp; try with_reducible rfl)
          case' restNx1 => (try simp only [Act.put, List.setIfInBounds_toArray, List.set_cons_zero, List.set_cons_succ])
          refine wpAnyH_take (i := 2) (oi := { dst := some 52, op := Op.move (Operand.tmp 0), type := 47, pos := "l4_inside.go:109", after := #[], guard := none }) (v := ?vNx2) rfl (by kernel_rfl) (by kernel_rfl) (by kernel_rfl) (fun _ _ _ h => h) (Or.inl ⟨by rfl, ?hyNx2⟩) (by with_reducible assumption) ?restNx2
          case hyNx2 => (intro w hSw; (try dsimp only at hSw); go_simp; try with_reducible rfl)
          case' restNx2 => (try simp only [Act.put, List.setIfInBounds_toArray, List.set_cons_zero, List.set_cons_succ])
          refine wpAnyH_take (i := 6) (oi := { dst := some 56, op := Op.fieldAddr 26 (Operand.tmp 5) 1, type := 0, pos := "l4_inside.go:109", after := #[], guard := none }) (v := ?vNx6) rfl (by kernel_rfl) (by kernel_rfl) (by kernel_rfl) (fun _ _ _ h => h) (Or.inl ⟨by rfl, ?hyNx6⟩) (by with_reducible assumption) ?restNx6
          case hyNx6 => (intro w hSw; (try dsimp only at hSw); go_simp; try with_reducible rfl)
          case' restNx6 => (try simp only [Act.put, List.setIfInBounds_toArray, List.set_cons_zero, List.set_cons_succ])
          refine wpAnyH_take (i := 7) (oi := { dst := some 57, op := Op.load 3 (Operand.tmp 56), type := 3, pos := "l4_inside.go:109", after := #[{ on := 6, ground := Ground.data }], guard := none }) (v := ?vNx7) rfl (by kernel_rfl) (by kernel_rfl) (by kernel_rfl) (fun _ _ _ h => h) (Or.inl ⟨by rfl, ?hyNx7⟩) (by with_reducible assumption) ?restNx7
          case hyNx7 => (intro w hSw; (try dsimp only at hSw); go_simp; try with_reducible rfl)
          case' restNx7 => (try simp only [Act.put, List.setIfInBounds_toArray, List.set_cons_zero, List.set_cons_succ])
          refine wpAnyH_take (i := 8) (oi := { dst := some 58, op := Op.move (Operand.tmp 0), type := 47, pos := "l4_inside.go:109", after := #[], guard := none }) (v := ?vNx8) rfl (by kernel_rfl) (by kernel_rfl) (by kernel_rfl) (fun _ _ _ h => h) (Or.inl ⟨by rfl, ?hyNx8⟩) (by with_reducible assumption) ?restNx8
          case hyNx8 => (intro w hSw; (try dsimp only at hSw); go_simp; try with_reducible rfl)
          case' restNx8 => (try simp only [Act.put, List.setIfInBounds_toArray, List.set_cons_zero, List.set_cons_succ])
          refine wpAnyH_ready (rs := [3]) (by kernel_rfl) (by simp) ?_
          refine AllReadyH.cons (o := { dst := some 53, op := Op.call { callee := Callee.value (Operand.func 35), args := #[Operand.tmp 52, Operand.const (Value.int IntKind.i64 3)], argTypes := #[47, 3] }, type := 3, pos := "l4_inside.go:109", after := #[{ on := 2, ground := Ground.data }], guard := none }) rfl (fun K hK => ?_) AllReadyH.nil
          go_simp
          refine (pick_r 3 (by omega) (by omega) N b _ _ (hR6.below (Below.refl _ _).drew) (by omega)).mono ?_
          rintro e w7 ⟨u7, rfl, hv7, hw7, hR7, hP7⟩
          have hO7 : Only b w6 w7 := (Only.refl b w6).drew.trans hP7
          have za7 := (hO7.cell (p := ⟨w.heap.size, 0, none⟩) (show w.heap.size < w6.heap.size by omega) hrb).trans za6
          have zb7 := (hO7.cell (p := ⟨w.heap.size, 1, none⟩) (show w.heap.size < w6.heap.size by omega) hrb).trans zb6
          have ya7 := (hO7.frozen (p := ⟨w.heap.size, 0, none⟩) (show w.heap.size < w6.heap.size by omega) hrb).trans ya6
          have yb7 := (hO7.frozen (p := ⟨w.heap.size, 1, none⟩) (show w.heap.size < w6.heap.size by omega) hrb).trans yb6
          have hO07 := hO06.trans hO7
          have hs7 := hO7.size
          have d07 := (hO7.cell (p := ⟨w2.heap.size, 0, none⟩) (show w2.heap.size < w6.heap.size by omega) (show w2.heap.size ≠ b by omega)).trans d0
          have d17 := (hO7.cell (p := ⟨w2.heap.size, 1, none⟩) (show w2.heap.size < w6.heap.size by omega) (show w2.heap.size ≠ b by omega)).trans d1
          go_wp2_with fail
          refine hK.out _ _ ?_ (fun hHeld => ?_)
          · exact ⟨d07, d17⟩
          clear hK K
          try simp only [Act.put, List.setIfInBounds_toArray, List.set_cons_zero, List.set_cons_succ]
          refine wpAnyH_take (i := 4) (oi := { dst := some 54, op := Op.binOp BinOp.add 3 (Operand.tmp 51) (Operand.tmp 53) 3, type := 3, pos := "l4_inside.go:109", after := #[{ on := 1, ground := Ground.data }, { on := 3, ground := Ground.data }], guard := none }) (v := ?vNx4) rfl (by kernel_rfl) (by kernel_rfl) (by kernel_rfl) (fun _ _ _ h => h) (Or.inl ⟨by rfl, ?hyNx4⟩) (by with_reducible assumption) ?restNx4
          case hyNx4 => (intro w hSw; (try dsimp only at hSw); go_simp; try with_reducible rfl)
          case' restNx4 => (try simp only [Act.put, List.setIfInBounds_toArray, List.set_cons_zero, List.set_cons_succ])
          refine wpAnyH_take (i := 5) (oi := { dst := some 55, op := Op.binOp BinOp.sub 3 (Operand.tmp 54) (Operand.const (Value.int IntKind.i64 1)) 3, type := 3, pos := "l4_inside.go:109", after := #[{ on := 4, ground := Ground.data }], guard := none }) (v := ?vNx5) rfl (by kernel_rfl) (by kernel_rfl) (by kernel_rfl) (fun _ _ _ h => h) (Or.inl ⟨by rfl, ?hyNx5⟩) (by with_reducible assumption) ?restNx5
          case hyNx5 => (intro w hSw; (try dsimp only at hSw); go_simp; try with_reducible rfl)
          case' restNx5 => (try simp only [Act.put, List.setIfInBounds_toArray, List.set_cons_zero, List.set_cons_succ])
          refine wpAnyH_ready (rs := [9]) (by kernel_rfl) (by simp) ?_
          refine AllReadyH.cons (o := { dst := some 59, op := Op.call { callee := Callee.value (Operand.func 35), args := #[Operand.tmp 58, Operand.const (Value.int IntKind.i64 3)], argTypes := #[47, 3] }, type := 3, pos := "l4_inside.go:109", after := #[{ on := 8, ground := Ground.data }, { on := 3, ground := Ground.chain }], guard := none }) rfl (fun K hK => ?_) AllReadyH.nil
          go_simp
          refine (pick_r 3 (by omega) (by omega) N b _ _ (hR7) (by omega)).mono ?_
          rintro e w8 ⟨u8, rfl, hv8, hw8, hR8, hP8⟩
          have hO8 : Only b w7 w8 := hP8
          have za8 := (hO8.cell (p := ⟨w.heap.size, 0, none⟩) (show w.heap.size < w7.heap.size by omega) hrb).trans za7
          have zb8 := (hO8.cell (p := ⟨w.heap.size, 1, none⟩) (show w.heap.size < w7.heap.size by omega) hrb).trans zb7
          have ya8 := (hO8.frozen (p := ⟨w.heap.size, 0, none⟩) (show w.heap.size < w7.heap.size by omega) hrb).trans ya7
          have yb8 := (hO8.frozen (p := ⟨w.heap.size, 1, none⟩) (show w.heap.size < w7.heap.size by omega) hrb).trans yb7
          have hO08 := hO07.trans hO8
          have hs8 := hO8.size
          have d08 := (hO8.cell (p := ⟨w2.heap.size, 0, none⟩) (show w2.heap.size < w7.heap.size by omega) (show w2.heap.size ≠ b by omega)).trans d07
          have d18 := (hO8.cell (p := ⟨w2.heap.size, 1, none⟩) (show w2.heap.size < w7.heap.size by omega) (show w2.heap.size ≠ b by omega)).trans d17
          go_wp2_with fail
          refine hK.out _ _ ?_ (fun hHeld => ?_)
          · exact ⟨d08, d18⟩
          clear hK K
          try simp only [Act.put, List.setIfInBounds_toArray, List.set_cons_zero, List.set_cons_succ]
          refine wpAnyH_take (i := 10) (oi := { dst := some 60, op := Op.binOp BinOp.add 3 (Operand.tmp 57) (Operand.tmp 59) 3, type := 3, pos := "l4_inside.go:109", after := #[{ on := 7, ground := Ground.data }, { on := 9, ground := Ground.data }], guard := none }) (v := ?vNx10) rfl (by kernel_rfl) (by kernel_rfl) (by kernel_rfl) (fun _ _ _ h => h) (Or.inl ⟨by rfl, ?hyNx10⟩) (by with_reducible assumption) ?restNx10
          case hyNx10 => (intro w hSw; (try dsimp only at hSw); go_simp; try with_reducible rfl)
          case' restNx10 => (try simp only [Act.put, List.setIfInBounds_toArray, List.set_cons_zero, List.set_cons_succ])
          refine wpAnyH_take (i := 11) (oi := { dst := some 61, op := Op.binOp BinOp.sub 3 (Operand.tmp 60) (Operand.const (Value.int IntKind.i64 1)) 3, type := 3, pos := "l4_inside.go:109", after := #[{ on := 10, ground := Ground.data }], guard := none }) (v := ?vNx11) rfl (by kernel_rfl) (by kernel_rfl) (by kernel_rfl) (fun _ _ _ h => h) (Or.inl ⟨by rfl, ?hyNx11⟩) (by with_reducible assumption) ?restNx11
          case hyNx11 => (intro w hSw; (try dsimp only at hSw); go_simp; try with_reducible rfl)
          case' restNx11 => (try simp only [Act.put, List.setIfInBounds_toArray, List.set_cons_zero, List.set_cons_succ])
          refine wpAnyH_take (i := 12) (oi := { dst := some 62, op := Op.build 26 #[(0, Operand.tmp 55), (1, Operand.tmp 61)], type := 26, pos := "l4_inside.go:109", after := #[{ on := 5, ground := Ground.data }, { on := 11, ground := Ground.data }], guard := none }) (v := ?vNx12) rfl (by kernel_rfl) (by kernel_rfl) (by kernel_rfl) (fun _ _ _ h => h) (Or.inl ⟨by rfl, ?hyNx12⟩) (by with_reducible assumption) ?restNx12
          case hyNx12 => (intro w hSw; (try dsimp only at hSw); go_simp; try with_reducible rfl)
          case' restNx12 => (try simp only [Act.put, List.setIfInBounds_toArray, List.set_cons_zero, List.set_cons_succ])
          refine wpAnyH_ready (rs := [13]) (by kernel_rfl) (by simp) ?_
          refine AllReadyH.cons (o := { dst := none, op := Op.store 26 (Operand.tmp 4) (Operand.tmp 62), type := 0, pos := "l4_inside.go:109", after := #[{ on := 12, ground := Ground.data }, { on := 9, ground := Ground.chain }, { on := 0, ground := Ground.phase }, { on := 1, ground := Ground.phase }, { on := 2, ground := Ground.phase }, { on := 3, ground := Ground.phase }, { on := 4, ground := Ground.phase }, { on := 5, ground := Ground.phase }, { on := 6, ground := Ground.phase }, { on := 7, ground := Ground.phase }, { on := 8, ground := Ground.phase }, { on := 9, ground := Ground.phase }, { on := 10, ground := Ground.phase }, { on := 11, ground := Ground.phase }, { on := 12, ground := Ground.phase }], guard := none }) rfl (fun K hK => ?_) AllReadyH.nil
          go_simp
          refine hK.out _ _ ?_ (fun hHeld => ?_)
          · exact ⟨by go_simp, by go_simp⟩
          clear hK K
          try simp only [Act.put, List.setIfInBounds_toArray, List.set_cons_zero, List.set_cons_succ]
          refine wpAnyH_done (by kernel_rfl) ?_ _
          go_wp2
          (refine bodyPost_ret (by simp [results, Tryz.results51, go_sem, za8, zb8]; first | done | exact ⟨rfl, rfl⟩) rfl ⟨_, _, rfl, (hR8.below (by go_grown)).mono (by omega), (by repeat' (first | (with_reducible exact hO08) | (with_reducible refine Only.alloc ?_ _) | (with_reducible refine Only.setCell ?_ (Or.inr ?_) _) | (with_reducible refine Only.drew ?_) | exact Nat.le_refl _ | omega))⟩)
end Go.Proofs.YtegmlemejmahiaaGreatDoor
namespace Go.Proofs.YtegmlemejmahiaaGreatDoor
open Go.RowKit
set_option linter.unusedVariables false
set_option maxRecDepth 8000
theorem Bytes.mono {N N' : Nat} {a : Option Addr} {len : Nat} {w : World} (h : Bytes N a len w) (hN : N ≤ N') : Bytes N' a len w := fun i hi => by
  obtain ⟨blk, off, z, e, hb, hc, h0, h1⟩ := h i hi
  exact ⟨blk, off, z, e, Nat.lt_of_lt_of_le hb hN, hc, h0, h1⟩
/-- A new cursor is ready. -/
theorem rd_new (N b : Nat) (a : Option Addr) (len cap : Nat) (U : World) (hB : Bytes N a len U) (hl : len ≤ 1048576) (hN : N ≤ b) (hb : U.heap.size = b) :
    Rd N b 0 (U.alloc (.cells #[.slice a len cap, .int .i64 0, .int .u64 0] 50)) := by
  subst hb
  refine ⟨a, len, cap, 0, ⟨?_, ?_, ⟨0, ?_, by omega, by omega⟩, ?_, ?_⟩, hB.below ((Below.refl _ _).alloc (Nat.le_refl _) _), hN, hl, Nat.le_refl _⟩
  · simp [go_sem]
  · simp [go_sem]
  · simp [go_sem]
  · simp [go_sem]
  · simp [go_sem]
set_option maxHeartbeats 8000000 in
theorem outer_r (N b m : Nat) (w : World) (h : Rd N b m w) (hm : m ≤ 600000) :
    Calls Tryz.prog 22 #[.pointer (some ⟨b, 0, none⟩)] w fun e w' => ∃ v x y, e = .returned (.tuple #[v, .agg #[.int .i64 x, .int .i64 y]]) ∧ ∃ l, OwnC w.heap.size v l w' ∧ l.length ≤ 25 ∧ Rd N b (m + 230) w' ∧ Only b w w' := by
  have hb := h.lt
  have hrb : w.heap.size ≠ b := by omega
  have za0 := box0 w 0 0 26
  have zb0 := box1 w 0 0 26
  have ya0 := boxf w 0 0 26 0
  have yb0 := boxf w 0 0 26 1
  have hR0 := h.below (by go_grown : Below (b + 1) w (w.alloc (.cells #[.int .i64 0, .int .i64 0] 26)))
  have hO0 : Only b w (w.alloc (.cells #[.int .i64 0, .int .i64 0] 26)) := (Only.refl b w).alloc _
  have hs0 : w.heap.size < (w.alloc (.cells #[.int .i64 0, .int .i64 0] 26)).heap.size := by simp
  go_enter Tryz.func22, Tryz.ntmps22
  go_upto_region 1 with fail
  generalize w.alloc (.cells #[.int .i64 0, .int .i64 0] 26) = wA at za0 zb0 ya0 yb0 hR0 hO0 hs0 ⊢
  have tk : True := trivial
  go_upto_region 2 with (go_at_call 50; refine (anyHull_r N b m wA hR0 (by omega)).mono ?_; rintro e w1 ⟨v1, rfl, l, ho1, hl1, hR1, hO1⟩; obtain ⟨a1, p1, hv1⟩ := ho1.shape; subst hv1)
  have hs1 := hO1.size
  have za1 := (hO1.cell (p := ⟨w.heap.size, 0, none⟩) (show w.heap.size < wA.heap.size by omega) hrb).trans za0
  have zb1 := (hO1.cell (p := ⟨w.heap.size, 1, none⟩) (show w.heap.size < wA.heap.size by omega) hrb).trans zb0
  have ya1 := (hO1.frozen (p := ⟨w.heap.size, 0, none⟩) (show w.heap.size < wA.heap.size by omega) hrb).trans ya0
  have yb1 := (hO1.frozen (p := ⟨w.heap.size, 1, none⟩) (show w.heap.size < wA.heap.size by omega) hrb).trans yb0
  have hO01 := hO0.trans hO1
  go_wp2_with (first
    | (go_at_call 34; refine (one_r 3 (by omega) (by omega) N b _ w1 hR1 (by omega)).mono ?_; rintro e w2 ⟨v2, rfl, hR2, hO2⟩; have za2 := (hO2.cell (p := ⟨w.heap.size, 0, none⟩) (show w.heap.size < w1.heap.size by omega) hrb).trans za1; have zb2 := (hO2.cell (p := ⟨w.heap.size, 1, none⟩) (show w.heap.size < w1.heap.size by omega) hrb).trans zb1; have ya2 := (hO2.frozen (p := ⟨w.heap.size, 0, none⟩) (show w.heap.size < w1.heap.size by omega) hrb).trans ya1; have yb2 := (hO2.frozen (p := ⟨w.heap.size, 1, none⟩) (show w.heap.size < w1.heap.size by omega) hrb).trans yb1; have hO02 := hO01.trans hO2; have hs2 := hO2.size; have hb2 := hR2.lt)
    | (go_at_call 51; refine (near_r l _ _ _ N b _ w2 hR2 (by omega) rfl (by omega) (ho1.only hO2 (by omega)).at (fun g off e => by have := ho1.ge g off e; omega)).mono ?_; rintro e w3 ⟨x, y, rfl, hR3, hO3⟩; have za3 := (hO3.cell (p := ⟨w.heap.size, 0, none⟩) (show w.heap.size < w2.heap.size by omega) hrb).trans za2; have zb3 := (hO3.cell (p := ⟨w.heap.size, 1, none⟩) (show w.heap.size < w2.heap.size by omega) hrb).trans zb2; have ya3 := (hO3.frozen (p := ⟨w.heap.size, 0, none⟩) (show w.heap.size < w2.heap.size by omega) hrb).trans ya2; have yb3 := (hO3.frozen (p := ⟨w.heap.size, 1, none⟩) (show w.heap.size < w2.heap.size by omega) hrb).trans yb2; have hO03 := hO02.trans hO3; have hs3 := hO3.size)
    | (go_at_call 52; clear tk; refine (among_r (fun _ => True) w2.heap.size 5 (by omega) (by omega) N b _ _ (hR2.below (by go_grown)) (by omega) (by omega) (fun i hi => by rcases (by omega : i = 0 ∨ i = 1 ∨ i = 2 ∨ i = 3 ∨ i = 4) with rfl | rfl | rfl | rfl | rfl; exact ⟨-9, by go_simp, trivial⟩; exact ⟨9, by go_simp, trivial⟩; exact ⟨0, by go_simp, trivial⟩; exact ⟨6, by go_simp, trivial⟩; exact ⟨-6, by go_simp, trivial⟩)).mono ?_; rintro e w4 ⟨x, rfl, _, hR4, hQ4⟩; have hO4 : Only b w2 w4 := ((Only.refl b w2).alloc _).trans hQ4; have za4 := (hO4.cell (p := ⟨w.heap.size, 0, none⟩) (show w.heap.size < w2.heap.size by omega) hrb).trans za2; have zb4 := (hO4.cell (p := ⟨w.heap.size, 1, none⟩) (show w.heap.size < w2.heap.size by omega) hrb).trans zb2; have ya4 := (hO4.frozen (p := ⟨w.heap.size, 0, none⟩) (show w.heap.size < w2.heap.size by omega) hrb).trans ya2; have yb4 := (hO4.frozen (p := ⟨w.heap.size, 1, none⟩) (show w.heap.size < w2.heap.size by omega) hrb).trans yb2; have hO04 := hO02.trans hO4; have hs4 := hO4.size; have hb4 := hR4.lt)
    | (go_at_call 52; refine (among_r (fun _ => True) w4.heap.size 5 (by omega) (by omega) N b _ _ (hR4.below (by go_grown)) (by omega) (by omega) (fun i hi => by rcases (by omega : i = 0 ∨ i = 1 ∨ i = 2 ∨ i = 3 ∨ i = 4) with rfl | rfl | rfl | rfl | rfl; exact ⟨-9, by go_simp, trivial⟩; exact ⟨9, by go_simp, trivial⟩; exact ⟨0, by go_simp, trivial⟩; exact ⟨5, by go_simp, trivial⟩; exact ⟨-5, by go_simp, trivial⟩)).mono ?_; rintro e w5 ⟨y, rfl, _, hR5, hQ5⟩; have hO5 : Only b w4 w5 := ((Only.refl b w4).alloc _).trans hQ5; have za5 := (hO5.cell (p := ⟨w.heap.size, 0, none⟩) (show w.heap.size < w4.heap.size by omega) hrb).trans za4; have zb5 := (hO5.cell (p := ⟨w.heap.size, 1, none⟩) (show w.heap.size < w4.heap.size by omega) hrb).trans zb4; have ya5 := (hO5.frozen (p := ⟨w.heap.size, 0, none⟩) (show w.heap.size < w4.heap.size by omega) hrb).trans ya4; have yb5 := (hO5.frozen (p := ⟨w.heap.size, 1, none⟩) (show w.heap.size < w4.heap.size by omega) hrb).trans yb4; have hO05 := hO04.trans hO5; have hs5 := hO5.size))
  · refine bodyPost_ret (v := .tuple #[.slice a1 l.length p1, .agg #[.int .i64 x, .int .i64 y]]) (by simp [results, Tryz.results22, go_sem, za3, zb3]) rfl ⟨_, _, _, rfl, l, ?_, hl1, (hR3.below (by go_grown)).mono (by omega), (by repeat' (first | (with_reducible exact hO03) | (with_reducible refine Only.alloc ?_ _) | (with_reducible refine Only.setCell ?_ (Or.inr ?_) _) | (with_reducible refine Only.drew ?_) | exact Nat.le_refl _ | omega))⟩
    exact (((ho1.only (hO2.trans hO3) (by omega)).mono (show w.heap.size + 1 ≤ wA.heap.size by omega)).only (((Only.refl w.heap.size _).setCell (.inl rfl) _).setCell (.inl rfl) _) (Nat.lt_succ_self _)).mono (Nat.le_succ _)
  · refine bodyPost_ret (v := .tuple #[.slice a1 l.length p1, .agg #[.int .i64 x, .int .i64 y]]) (by simp [results, Tryz.results22, go_sem, za5, zb5]) rfl ⟨_, _, _, rfl, l, ?_, hl1, (hR5.below (by go_grown)).mono (by omega), (by repeat' (first | (with_reducible exact hO05) | (with_reducible refine Only.alloc ?_ _) | (with_reducible refine Only.setCell ?_ (Or.inr ?_) _) | (with_reducible refine Only.drew ?_) | exact Nat.le_refl _ | omega))⟩
    exact (((ho1.only (hO2.trans (hO4.trans hO5)) (by omega)).mono (show w.heap.size + 1 ≤ wA.heap.size by omega)).only (((Only.refl w.heap.size _).setCell (.inl rfl) _).setCell (.inl rfl) _) (Nat.lt_succ_self _)).mono (Nat.le_succ _)
set_option maxHeartbeats 4000000 in
theorem drawTan_c (a : Option Addr) (len cap : Nat) (w : World) (hB : Bytes w.heap.size a len w) (hl : len ≤ 1048576) :
    Calls Tryz.prog 5 #[.slice a len cap] w fun e w' => ∃ v x y, e = .returned (.tuple #[v, .agg #[.int .i64 x, .int .i64 y]]) ∧ ∃ l, OwnC w.heap.size v l w' ∧ l.length ≤ 25 ∧ Below w.heap.size w w' := by
  have hR0 : Rd w.heap.size (w.heap.size + 1) 0 ((w.alloc (.cells #[.int .i64 0, .int .i64 0] 26)).alloc (.cells #[.slice a len cap, .int .i64 0, .int .u64 0] 50)) := rd_new w.heap.size (w.heap.size + 1) a len cap (w.alloc (.cells #[.int .i64 0, .int .i64 0] 26)) (hB.below (show Below w.heap.size w (w.alloc (.cells #[.int .i64 0, .int .i64 0] 26)) by go_grown)) hl (by omega) (by simp)
  clear hB
  have hW : Below w.heap.size w ((w.alloc (.cells #[.int .i64 0, .int .i64 0] 26)).alloc (.cells #[.slice a len cap, .int .i64 0, .int .u64 0] 50)) := by go_grown
  have hsB : ((w.alloc (.cells #[.int .i64 0, .int .i64 0] 26)).alloc (.cells #[.slice a len cap, .int .i64 0, .int .u64 0] 50)).heap.size = w.heap.size + 1 + 1 := by simp
  have za0 : ((w.alloc (.cells #[.int .i64 0, .int .i64 0] 26)).alloc (.cells #[.slice a len cap, .int .i64 0, .int .u64 0] 50)).cell? ⟨w.heap.size, 0, none⟩ = some (.int .i64 0) := by go_simp
  have zb0 : ((w.alloc (.cells #[.int .i64 0, .int .i64 0] 26)).alloc (.cells #[.slice a len cap, .int .i64 0, .int .u64 0] 50)).cell? ⟨w.heap.size, 1, none⟩ = some (.int .i64 0) := by go_simp
  have ya0 : ((w.alloc (.cells #[.int .i64 0, .int .i64 0] 26)).alloc (.cells #[.slice a len cap, .int .i64 0, .int .u64 0] 50)).frozen? ⟨w.heap.size, 0, none⟩ = false := by go_simp
  have yb0 : ((w.alloc (.cells #[.int .i64 0, .int .i64 0] 26)).alloc (.cells #[.slice a len cap, .int .i64 0, .int .u64 0] 50)).frozen? ⟨w.heap.size, 1, none⟩ = false := by go_simp
  go_enter Tryz.func5, Tryz.ntmps5
  go_upto_region 2 with fail
  generalize ((w.alloc (.cells #[.int .i64 0, .int .i64 0] 26)).alloc (.cells #[.slice a len cap, .int .i64 0, .int .u64 0] 50)) = wB at hR0 hW hsB za0 zb0 ya0 yb0 ⊢
  generalize hbe : w.heap.size + 1 = b at hR0 hsB ⊢
  have hnb : w.heap.size ≠ b := by omega
  go_wp2_with (go_at_call 22; refine (outer_r w.heap.size b 0 wB hR0 (by omega)).mono ?_; rintro e w2 ⟨v1, x, y, rfl, l, ho1, hl1, hR2, hO12⟩; obtain ⟨a1, p1, hv1⟩ := ho1.shape; subst hv1; have k0 := (hO12.cell (p := ⟨w.heap.size, 0, none⟩) (show w.heap.size < wB.heap.size by omega) hnb).trans za0; have k1 := (hO12.cell (p := ⟨w.heap.size, 1, none⟩) (show w.heap.size < wB.heap.size by omega) hnb).trans zb0; have f0 := (hO12.frozen (p := ⟨w.heap.size, 0, none⟩) (show w.heap.size < wB.heap.size by omega) hnb).trans ya0; have f1 := (hO12.frozen (p := ⟨w.heap.size, 1, none⟩) (show w.heap.size < wB.heap.size by omega) hnb).trans yb0)
  refine bodyPost_ret (v := .tuple #[.slice a1 l.length p1, .agg #[.int .i64 x, .int .i64 y]]) (by simp [results, Tryz.results5, go_sem, k0, k1]) rfl ⟨_, _, _, rfl, l, ?_, hl1, ?_⟩
  · exact ((ho1.mono (show w.heap.size + 1 ≤ wB.heap.size by omega)).only (((Only.refl w.heap.size _).setCell (.inl rfl) _).setCell (.inl rfl) _) (Nat.lt_succ_self _)).mono (Nat.le_succ _)
  · exact hW.trans (((hO12.below (by omega) (by omega) : Below w.heap.size wB w2).setCell (Nat.le_refl _) _).setCell (Nat.le_refl _) _)
set_option maxHeartbeats 4000000 in
theorem drawSees_c (a : Option Addr) (len cap : Nat) (w : World) (hB : Bytes w.heap.size a len w) (hl : len ≤ 1048576) :
    Calls Tryz.prog 14 #[.slice a len cap] w fun e w' => ∃ v x y, e = .returned (.tuple #[v, .agg #[.int .i64 x, .int .i64 y]]) ∧ ∃ l, OwnC w.heap.size v l w' ∧ l.length ≤ 25 ∧ Below w.heap.size w w' := by
  have HB := hid (((hB.below (show Below w.heap.size w (w.alloc (.cells #[.int .i64 0, .int .i64 0] 26)) by go_grown)).mono (show w.heap.size ≤ (w.alloc (.cells #[.int .i64 0, .int .i64 0] 26)).heap.size by simp)))
  clear hB
  have hW : Below w.heap.size w (w.alloc (.cells #[.int .i64 0, .int .i64 0] 26)) := by go_grown
  have za0 : (w.alloc (.cells #[.int .i64 0, .int .i64 0] 26)).cell? ⟨w.heap.size, 0, none⟩ = some (.int .i64 0) := by go_simp
  have zb0 : (w.alloc (.cells #[.int .i64 0, .int .i64 0] 26)).cell? ⟨w.heap.size, 1, none⟩ = some (.int .i64 0) := by go_simp
  have ya0 : (w.alloc (.cells #[.int .i64 0, .int .i64 0] 26)).frozen? ⟨w.heap.size, 0, none⟩ = false := by go_simp
  have yb0 : (w.alloc (.cells #[.int .i64 0, .int .i64 0] 26)).frozen? ⟨w.heap.size, 1, none⟩ = false := by go_simp
  have hsz : w.heap.size + 1 ≤ (w.alloc (.cells #[.int .i64 0, .int .i64 0] 26)).heap.size := by simp
  go_enter Tryz.func14, Tryz.ntmps14
  go_upto_region 1 with fail
  generalize w.alloc (.cells #[.int .i64 0, .int .i64 0] 26) = wB at HB hW za0 zb0 ya0 yb0 hsz ⊢
  go_wp2_with (go_at_call 5; refine (drawTan_c _ _ _ wB HB.out hl).mono ?_; rintro e w1 ⟨v1, x, y, rfl, l, ho1, hl1, hb1⟩; obtain ⟨a1, p1, hv1⟩ := ho1.shape; subst hv1; have k0 := cell_later hb1 za0; have k1 := cell_later hb1 zb0; have f0 := (hb1.frozen (p := ⟨w.heap.size, 0, none⟩) (show w.heap.size < wB.heap.size by omega)).trans ya0; have f1 := (hb1.frozen (p := ⟨w.heap.size, 1, none⟩) (show w.heap.size < wB.heap.size by omega)).trans yb0)
  refine bodyPost_ret (v := .tuple #[.slice a1 l.length p1, .agg #[.int .i64 x, .int .i64 y]]) (by simp [results, Tryz.results14, go_sem, k0, k1]) rfl ⟨_, _, _, rfl, l, ?_, hl1, ?_⟩
  · exact ((ho1.mono (show w.heap.size + 1 ≤ wB.heap.size by omega)).only (((Only.refl w.heap.size _).setCell (.inl rfl) _).setCell (.inl rfl) _) (Nat.lt_succ_self _)).mono (Nat.le_succ _)
  · exact ((grew hW hb1).setCell (Nat.le_refl _) _).setCell (Nat.le_refl _) _
set_option maxHeartbeats 8000000 in
theorem drawIsT_c (a : Option Addr) (len cap : Nat) (w : World) (hB : Bytes w.heap.size a len w) (hl : len ≤ 1048576) :
    Calls Tryz.prog 11 #[.slice a len cap] w fun e w' => ∃ v x y p q, e = .returned (.tuple #[v, .agg #[.int .i64 x, .int .i64 y], .agg #[.int .i64 p, .int .i64 q]]) ∧ ∃ l, OwnC w.heap.size v l w' ∧ l.length ≤ 25 ∧ Below w.heap.size w w' := by
  have hR0 : Rd w.heap.size (w.heap.size + 1 + 1) 0 (((w.alloc (.cells #[.int .i64 0, .int .i64 0] 26)).alloc (.cells #[.int .i64 0, .int .i64 0] 26)).alloc (.cells #[.slice a len cap, .int .i64 0, .int .u64 0] 50)) := rd_new w.heap.size (w.heap.size + 1 + 1) a len cap ((w.alloc (.cells #[.int .i64 0, .int .i64 0] 26)).alloc (.cells #[.int .i64 0, .int .i64 0] 26)) (hB.below (show Below w.heap.size w ((w.alloc (.cells #[.int .i64 0, .int .i64 0] 26)).alloc (.cells #[.int .i64 0, .int .i64 0] 26)) by go_grown)) hl (by omega) (by simp)
  clear hB
  have hW : Below w.heap.size w (((w.alloc (.cells #[.int .i64 0, .int .i64 0] 26)).alloc (.cells #[.int .i64 0, .int .i64 0] 26)).alloc (.cells #[.slice a len cap, .int .i64 0, .int .u64 0] 50)) := by go_grown
  have hsB : (((w.alloc (.cells #[.int .i64 0, .int .i64 0] 26)).alloc (.cells #[.int .i64 0, .int .i64 0] 26)).alloc (.cells #[.slice a len cap, .int .i64 0, .int .u64 0] 50)).heap.size = w.heap.size + 1 + 1 + 1 := by simp
  have za0 : (((w.alloc (.cells #[.int .i64 0, .int .i64 0] 26)).alloc (.cells #[.int .i64 0, .int .i64 0] 26)).alloc (.cells #[.slice a len cap, .int .i64 0, .int .u64 0] 50)).cell? ⟨w.heap.size, 0, none⟩ = some (.int .i64 0) := by go_simp
  have zb0 : (((w.alloc (.cells #[.int .i64 0, .int .i64 0] 26)).alloc (.cells #[.int .i64 0, .int .i64 0] 26)).alloc (.cells #[.slice a len cap, .int .i64 0, .int .u64 0] 50)).cell? ⟨w.heap.size, 1, none⟩ = some (.int .i64 0) := by go_simp
  have ya0 : (((w.alloc (.cells #[.int .i64 0, .int .i64 0] 26)).alloc (.cells #[.int .i64 0, .int .i64 0] 26)).alloc (.cells #[.slice a len cap, .int .i64 0, .int .u64 0] 50)).frozen? ⟨w.heap.size, 0, none⟩ = false := by go_simp
  have yb0 : (((w.alloc (.cells #[.int .i64 0, .int .i64 0] 26)).alloc (.cells #[.int .i64 0, .int .i64 0] 26)).alloc (.cells #[.slice a len cap, .int .i64 0, .int .u64 0] 50)).frozen? ⟨w.heap.size, 1, none⟩ = false := by go_simp
  have za1 : (((w.alloc (.cells #[.int .i64 0, .int .i64 0] 26)).alloc (.cells #[.int .i64 0, .int .i64 0] 26)).alloc (.cells #[.slice a len cap, .int .i64 0, .int .u64 0] 50)).cell? ⟨w.heap.size + 1, 0, none⟩ = some (.int .i64 0) := by go_simp
  have zb1 : (((w.alloc (.cells #[.int .i64 0, .int .i64 0] 26)).alloc (.cells #[.int .i64 0, .int .i64 0] 26)).alloc (.cells #[.slice a len cap, .int .i64 0, .int .u64 0] 50)).cell? ⟨w.heap.size + 1, 1, none⟩ = some (.int .i64 0) := by go_simp
  have ya1 : (((w.alloc (.cells #[.int .i64 0, .int .i64 0] 26)).alloc (.cells #[.int .i64 0, .int .i64 0] 26)).alloc (.cells #[.slice a len cap, .int .i64 0, .int .u64 0] 50)).frozen? ⟨w.heap.size + 1, 0, none⟩ = false := by go_simp
  have yb1 : (((w.alloc (.cells #[.int .i64 0, .int .i64 0] 26)).alloc (.cells #[.int .i64 0, .int .i64 0] 26)).alloc (.cells #[.slice a len cap, .int .i64 0, .int .u64 0] 50)).frozen? ⟨w.heap.size + 1, 1, none⟩ = false := by go_simp
  go_enter Tryz.func11, Tryz.ntmps11
  go_upto_region 2 with fail
  generalize (((w.alloc (.cells #[.int .i64 0, .int .i64 0] 26)).alloc (.cells #[.int .i64 0, .int .i64 0] 26)).alloc (.cells #[.slice a len cap, .int .i64 0, .int .u64 0] 50)) = wB at hR0 hW hsB za0 zb0 ya0 yb0 za1 zb1 ya1 yb1 ⊢
  generalize hbe : w.heap.size + 1 + 1 = b at hR0 hsB ⊢
  have hn0 : w.heap.size ≠ b := by omega
  have hn1 : w.heap.size + 1 ≠ b := by omega
  go_upto_region 3 with (go_at_call 22; refine (outer_r w.heap.size b 0 wB hR0 (by omega)).mono ?_; rintro e w2 ⟨v1, qx, qy, rfl, l, ho1, hl1, hR2, hO2⟩; obtain ⟨a1, p1, hv1⟩ := ho1.shape; subst hv1)
  have hs2 := hO2.size
  have zar2 := (hO2.cell (p := ⟨w.heap.size, 0, none⟩) (show w.heap.size < wB.heap.size by omega) hn0).trans za0
  have zbr2 := (hO2.cell (p := ⟨w.heap.size, 1, none⟩) (show w.heap.size < wB.heap.size by omega) hn0).trans zb0
  have yar2 := (hO2.frozen (p := ⟨w.heap.size, 0, none⟩) (show w.heap.size < wB.heap.size by omega) hn0).trans ya0
  have ybr2 := (hO2.frozen (p := ⟨w.heap.size, 1, none⟩) (show w.heap.size < wB.heap.size by omega) hn0).trans yb0
  have zas2 := (hO2.cell (p := ⟨w.heap.size + 1, 0, none⟩) (show w.heap.size + 1 < wB.heap.size by omega) hn1).trans za1
  have zbs2 := (hO2.cell (p := ⟨w.heap.size + 1, 1, none⟩) (show w.heap.size + 1 < wB.heap.size by omega) hn1).trans zb1
  have yas2 := (hO2.frozen (p := ⟨w.heap.size + 1, 0, none⟩) (show w.heap.size + 1 < wB.heap.size by omega) hn1).trans ya1
  have ybs2 := (hO2.frozen (p := ⟨w.heap.size + 1, 1, none⟩) (show w.heap.size + 1 < wB.heap.size by omega) hn1).trans yb1
  have hb7 : Below w2.heap.size w2 (w2.alloc (.cells #[.int .i64 qx, .int .i64 qy] 26)) := by go_grown
  have ca3 := box0 w2 qx qy 26
  have cb3 := box1 w2 qx qy 26
  have hO23 : Only b w2 (w2.alloc (.cells #[.int .i64 qx, .int .i64 qy] 26)) := Only.ofBelow hb7
  have hs3 : w2.heap.size < (w2.alloc (.cells #[.int .i64 qx, .int .i64 qy] 26)).heap.size := by simp
  have hn7 : w2.heap.size ≠ b := by have := hR2.lt; omega
  have zar3 := (hO23.cell (p := ⟨w.heap.size, 0, none⟩) (show w.heap.size < w2.heap.size by omega) hn0).trans zar2
  have zbr3 := (hO23.cell (p := ⟨w.heap.size, 1, none⟩) (show w.heap.size < w2.heap.size by omega) hn0).trans zbr2
  have yar3 := (hO23.frozen (p := ⟨w.heap.size, 0, none⟩) (show w.heap.size < w2.heap.size by omega) hn0).trans yar2
  have ybr3 := (hO23.frozen (p := ⟨w.heap.size, 1, none⟩) (show w.heap.size < w2.heap.size by omega) hn0).trans ybr2
  have zas3 := (hO23.cell (p := ⟨w.heap.size + 1, 0, none⟩) (show w.heap.size + 1 < w2.heap.size by omega) hn1).trans zas2
  have zbs3 := (hO23.cell (p := ⟨w.heap.size + 1, 1, none⟩) (show w.heap.size + 1 < w2.heap.size by omega) hn1).trans zbs2
  have yas3 := (hO23.frozen (p := ⟨w.heap.size + 1, 0, none⟩) (show w.heap.size + 1 < w2.heap.size by omega) hn1).trans yas2
  have ybs3 := (hO23.frozen (p := ⟨w.heap.size + 1, 1, none⟩) (show w.heap.size + 1 < w2.heap.size by omega) hn1).trans ybs2
  have hR3 := hR2.below (show Below (b + 1) w2 (w2.alloc (.cells #[.int .i64 qx, .int .i64 qy] 26)) from hb7.mono (by have := hR2.lt; omega))
  have hO03 := hO2.trans hO23
  have HC3 := hO23
  have hge7 : wB.heap.size ≤ w2.heap.size := hs2
  generalize hB7 : w2.heap.size = B7 at ca3 cb3 hs3 hn7 hge7 ⊢
  generalize w2.alloc (.cells #[.int .i64 qx, .int .i64 qy] 26) = w3 at ca3 cb3 hO23 HC3 hs3 zar3 zbr3 yar3 ybr3 zas3 zbs3 yas3 ybs3 hR3 hO03 hb7 ⊢
  have hs3' := hO23.size
  clear hb7
  by_cases l0 : 0 < l.length
  · have hd : (0 : Int) < (l.length : Int) := by omega
    have lp : 1 ≤ (l.length : Int) := by omega
    have l2 : (l.length : Int) ≤ 200 := by omega
    obtain ⟨g, off, e1, hg1, _, _⟩ := ho1.at 0 l0
    subst e1
    have hgge := ho1.ge g off rfl
    have hgb : g ≠ b := by omega
    have HC : Hid (∀ i, i < l.length → ∀ u, Only b w2 u → u.cell? ⟨g, off + i * 2, none⟩ = some (.int .i64 (px l i)) ∧ u.cell? ⟨g, off + i * 2 + 1, none⟩ = some (.int .i64 (py l i))) := fun i hi u hu => by
      obtain ⟨g', off', e, _, c0, c1⟩ := ho1.at i hi
      obtain ⟨rfl, rfl⟩ : g = g' ∧ off = off' := by simpa using e
      exact ⟨(hu.cell (p := ⟨g, off + i * 2, none⟩) hg1 hgb).trans c0, (hu.cell (p := ⟨g, off + i * 2 + 1, none⟩) hg1 hgb).trans c1⟩
    go_upto_region 4 with (go_at_call 34; refine (one_r 12 (by omega) (by omega) w.heap.size b _ w3 hR3 (by omega)).mono ?_; rintro e w4 ⟨v4, rfl, hR4, hO4⟩; have hs4 := hO4.size; have zar4 := (hO4.cell (p := ⟨w.heap.size, 0, none⟩) (show w.heap.size < w3.heap.size by omega) hn0).trans zar3; have zbr4 := (hO4.cell (p := ⟨w.heap.size, 1, none⟩) (show w.heap.size < w3.heap.size by omega) hn0).trans zbr3; have yar4 := (hO4.frozen (p := ⟨w.heap.size, 0, none⟩) (show w.heap.size < w3.heap.size by omega) hn0).trans yar3; have ybr4 := (hO4.frozen (p := ⟨w.heap.size, 1, none⟩) (show w.heap.size < w3.heap.size by omega) hn0).trans ybr3; have zas4 := (hO4.cell (p := ⟨w.heap.size + 1, 0, none⟩) (show w.heap.size + 1 < w3.heap.size by omega) hn1).trans zas3; have zbs4 := (hO4.cell (p := ⟨w.heap.size + 1, 1, none⟩) (show w.heap.size + 1 < w3.heap.size by omega) hn1).trans zbs3; have yas4 := (hO4.frozen (p := ⟨w.heap.size + 1, 0, none⟩) (show w.heap.size + 1 < w3.heap.size by omega) hn1).trans yas3; have ybs4 := (hO4.frozen (p := ⟨w.heap.size + 1, 1, none⟩) (show w.heap.size + 1 < w3.heap.size by omega) hn1).trans ybs3; have ca4 := (hO4.cell (p := ⟨B7, 0, none⟩) (show B7 < w3.heap.size by omega) hn7).trans ca3; have cb4 := (hO4.cell (p := ⟨B7, 1, none⟩) (show B7 < w3.heap.size by omega) hn7).trans cb3; have hO04 := hO03.trans hO4; have HC4 := HC3.trans hO4)
    · refine wp_region_held_drew (S := (fun z => z.cell? ⟨B7, 0, none⟩ = some (.int .i64 qx) ∧ z.cell? ⟨B7, 1, none⟩ = some (.int .i64 qy) ∧ ∀ i, i < l.length → z.cell? ⟨g, off + i * 2, none⟩ = some (.int .i64 (px l i)) ∧ z.cell? ⟨g, off + i * 2 + 1, none⟩ = some (.int .i64 (py l i)))) (by kernel_rfl) ?_ (fun hHeld => ?_)
      · exact ⟨(Only.refl b w4).drew.cell (p := ⟨B7, 0, none⟩) (show B7 < w4.heap.size by omega) hn7 |>.trans ca4, (Only.refl b w4).drew.cell (p := ⟨B7, 1, none⟩) (show B7 < w4.heap.size by omega) hn7 |>.trans cb4, fun i hi => HC.out i hi _ (HC4.trans (Only.refl b w4).drew)⟩
      have hOdr : Only b w4 w4.drew := (Only.refl b w4).drew
      have hsd := hOdr.size
      have zard := (hOdr.cell (p := ⟨w.heap.size, 0, none⟩) (show w.heap.size < w4.heap.size by omega) hn0).trans zar4
      have zbrd := (hOdr.cell (p := ⟨w.heap.size, 1, none⟩) (show w.heap.size < w4.heap.size by omega) hn0).trans zbr4
      have yard := (hOdr.frozen (p := ⟨w.heap.size, 0, none⟩) (show w.heap.size < w4.heap.size by omega) hn0).trans yar4
      have ybrd := (hOdr.frozen (p := ⟨w.heap.size, 1, none⟩) (show w.heap.size < w4.heap.size by omega) hn0).trans ybr4
      have zasd := (hOdr.cell (p := ⟨w.heap.size + 1, 0, none⟩) (show w.heap.size + 1 < w4.heap.size by omega) hn1).trans zas4
      have zbsd := (hOdr.cell (p := ⟨w.heap.size + 1, 1, none⟩) (show w.heap.size + 1 < w4.heap.size by omega) hn1).trans zbs4
      have yasd := (hOdr.frozen (p := ⟨w.heap.size + 1, 0, none⟩) (show w.heap.size + 1 < w4.heap.size by omega) hn1).trans yas4
      have ybsd := (hOdr.frozen (p := ⟨w.heap.size + 1, 1, none⟩) (show w.heap.size + 1 < w4.heap.size by omega) hn1).trans ybs4
      have cad := (hOdr.cell (p := ⟨B7, 0, none⟩) (show B7 < w4.heap.size by omega) hn7).trans ca4
      have cbd := (hOdr.cell (p := ⟨B7, 1, none⟩) (show B7 < w4.heap.size by omega) hn7).trans cb4
      have hRd := hR4.below (show Below (b + 1) w4 w4.drew by go_grown)
      have hOd := hO04.trans hOdr
      have HCd := HC4.trans hOdr
      generalize w4.drew = wd at hOdr hsd zard zbrd yard ybrd zasd zbsd yasd ybsd cad cbd hRd hOd HCd hHeld ⊢
      refine wpAnyH_take (i := 0) (oi := { dst := some 24, op := Op.move (Operand.tmp 6), type := 24, pos := "l5_far.go:148", after := #[], guard := none }) (v := ?v1x0) rfl (by kernel_rfl) (by kernel_rfl) (by kernel_rfl) (fun _ _ _ h => h) (Or.inl ⟨by rfl, ?hy1x0⟩) (by with_reducible assumption) ?rest1x0
      case hy1x0 => (intro w hSw; (try dsimp only at hSw); go_simp; try with_reducible rfl)
      case' rest1x0 => (try simp only [Act.put, List.setIfInBounds_toArray, List.set_cons_zero, List.set_cons_succ])
      refine wpAnyH_take (i := 1) (oi := { dst := some 25, op := Op.load 26 (Operand.tmp 7), type := 26, pos := "l5_far.go:148", after := #[{ on := 9, ground := Ground.gcOnly Departure.lateStores }], guard := none }) (v := ?v1x1) rfl (by kernel_rfl) (by kernel_rfl) (by kernel_rfl) (fun _ _ _ h => h) (Or.inl ⟨by rfl, ?hy1x1⟩) (by with_reducible assumption) ?rest1x1
      case hy1x1 => (intro w hSw; (try dsimp only at hSw); go_simp; try with_reducible rfl)
      case' rest1x1 => (try simp only [Act.put, List.setIfInBounds_toArray, List.set_cons_zero, List.set_cons_succ])
      refine wpAnyH_take (i := 2) (oi := { dst := some 26, op := Op.move (Operand.tmp 6), type := 24, pos := "l5_far.go:148", after := #[{ on := 10, ground := Ground.gcOnly Departure.lateStores }], guard := none }) (v := ?v1x2) rfl (by kernel_rfl) (by kernel_rfl) (by kernel_rfl) (fun _ _ _ h => h) (Or.inl ⟨by rfl, ?hy1x2⟩) (by with_reducible assumption) ?rest1x2
      case hy1x2 => (intro w hSw; (try dsimp only at hSw); go_simp; try with_reducible rfl)
      case' rest1x2 => (try simp only [Act.put, List.setIfInBounds_toArray, List.set_cons_zero, List.set_cons_succ])
      refine wpAnyH_take (i := 3) (oi := { dst := some 27, op := Op.move (Operand.tmp 5), type := 47, pos := "l5_far.go:148", after := #[], guard := none }) (v := ?v1x3) rfl (by kernel_rfl) (by kernel_rfl) (by kernel_rfl) (fun _ _ _ h => h) (Or.inl ⟨by rfl, ?hy1x3⟩) (by with_reducible assumption) ?rest1x3
      case hy1x3 => (intro w hSw; (try dsimp only at hSw); go_simp; try with_reducible rfl)
      case' rest1x3 => (try simp only [Act.put, List.setIfInBounds_toArray, List.set_cons_zero, List.set_cons_succ])
      refine wpAnyH_take (i := 4) (oi := { dst := some 28, op := Op.move (Operand.tmp 6), type := 24, pos := "l5_far.go:148", after := #[], guard := none }) (v := ?v1x4) rfl (by kernel_rfl) (by kernel_rfl) (by kernel_rfl) (fun _ _ _ h => h) (Or.inl ⟨by rfl, ?hy1x4⟩) (by with_reducible assumption) ?rest1x4
      case hy1x4 => (intro w hSw; (try dsimp only at hSw); go_simp; try with_reducible rfl)
      case' rest1x4 => (try simp only [Act.put, List.setIfInBounds_toArray, List.set_cons_zero, List.set_cons_succ])
      refine wpAnyH_take (i := 5) (oi := { dst := some 29, op := Op.call { callee := Callee.builtin Builtin.len, args := #[Operand.tmp 28], argTypes := #[24] }, type := 3, pos := "l5_far.go:148", after := #[{ on := 4, ground := Ground.data }], guard := none }) (v := ?v1x5) rfl (by kernel_rfl) (by kernel_rfl) (by kernel_rfl) (fun _ _ _ h => h) (Or.inl ⟨by rfl, ?hy1x5⟩) (by with_reducible assumption) ?rest1x5
      case hy1x5 => (intro w hSw; (try dsimp only at hSw); go_simp; try with_reducible rfl)
      case' rest1x5 => (try simp only [Act.put, List.setIfInBounds_toArray, List.set_cons_zero, List.set_cons_succ])
      refine wpAnyH_ready (rs := [6]) (by kernel_rfl) (by simp) ?_
      refine AllReadyH.cons (o := { dst := some 30, op := Op.call { callee := Callee.value (Operand.func 35), args := #[Operand.tmp 27, Operand.tmp 29], argTypes := #[47, 3] }, type := 3, pos := "l5_far.go:148", after := #[{ on := 3, ground := Ground.data }, { on := 5, ground := Ground.data }], guard := none }) rfl (fun K hK => ?_) AllReadyH.nil
      go_simp
      refine (pick_h (l.length : Int) lp l2 w.heap.size b _ wd hRd (by omega)).mono ?_
      rintro e w5 ⟨xi, rfl, hj0, hj1, hR5, hO5⟩
      go_wp2_with fail
      refine hK.out _ _ ?_ (fun hHeld => ?_)
      · exact ⟨(hO5.cell (p := ⟨B7, 0, none⟩) (show B7 < wd.heap.size by omega) hn7).trans hHeld.1, (hO5.cell (p := ⟨B7, 1, none⟩) (show B7 < wd.heap.size by omega) hn7).trans hHeld.2.1, fun i hi => HC.out i hi w5 (HCd.trans hO5)⟩
      clear hK K
      try simp only [Act.put, List.setIfInBounds_toArray, List.set_cons_zero, List.set_cons_succ]
      obtain ⟨i, rfl⟩ := Int.eq_ofNat_of_zero_le hj0
      have hil : i < l.length := (by omega)
      have hs5 := hO5.size
      have zar5 := (hO5.cell (p := ⟨w.heap.size, 0, none⟩) (show w.heap.size < wd.heap.size by omega) hn0).trans zard
      have zbr5 := (hO5.cell (p := ⟨w.heap.size, 1, none⟩) (show w.heap.size < wd.heap.size by omega) hn0).trans zbrd
      have yar5 := (hO5.frozen (p := ⟨w.heap.size, 0, none⟩) (show w.heap.size < wd.heap.size by omega) hn0).trans yard
      have ybr5 := (hO5.frozen (p := ⟨w.heap.size, 1, none⟩) (show w.heap.size < wd.heap.size by omega) hn0).trans ybrd
      have zas5 := (hO5.cell (p := ⟨w.heap.size + 1, 0, none⟩) (show w.heap.size + 1 < wd.heap.size by omega) hn1).trans zasd
      have zbs5 := (hO5.cell (p := ⟨w.heap.size + 1, 1, none⟩) (show w.heap.size + 1 < wd.heap.size by omega) hn1).trans zbsd
      have yas5 := (hO5.frozen (p := ⟨w.heap.size + 1, 0, none⟩) (show w.heap.size + 1 < wd.heap.size by omega) hn1).trans yasd
      have ybs5 := (hO5.frozen (p := ⟨w.heap.size + 1, 1, none⟩) (show w.heap.size + 1 < wd.heap.size by omega) hn1).trans ybsd
      have ca5 := (hO5.cell (p := ⟨B7, 0, none⟩) (show B7 < wd.heap.size by omega) hn7).trans cad
      have cb5 := (hO5.cell (p := ⟨B7, 1, none⟩) (show B7 < wd.heap.size by omega) hn7).trans cbd
      have hOd5 := hOd.trans hO5
      refine wpAnyH_take (i := 7) (oi := { dst := some 31, op := Op.indexAddr 24 (Operand.tmp 26) (Operand.tmp 30), type := 0, pos := "l5_far.go:148", after := #[{ on := 2, ground := Ground.data }, { on := 6, ground := Ground.data }, { on := 10, ground := Ground.gcOnly Departure.lateStores }], guard := none }) (v := ?v1x7) rfl (by kernel_rfl) (by kernel_rfl) (by kernel_rfl) (fun _ _ _ h => h) (Or.inl ⟨by rfl, ?hy1x7⟩) (by with_reducible assumption) ?rest1x7
      case hy1x7 => (intro w hSw; (try dsimp only at hSw); go_simp; try with_reducible rfl)
      case' rest1x7 => (try simp only [Act.put, List.setIfInBounds_toArray, List.set_cons_zero, List.set_cons_succ])
      refine wpAnyH_take (i := 8) (oi := { dst := some 32, op := Op.load 26 (Operand.tmp 31), type := 26, pos := "l5_far.go:148", after := #[{ on := 7, ground := Ground.data }, { on := 10, ground := Ground.gcOnly Departure.lateStores }], guard := none }) (v := ?v1x8) rfl (by kernel_rfl) (by kernel_rfl) (by kernel_rfl) (fun _ _ _ h => h) (Or.inl ⟨by rfl, ?hy1x8⟩) (by with_reducible assumption) ?rest1x8
      case hy1x8 => (intro w hSw; (try dsimp only at hSw); have z0 := (hSw.2.2 i hil).1; have z1 := (hSw.2.2 i hil).2; go_simp; try with_reducible rfl)
      case' rest1x8 => (try simp only [Act.put, List.setIfInBounds_toArray, List.set_cons_zero, List.set_cons_succ])
      refine wpAnyH_take (i := 9) (oi := { dst := some 2, op := Op.assign (Operand.tmp 24), type := 24, pos := "l5_far.go:148", after := #[{ on := 0, ground := Ground.data }, { on := 6, ground := Ground.chain }, { on := 0, ground := Ground.phase }, { on := 1, ground := Ground.textOnly Departure.lateStores }, { on := 2, ground := Ground.textOnly Departure.lateStores }, { on := 3, ground := Ground.textOnly Departure.lateStores }, { on := 4, ground := Ground.textOnly Departure.lateStores }, { on := 5, ground := Ground.textOnly Departure.lateStoresUnsure }, { on := 6, ground := Ground.textOnly Departure.lateStoresUnsure }, { on := 7, ground := Ground.textOnly Departure.lateStores }, { on := 8, ground := Ground.textOnly Departure.lateStores }], guard := none }) (v := ?v1x9) rfl (by kernel_rfl) (by kernel_rfl) (by kernel_rfl) (fun _ _ _ h => h) (Or.inl ⟨by rfl, ?hy1x9⟩) (by with_reducible assumption) ?rest1x9
      case hy1x9 => (intro w hSw; (try dsimp only at hSw); go_simp; try with_reducible rfl)
      case' rest1x9 => (try simp only [Act.put, List.setIfInBounds_toArray, List.set_cons_zero, List.set_cons_succ])
      refine wpAnyH_ready (rs := [10]) (by kernel_rfl) (by simp) ?_
      refine AllReadyH.cons (o := { dst := none, op := Op.store 26 (Operand.tmp 3) (Operand.tmp 25), type := 0, pos := "l5_far.go:148", after := #[{ on := 1, ground := Ground.data }, { on := 9, ground := Ground.chain }, { on := 0, ground := Ground.phase }, { on := 1, ground := Ground.phase }, { on := 2, ground := Ground.textOnly Departure.lateStores }, { on := 3, ground := Ground.textOnly Departure.lateStores }, { on := 4, ground := Ground.textOnly Departure.lateStores }, { on := 5, ground := Ground.textOnly Departure.lateStoresUnsure }, { on := 6, ground := Ground.textOnly Departure.lateStoresUnsure }, { on := 7, ground := Ground.textOnly Departure.lateStores }, { on := 8, ground := Ground.textOnly Departure.lateStores }, { on := 9, ground := Ground.phase }], guard := none }) rfl (fun K hK => ?_) AllReadyH.nil
      go_simp
      refine hK.out _ _ ?_ (fun hHeld => ?_)
      · exact ⟨by rw [World.cell?_setCell_far _ _ _ _ (by show w.heap.size ≠ B7; omega), World.cell?_setCell_far _ _ _ _ (by show w.heap.size ≠ B7; omega)]; exact hHeld.1, by rw [World.cell?_setCell_far _ _ _ _ (by show w.heap.size ≠ B7; omega), World.cell?_setCell_far _ _ _ _ (by show w.heap.size ≠ B7; omega)]; exact hHeld.2.1, fun i hi => ⟨by rw [World.cell?_setCell_far _ _ _ _ (by show w.heap.size ≠ g; omega), World.cell?_setCell_far _ _ _ _ (by show w.heap.size ≠ g; omega)]; exact (hHeld.2.2 i hi).1, by rw [World.cell?_setCell_far _ _ _ _ (by show w.heap.size ≠ g; omega), World.cell?_setCell_far _ _ _ _ (by show w.heap.size ≠ g; omega)]; exact (hHeld.2.2 i hi).2⟩⟩
      clear hK K
      try simp only [Act.put, List.setIfInBounds_toArray, List.set_cons_zero, List.set_cons_succ]
      refine wpAnyH_ready (rs := [11]) (by kernel_rfl) (by simp) ?_
      refine AllReadyH.cons (o := { dst := none, op := Op.store 26 (Operand.tmp 4) (Operand.tmp 32), type := 0, pos := "l5_far.go:148", after := #[{ on := 8, ground := Ground.data }, { on := 10, ground := Ground.chain }, { on := 0, ground := Ground.phase }, { on := 1, ground := Ground.phase }, { on := 2, ground := Ground.phase }, { on := 3, ground := Ground.phase }, { on := 4, ground := Ground.phase }, { on := 5, ground := Ground.phase }, { on := 6, ground := Ground.phase }, { on := 7, ground := Ground.phase }, { on := 8, ground := Ground.phase }, { on := 9, ground := Ground.phase }, { on := 10, ground := Ground.phase }], guard := none }) rfl (fun K hK => ?_) AllReadyH.nil
      go_simp
      refine hK.out _ _ ?_ (fun hHeld => ?_)
      · exact ⟨by rw [World.cell?_setCell_far _ _ _ _ (by show w.heap.size + 1 ≠ B7; omega), World.cell?_setCell_far _ _ _ _ (by show w.heap.size + 1 ≠ B7; omega)]; exact hHeld.1, by rw [World.cell?_setCell_far _ _ _ _ (by show w.heap.size + 1 ≠ B7; omega), World.cell?_setCell_far _ _ _ _ (by show w.heap.size + 1 ≠ B7; omega)]; exact hHeld.2.1, fun i hi => ⟨by rw [World.cell?_setCell_far _ _ _ _ (by show w.heap.size + 1 ≠ g; omega), World.cell?_setCell_far _ _ _ _ (by show w.heap.size + 1 ≠ g; omega)]; exact (hHeld.2.2 i hi).1, by rw [World.cell?_setCell_far _ _ _ _ (by show w.heap.size + 1 ≠ g; omega), World.cell?_setCell_far _ _ _ _ (by show w.heap.size + 1 ≠ g; omega)]; exact (hHeld.2.2 i hi).2⟩⟩
      clear hK K
      try simp only [Act.put, List.setIfInBounds_toArray, List.set_cons_zero, List.set_cons_succ]
      refine wpAnyH_done (by kernel_rfl) ?_ _
      go_wp2
      refine bodyPost_ret (v := .tuple #[.slice (some ⟨g, off, none⟩) l.length p1, .agg #[.int .i64 qx, .int .i64 qy], .agg #[.int .i64 (px l i), .int .i64 (py l i)]]) (by simp [results, Tryz.results11, go_sem, zar5, zbr5, zas5, zbs5]) rfl ⟨_, _, _, _, _, rfl, l, ?_, hl1, ?_⟩
      · have o1 := (ho1.only (HCd.trans hO5) (by omega)).mono (show w.heap.size + 1 + 1 ≤ wB.heap.size by omega)
        exact (((o1.only (((Only.refl w.heap.size _).setCell (.inl rfl) _).setCell (.inl rfl) _) (by omega)).only (((Only.refl (w.heap.size + 1) _).setCell (.inl rfl) _).setCell (.inl rfl) _) (by omega))).mono (by omega)
      · exact hW.trans (((((hOd5.below (by omega) (by omega) : Below w.heap.size wB _).setCell (p := ⟨w.heap.size, 0, none⟩) (Nat.le_refl _) _).setCell (p := ⟨w.heap.size, 1, none⟩) (Nat.le_refl _) _).setCell (p := ⟨w.heap.size + 1, 0, none⟩) (Nat.le_succ _) _).setCell (p := ⟨w.heap.size + 1, 1, none⟩) (Nat.le_succ _) _)
    · refine wp_region_held_drew (S := (fun z => z.cell? ⟨B7, 0, none⟩ = some (.int .i64 qx) ∧ z.cell? ⟨B7, 1, none⟩ = some (.int .i64 qy))) (by kernel_rfl) ?_ (fun hHeld => ?_)
      · exact ⟨(Only.refl b w4).drew.cell (p := ⟨B7, 0, none⟩) (show B7 < w4.heap.size by omega) hn7 |>.trans ca4, (Only.refl b w4).drew.cell (p := ⟨B7, 1, none⟩) (show B7 < w4.heap.size by omega) hn7 |>.trans cb4⟩
      have hOdr : Only b w4 w4.drew := (Only.refl b w4).drew
      have hsd := hOdr.size
      have zard := (hOdr.cell (p := ⟨w.heap.size, 0, none⟩) (show w.heap.size < w4.heap.size by omega) hn0).trans zar4
      have zbrd := (hOdr.cell (p := ⟨w.heap.size, 1, none⟩) (show w.heap.size < w4.heap.size by omega) hn0).trans zbr4
      have yard := (hOdr.frozen (p := ⟨w.heap.size, 0, none⟩) (show w.heap.size < w4.heap.size by omega) hn0).trans yar4
      have ybrd := (hOdr.frozen (p := ⟨w.heap.size, 1, none⟩) (show w.heap.size < w4.heap.size by omega) hn0).trans ybr4
      have zasd := (hOdr.cell (p := ⟨w.heap.size + 1, 0, none⟩) (show w.heap.size + 1 < w4.heap.size by omega) hn1).trans zas4
      have zbsd := (hOdr.cell (p := ⟨w.heap.size + 1, 1, none⟩) (show w.heap.size + 1 < w4.heap.size by omega) hn1).trans zbs4
      have yasd := (hOdr.frozen (p := ⟨w.heap.size + 1, 0, none⟩) (show w.heap.size + 1 < w4.heap.size by omega) hn1).trans yas4
      have ybsd := (hOdr.frozen (p := ⟨w.heap.size + 1, 1, none⟩) (show w.heap.size + 1 < w4.heap.size by omega) hn1).trans ybs4
      have cad := (hOdr.cell (p := ⟨B7, 0, none⟩) (show B7 < w4.heap.size by omega) hn7).trans ca4
      have cbd := (hOdr.cell (p := ⟨B7, 1, none⟩) (show B7 < w4.heap.size by omega) hn7).trans cb4
      have hRd := hR4.below (show Below (b + 1) w4 w4.drew by go_grown)
      have hOd := hO04.trans hOdr
      have HCd := HC4.trans hOdr
      generalize w4.drew = wd at hOdr hsd zard zbrd yard ybrd zasd zbsd yasd ybsd cad cbd hRd hOd HCd hHeld ⊢
      refine wpAnyH_take (i := 0) (oi := { dst := some 33, op := Op.move (Operand.tmp 6), type := 24, pos := "l5_far.go:150", after := #[], guard := none }) (v := ?v3x0) rfl (by kernel_rfl) (by kernel_rfl) (by kernel_rfl) (fun _ _ _ h => h) (Or.inl ⟨by rfl, ?hy3x0⟩) (by with_reducible assumption) ?rest3x0
      case hy3x0 => (intro w hSw; (try dsimp only at hSw); go_simp; try with_reducible rfl)
      case' rest3x0 => (try simp only [Act.put, List.setIfInBounds_toArray, List.set_cons_zero, List.set_cons_succ])
      refine wpAnyH_take (i := 1) (oi := { dst := some 34, op := Op.load 26 (Operand.tmp 7), type := 26, pos := "l5_far.go:150", after := #[{ on := 4, ground := Ground.gcOnly Departure.lateStores }], guard := none }) (v := ?v3x1) rfl (by kernel_rfl) (by kernel_rfl) (by kernel_rfl) (fun _ _ _ h => h) (Or.inl ⟨by rfl, ?hy3x1⟩) (by with_reducible assumption) ?rest3x1
      case hy3x1 => (intro w hSw; (try dsimp only at hSw); go_simp; try with_reducible rfl)
      case' rest3x1 => (try simp only [Act.put, List.setIfInBounds_toArray, List.set_cons_zero, List.set_cons_succ])
      refine wpAnyH_take (i := 2) (oi := { dst := some 35, op := Op.move (Operand.tmp 5), type := 47, pos := "l5_far.go:150", after := #[], guard := none }) (v := ?v3x2) rfl (by kernel_rfl) (by kernel_rfl) (by kernel_rfl) (fun _ _ _ h => h) (Or.inl ⟨by rfl, ?hy3x2⟩) (by with_reducible assumption) ?rest3x2
      case hy3x2 => (intro w hSw; (try dsimp only at hSw); go_simp; try with_reducible rfl)
      case' rest3x2 => (try simp only [Act.put, List.setIfInBounds_toArray, List.set_cons_zero, List.set_cons_succ])
      refine wpAnyH_ready (rs := [3]) (by kernel_rfl) (by simp) ?_
      refine AllReadyH.cons (o := { dst := some 36, op := Op.call { callee := Callee.value (Operand.func 36), args := #[Operand.tmp 35], argTypes := #[47] }, type := 26, pos := "l5_far.go:150", after := #[{ on := 2, ground := Ground.data }], guard := none }) rfl (fun K hK => ?_) AllReadyH.nil
      go_simp
      refine (point_r w.heap.size b _ wd hRd (by omega)).mono ?_
      rintro e w5 ⟨rx, ry, rfl, _, _, _, _, hR5, hO5⟩
      go_wp2_with fail
      refine hK.out _ _ ?_ (fun hHeld => ?_)
      · exact ⟨(hO5.cell (p := ⟨B7, 0, none⟩) (show B7 < wd.heap.size by omega) hn7).trans hHeld.1, (hO5.cell (p := ⟨B7, 1, none⟩) (show B7 < wd.heap.size by omega) hn7).trans hHeld.2⟩
      clear hK K
      try simp only [Act.put, List.setIfInBounds_toArray, List.set_cons_zero, List.set_cons_succ]
      have hs5 := hO5.size
      have zar5 := (hO5.cell (p := ⟨w.heap.size, 0, none⟩) (show w.heap.size < wd.heap.size by omega) hn0).trans zard
      have zbr5 := (hO5.cell (p := ⟨w.heap.size, 1, none⟩) (show w.heap.size < wd.heap.size by omega) hn0).trans zbrd
      have yar5 := (hO5.frozen (p := ⟨w.heap.size, 0, none⟩) (show w.heap.size < wd.heap.size by omega) hn0).trans yard
      have ybr5 := (hO5.frozen (p := ⟨w.heap.size, 1, none⟩) (show w.heap.size < wd.heap.size by omega) hn0).trans ybrd
      have zas5 := (hO5.cell (p := ⟨w.heap.size + 1, 0, none⟩) (show w.heap.size + 1 < wd.heap.size by omega) hn1).trans zasd
      have zbs5 := (hO5.cell (p := ⟨w.heap.size + 1, 1, none⟩) (show w.heap.size + 1 < wd.heap.size by omega) hn1).trans zbsd
      have yas5 := (hO5.frozen (p := ⟨w.heap.size + 1, 0, none⟩) (show w.heap.size + 1 < wd.heap.size by omega) hn1).trans yasd
      have ybs5 := (hO5.frozen (p := ⟨w.heap.size + 1, 1, none⟩) (show w.heap.size + 1 < wd.heap.size by omega) hn1).trans ybsd
      have ca5 := (hO5.cell (p := ⟨B7, 0, none⟩) (show B7 < wd.heap.size by omega) hn7).trans cad
      have cb5 := (hO5.cell (p := ⟨B7, 1, none⟩) (show B7 < wd.heap.size by omega) hn7).trans cbd
      have hOd5 := hOd.trans hO5
      refine wpAnyH_take (i := 4) (oi := { dst := some 2, op := Op.assign (Operand.tmp 33), type := 24, pos := "l5_far.go:150", after := #[{ on := 0, ground := Ground.data }, { on := 3, ground := Ground.chain }, { on := 0, ground := Ground.phase }, { on := 1, ground := Ground.textOnly Departure.lateStores }, { on := 2, ground := Ground.textOnly Departure.lateStores }, { on := 3, ground := Ground.textOnly Departure.lateStoresUnsure }], guard := none }) (v := ?v3x4) rfl (by kernel_rfl) (by kernel_rfl) (by kernel_rfl) (fun _ _ _ h => h) (Or.inl ⟨by rfl, ?hy3x4⟩) (by with_reducible assumption) ?rest3x4
      case hy3x4 => (intro w hSw; (try dsimp only at hSw); go_simp; try with_reducible rfl)
      case' rest3x4 => (try simp only [Act.put, List.setIfInBounds_toArray, List.set_cons_zero, List.set_cons_succ])
      refine wpAnyH_ready (rs := [5]) (by kernel_rfl) (by simp) ?_
      refine AllReadyH.cons (o := { dst := none, op := Op.store 26 (Operand.tmp 3) (Operand.tmp 34), type := 0, pos := "l5_far.go:150", after := #[{ on := 1, ground := Ground.data }, { on := 4, ground := Ground.chain }, { on := 0, ground := Ground.phase }, { on := 1, ground := Ground.phase }, { on := 2, ground := Ground.textOnly Departure.lateStores }, { on := 3, ground := Ground.textOnly Departure.lateStoresUnsure }, { on := 4, ground := Ground.phase }], guard := none }) rfl (fun K hK => ?_) AllReadyH.nil
      go_simp
      refine hK.out _ _ ?_ (fun hHeld => ?_)
      · exact ⟨by rw [World.cell?_setCell_far _ _ _ _ (by show w.heap.size ≠ B7; omega), World.cell?_setCell_far _ _ _ _ (by show w.heap.size ≠ B7; omega)]; exact hHeld.1, by rw [World.cell?_setCell_far _ _ _ _ (by show w.heap.size ≠ B7; omega), World.cell?_setCell_far _ _ _ _ (by show w.heap.size ≠ B7; omega)]; exact hHeld.2⟩
      clear hK K
      try simp only [Act.put, List.setIfInBounds_toArray, List.set_cons_zero, List.set_cons_succ]
      refine wpAnyH_ready (rs := [6]) (by kernel_rfl) (by simp) ?_
      refine AllReadyH.cons (o := { dst := none, op := Op.store 26 (Operand.tmp 4) (Operand.tmp 36), type := 0, pos := "l5_far.go:150", after := #[{ on := 3, ground := Ground.data }, { on := 5, ground := Ground.chain }, { on := 0, ground := Ground.phase }, { on := 1, ground := Ground.phase }, { on := 2, ground := Ground.phase }, { on := 3, ground := Ground.phase }, { on := 4, ground := Ground.phase }, { on := 5, ground := Ground.phase }], guard := none }) rfl (fun K hK => ?_) AllReadyH.nil
      go_simp
      refine hK.out _ _ ?_ (fun hHeld => ?_)
      · exact ⟨by rw [World.cell?_setCell_far _ _ _ _ (by show w.heap.size + 1 ≠ B7; omega), World.cell?_setCell_far _ _ _ _ (by show w.heap.size + 1 ≠ B7; omega)]; exact hHeld.1, by rw [World.cell?_setCell_far _ _ _ _ (by show w.heap.size + 1 ≠ B7; omega), World.cell?_setCell_far _ _ _ _ (by show w.heap.size + 1 ≠ B7; omega)]; exact hHeld.2⟩
      clear hK K
      try simp only [Act.put, List.setIfInBounds_toArray, List.set_cons_zero, List.set_cons_succ]
      refine wpAnyH_done (by kernel_rfl) ?_ _
      go_wp2
      refine bodyPost_ret (v := .tuple #[.slice (some ⟨g, off, none⟩) l.length p1, .agg #[.int .i64 qx, .int .i64 qy], .agg #[.int .i64 rx, .int .i64 ry]]) (by simp [results, Tryz.results11, go_sem, zar5, zbr5, zas5, zbs5]) rfl ⟨_, _, _, _, _, rfl, l, ?_, hl1, ?_⟩
      · have o1 := (ho1.only (HCd.trans hO5) (by omega)).mono (show w.heap.size + 1 + 1 ≤ wB.heap.size by omega)
        exact (((o1.only (((Only.refl w.heap.size _).setCell (.inl rfl) _).setCell (.inl rfl) _) (by omega)).only (((Only.refl (w.heap.size + 1) _).setCell (.inl rfl) _).setCell (.inl rfl) _) (by omega))).mono (by omega)
      · exact hW.trans (((((hOd5.below (by omega) (by omega) : Below w.heap.size wB _).setCell (p := ⟨w.heap.size, 0, none⟩) (Nat.le_refl _) _).setCell (p := ⟨w.heap.size, 1, none⟩) (Nat.le_refl _) _).setCell (p := ⟨w.heap.size + 1, 0, none⟩) (Nat.le_succ _) _).setCell (p := ⟨w.heap.size + 1, 1, none⟩) (Nat.le_succ _) _)
  · have hd : ¬ (0 : Int) < (l.length : Int) := by omega
    go_upto_region 5 with fail
    refine wp_region_held_drew (S := (fun z => z.cell? ⟨B7, 0, none⟩ = some (.int .i64 qx) ∧ z.cell? ⟨B7, 1, none⟩ = some (.int .i64 qy))) (by kernel_rfl) ?_ (fun hHeld => ?_)
    · exact ⟨(Only.refl b w3).drew.cell (p := ⟨B7, 0, none⟩) (show B7 < w3.heap.size by omega) hn7 |>.trans ca3, (Only.refl b w3).drew.cell (p := ⟨B7, 1, none⟩) (show B7 < w3.heap.size by omega) hn7 |>.trans cb3⟩
    have hOdr : Only b w3 w3.drew := (Only.refl b w3).drew
    have hsd := hOdr.size
    have zard := (hOdr.cell (p := ⟨w.heap.size, 0, none⟩) (show w.heap.size < w3.heap.size by omega) hn0).trans zar3
    have zbrd := (hOdr.cell (p := ⟨w.heap.size, 1, none⟩) (show w.heap.size < w3.heap.size by omega) hn0).trans zbr3
    have yard := (hOdr.frozen (p := ⟨w.heap.size, 0, none⟩) (show w.heap.size < w3.heap.size by omega) hn0).trans yar3
    have ybrd := (hOdr.frozen (p := ⟨w.heap.size, 1, none⟩) (show w.heap.size < w3.heap.size by omega) hn0).trans ybr3
    have zasd := (hOdr.cell (p := ⟨w.heap.size + 1, 0, none⟩) (show w.heap.size + 1 < w3.heap.size by omega) hn1).trans zas3
    have zbsd := (hOdr.cell (p := ⟨w.heap.size + 1, 1, none⟩) (show w.heap.size + 1 < w3.heap.size by omega) hn1).trans zbs3
    have yasd := (hOdr.frozen (p := ⟨w.heap.size + 1, 0, none⟩) (show w.heap.size + 1 < w3.heap.size by omega) hn1).trans yas3
    have ybsd := (hOdr.frozen (p := ⟨w.heap.size + 1, 1, none⟩) (show w.heap.size + 1 < w3.heap.size by omega) hn1).trans ybs3
    have cad := (hOdr.cell (p := ⟨B7, 0, none⟩) (show B7 < w3.heap.size by omega) hn7).trans ca3
    have cbd := (hOdr.cell (p := ⟨B7, 1, none⟩) (show B7 < w3.heap.size by omega) hn7).trans cb3
    have hRd := hR3.below (show Below (b + 1) w3 w3.drew by go_grown)
    have hOd := hO03.trans hOdr
    have HCd := HC3.trans hOdr
    generalize w3.drew = wd at hOdr hsd zard zbrd yard ybrd zasd zbsd yasd ybsd cad cbd hRd hOd HCd hHeld ⊢
    refine wpAnyH_take (i := 0) (oi := { dst := some 33, op := Op.move (Operand.tmp 6), type := 24, pos := "l5_far.go:150", after := #[], guard := none }) (v := ?v2x0) rfl (by kernel_rfl) (by kernel_rfl) (by kernel_rfl) (fun _ _ _ h => h) (Or.inl ⟨by rfl, ?hy2x0⟩) (by with_reducible assumption) ?rest2x0
    case hy2x0 => (intro w hSw; (try dsimp only at hSw); go_simp; try with_reducible rfl)
    case' rest2x0 => (try simp only [Act.put, List.setIfInBounds_toArray, List.set_cons_zero, List.set_cons_succ])
    refine wpAnyH_take (i := 1) (oi := { dst := some 34, op := Op.load 26 (Operand.tmp 7), type := 26, pos := "l5_far.go:150", after := #[{ on := 4, ground := Ground.gcOnly Departure.lateStores }], guard := none }) (v := ?v2x1) rfl (by kernel_rfl) (by kernel_rfl) (by kernel_rfl) (fun _ _ _ h => h) (Or.inl ⟨by rfl, ?hy2x1⟩) (by with_reducible assumption) ?rest2x1
    case hy2x1 => (intro w hSw; (try dsimp only at hSw); go_simp; try with_reducible rfl)
    case' rest2x1 => (try simp only [Act.put, List.setIfInBounds_toArray, List.set_cons_zero, List.set_cons_succ])
    refine wpAnyH_take (i := 2) (oi := { dst := some 35, op := Op.move (Operand.tmp 5), type := 47, pos := "l5_far.go:150", after := #[], guard := none }) (v := ?v2x2) rfl (by kernel_rfl) (by kernel_rfl) (by kernel_rfl) (fun _ _ _ h => h) (Or.inl ⟨by rfl, ?hy2x2⟩) (by with_reducible assumption) ?rest2x2
    case hy2x2 => (intro w hSw; (try dsimp only at hSw); go_simp; try with_reducible rfl)
    case' rest2x2 => (try simp only [Act.put, List.setIfInBounds_toArray, List.set_cons_zero, List.set_cons_succ])
    refine wpAnyH_ready (rs := [3]) (by kernel_rfl) (by simp) ?_
    refine AllReadyH.cons (o := { dst := some 36, op := Op.call { callee := Callee.value (Operand.func 36), args := #[Operand.tmp 35], argTypes := #[47] }, type := 26, pos := "l5_far.go:150", after := #[{ on := 2, ground := Ground.data }], guard := none }) rfl (fun K hK => ?_) AllReadyH.nil
    go_simp
    refine (point_r w.heap.size b _ wd hRd (by omega)).mono ?_
    rintro e w5 ⟨rx, ry, rfl, _, _, _, _, hR5, hO5⟩
    go_wp2_with fail
    refine hK.out _ _ ?_ (fun hHeld => ?_)
    · exact ⟨(hO5.cell (p := ⟨B7, 0, none⟩) (show B7 < wd.heap.size by omega) hn7).trans hHeld.1, (hO5.cell (p := ⟨B7, 1, none⟩) (show B7 < wd.heap.size by omega) hn7).trans hHeld.2⟩
    clear hK K
    try simp only [Act.put, List.setIfInBounds_toArray, List.set_cons_zero, List.set_cons_succ]
    have hs5 := hO5.size
    have zar5 := (hO5.cell (p := ⟨w.heap.size, 0, none⟩) (show w.heap.size < wd.heap.size by omega) hn0).trans zard
    have zbr5 := (hO5.cell (p := ⟨w.heap.size, 1, none⟩) (show w.heap.size < wd.heap.size by omega) hn0).trans zbrd
    have yar5 := (hO5.frozen (p := ⟨w.heap.size, 0, none⟩) (show w.heap.size < wd.heap.size by omega) hn0).trans yard
    have ybr5 := (hO5.frozen (p := ⟨w.heap.size, 1, none⟩) (show w.heap.size < wd.heap.size by omega) hn0).trans ybrd
    have zas5 := (hO5.cell (p := ⟨w.heap.size + 1, 0, none⟩) (show w.heap.size + 1 < wd.heap.size by omega) hn1).trans zasd
    have zbs5 := (hO5.cell (p := ⟨w.heap.size + 1, 1, none⟩) (show w.heap.size + 1 < wd.heap.size by omega) hn1).trans zbsd
    have yas5 := (hO5.frozen (p := ⟨w.heap.size + 1, 0, none⟩) (show w.heap.size + 1 < wd.heap.size by omega) hn1).trans yasd
    have ybs5 := (hO5.frozen (p := ⟨w.heap.size + 1, 1, none⟩) (show w.heap.size + 1 < wd.heap.size by omega) hn1).trans ybsd
    have ca5 := (hO5.cell (p := ⟨B7, 0, none⟩) (show B7 < wd.heap.size by omega) hn7).trans cad
    have cb5 := (hO5.cell (p := ⟨B7, 1, none⟩) (show B7 < wd.heap.size by omega) hn7).trans cbd
    have hOd5 := hOd.trans hO5
    refine wpAnyH_take (i := 4) (oi := { dst := some 2, op := Op.assign (Operand.tmp 33), type := 24, pos := "l5_far.go:150", after := #[{ on := 0, ground := Ground.data }, { on := 3, ground := Ground.chain }, { on := 0, ground := Ground.phase }, { on := 1, ground := Ground.textOnly Departure.lateStores }, { on := 2, ground := Ground.textOnly Departure.lateStores }, { on := 3, ground := Ground.textOnly Departure.lateStoresUnsure }], guard := none }) (v := ?v2x4) rfl (by kernel_rfl) (by kernel_rfl) (by kernel_rfl) (fun _ _ _ h => h) (Or.inl ⟨by rfl, ?hy2x4⟩) (by with_reducible assumption) ?rest2x4
    case hy2x4 => (intro w hSw; (try dsimp only at hSw); go_simp; try with_reducible rfl)
    case' rest2x4 => (try simp only [Act.put, List.setIfInBounds_toArray, List.set_cons_zero, List.set_cons_succ])
    refine wpAnyH_ready (rs := [5]) (by kernel_rfl) (by simp) ?_
    refine AllReadyH.cons (o := { dst := none, op := Op.store 26 (Operand.tmp 3) (Operand.tmp 34), type := 0, pos := "l5_far.go:150", after := #[{ on := 1, ground := Ground.data }, { on := 4, ground := Ground.chain }, { on := 0, ground := Ground.phase }, { on := 1, ground := Ground.phase }, { on := 2, ground := Ground.textOnly Departure.lateStores }, { on := 3, ground := Ground.textOnly Departure.lateStoresUnsure }, { on := 4, ground := Ground.phase }], guard := none }) rfl (fun K hK => ?_) AllReadyH.nil
    go_simp
    refine hK.out _ _ ?_ (fun hHeld => ?_)
    · exact ⟨by rw [World.cell?_setCell_far _ _ _ _ (by show w.heap.size ≠ B7; omega), World.cell?_setCell_far _ _ _ _ (by show w.heap.size ≠ B7; omega)]; exact hHeld.1, by rw [World.cell?_setCell_far _ _ _ _ (by show w.heap.size ≠ B7; omega), World.cell?_setCell_far _ _ _ _ (by show w.heap.size ≠ B7; omega)]; exact hHeld.2⟩
    clear hK K
    try simp only [Act.put, List.setIfInBounds_toArray, List.set_cons_zero, List.set_cons_succ]
    refine wpAnyH_ready (rs := [6]) (by kernel_rfl) (by simp) ?_
    refine AllReadyH.cons (o := { dst := none, op := Op.store 26 (Operand.tmp 4) (Operand.tmp 36), type := 0, pos := "l5_far.go:150", after := #[{ on := 3, ground := Ground.data }, { on := 5, ground := Ground.chain }, { on := 0, ground := Ground.phase }, { on := 1, ground := Ground.phase }, { on := 2, ground := Ground.phase }, { on := 3, ground := Ground.phase }, { on := 4, ground := Ground.phase }, { on := 5, ground := Ground.phase }], guard := none }) rfl (fun K hK => ?_) AllReadyH.nil
    go_simp
    refine hK.out _ _ ?_ (fun hHeld => ?_)
    · exact ⟨by rw [World.cell?_setCell_far _ _ _ _ (by show w.heap.size + 1 ≠ B7; omega), World.cell?_setCell_far _ _ _ _ (by show w.heap.size + 1 ≠ B7; omega)]; exact hHeld.1, by rw [World.cell?_setCell_far _ _ _ _ (by show w.heap.size + 1 ≠ B7; omega), World.cell?_setCell_far _ _ _ _ (by show w.heap.size + 1 ≠ B7; omega)]; exact hHeld.2⟩
    clear hK K
    try simp only [Act.put, List.setIfInBounds_toArray, List.set_cons_zero, List.set_cons_succ]
    refine wpAnyH_done (by kernel_rfl) ?_ _
    go_wp2
    refine bodyPost_ret (v := .tuple #[.slice a1 l.length p1, .agg #[.int .i64 qx, .int .i64 qy], .agg #[.int .i64 rx, .int .i64 ry]]) (by simp [results, Tryz.results11, go_sem, zar5, zbr5, zas5, zbs5]) rfl ⟨_, _, _, _, _, rfl, l, ?_, hl1, ?_⟩
    · have o1 := (ho1.only (HCd.trans hO5) (by omega)).mono (show w.heap.size + 1 + 1 ≤ wB.heap.size by omega)
      exact (((o1.only (((Only.refl w.heap.size _).setCell (.inl rfl) _).setCell (.inl rfl) _) (by omega)).only (((Only.refl (w.heap.size + 1) _).setCell (.inl rfl) _).setCell (.inl rfl) _) (by omega))).mono (by omega)
    · exact hW.trans (((((hOd5.below (by omega) (by omega) : Below w.heap.size wB _).setCell (p := ⟨w.heap.size, 0, none⟩) (Nat.le_refl _) _).setCell (p := ⟨w.heap.size, 1, none⟩) (Nat.le_refl _) _).setCell (p := ⟨w.heap.size + 1, 0, none⟩) (Nat.le_succ _) _).setCell (p := ⟨w.heap.size + 1, 1, none⟩) (Nat.le_succ _) _)
end Go.Proofs.YtegmlemejmahiaaGreatDoor
