/-
  ExtremeOf and SupportOf, and who may be asked for tangents: the program's and the specification's (contracts for the walks).
  Conditions: as each theorem states them.
-/
import Derived.Test.YtegmlemejmahiaaDoorFar7
namespace Go.Proofs.YtegmlemejmahiaaDoor
open Go.RowKit Go.Shelf
set_option linter.unusedVariables false
set_option maxRecDepth 8000
theorem ret_pb {p q : Int × Int} {a b : Bool} (h : p = q) (k : a = b) : Ending.returned (.tuple #[.agg #[.int .i64 p.1, .int .i64 p.2], .bool a]) = .returned (.tuple #[.agg #[.int .i64 q.1, .int .i64 q.2], .bool b]) := by rw [h, k]
theorem tg_seen (l : List (Int × Int)) (x y : Int) : tgOk l x y = (whOk l x y && decide (0 < l.length) && decide (whV l x y = 0)) := by
  unfold tgOk whV whOk
  cases ghB l <;> cases goodB x y <;> simp [Nat.pos_iff_ne_zero]
set_option maxHeartbeats 4000000 in
theorem asked_c (l : List (Int × Int)) (x y : Int) (a : Option Addr) (len cap : Nat) (w : World) (hl : l.length = len) (h1 : len ≤ 1048576) (hA : At w.heap.size a l w) :
    Calls Tryd.prog 36 #[.slice a len cap, .agg #[.int .i64 x, .int .i64 y]] w fun e w' => e = .returned (.bool (exOk l x y)) ∧ Below w.heap.size w w' := by
  subst hl
  have HA := hid hA
  clear hA
  obtain ⟨z, hz⟩ : ∃ z, exOk l x y = z := ⟨_, rfl⟩
  have HZ := hid hz
  rw [hz]
  have hbw : Below w.heap.size w (w.alloc (.cells #[.int .i64 x, .int .i64 y] 26)) := by go_grown
  have k0 := box0 w x y 26
  have k1 := box1 w x y 26
  go_enter Tryd.func36, Tryd.ntmps36
  go_upto_region 1 with fail
  generalize (w.alloc (.cells #[.int .i64 x, .int .i64 y] 26)) = w0 at hbw k0 k1 ⊢
  unfold exOk at hz
  cases hG : ghB l
  · go_wp2_with (go_at_call 47; refine (goodHullSpec_c l _ _ _ _ rfl h1 ((HA.out.later hbw).mono hbw.size)).mono ?_; rw [hG]; rintro e w1 ⟨rfl, hb⟩; replace hbw := grew hbw hb; replace k0 := cell_later hb k0; replace k1 := cell_later hb k1; clear hb)
    go_ret
    exact ⟨ret_bool (by rw [← hz, hG]; rfl), hbw⟩
  · by_cases hl : l.length = 0
    · have hl2 : ¬ (0 : Int) < (l.length : Int) := by omega
      have HL := hid hl
      clear hl
      go_wp2_with (go_at_call 47; refine (goodHullSpec_c l _ _ _ _ rfl h1 ((HA.out.later hbw).mono hbw.size)).mono ?_; rw [hG]; rintro e w1 ⟨rfl, hb⟩; replace hbw := grew hbw hb; replace k0 := cell_later hb k0; replace k1 := cell_later hb k1; clear hb)
      go_ret
      exact ⟨ret_bool (by rw [← hz, hG, decide_eq_true HL.out]; first | rfl | simp; omega), hbw⟩
    · have hl2 : (0 : Int) < (l.length : Int) := by omega
      cases hP : goodB x y
      · go_wp2_with (first | (go_at_call 47; refine (goodHullSpec_c l _ _ _ _ rfl h1 ((HA.out.later hbw).mono hbw.size)).mono ?_; rw [hG]; rintro e w1 ⟨rfl, hb⟩; replace hbw := grew hbw hb; replace k0 := cell_later hb k0; replace k1 := cell_later hb k1; clear hb) | (go_at_call 48; refine (goodSpec_e _ _ _).mono ?_; rw [hP]; rintro e w2 ⟨rfl, hb⟩; replace hbw := grew hbw hb; replace k0 := cell_later hb k0; replace k1 := cell_later hb k1; clear hb))
        go_ret
        exact ⟨ret_bool (by rw [← hz, hG, hP, decide_eq_false hl]; rfl), hbw⟩
      · by_cases hx : x = 0
        · by_cases hy : y = 0
          · subst hx hy
            go_wp2_with (first | (go_at_call 47; refine (goodHullSpec_c l _ _ _ _ rfl h1 ((HA.out.later hbw).mono hbw.size)).mono ?_; rw [hG]; rintro e w1 ⟨rfl, hb⟩; replace hbw := grew hbw hb; replace k0 := cell_later hb k0; replace k1 := cell_later hb k1; clear hb) | (go_at_call 48; refine (goodSpec_e _ _ _).mono ?_; rw [hP]; rintro e w2 ⟨rfl, hb⟩; replace hbw := grew hbw hb; replace k0 := cell_later hb k0; replace k1 := cell_later hb k1; clear hb))
            go_ret
            exact ⟨ret_bool (by rw [← hz, hG, hP, decide_eq_false hl]; rfl), hbw⟩
          · have hy2 : (y == 0) = false := by simpa using hy
            have HY := hid hy
            clear hy
            subst hx
            go_wp2_with (first | (go_at_call 47; refine (goodHullSpec_c l _ _ _ _ rfl h1 ((HA.out.later hbw).mono hbw.size)).mono ?_; rw [hG]; rintro e w1 ⟨rfl, hb⟩; replace hbw := grew hbw hb; replace k0 := cell_later hb k0; replace k1 := cell_later hb k1; clear hb) | (go_at_call 48; refine (goodSpec_e _ _ _).mono ?_; rw [hP]; rintro e w2 ⟨rfl, hb⟩; replace hbw := grew hbw hb; replace k0 := cell_later hb k0; replace k1 := cell_later hb k1; clear hb))
            go_ret
            exact ⟨ret_bool (by rw [← hz, hG, hP, decide_eq_false hl, decide_eq_false HY.out]; rfl), hbw⟩
        · have hx2 : (x == 0) = false := by simpa using hx
          have HX := hid hx
          clear hx
          go_wp2_with (first | (go_at_call 47; refine (goodHullSpec_c l _ _ _ _ rfl h1 ((HA.out.later hbw).mono hbw.size)).mono ?_; rw [hG]; rintro e w1 ⟨rfl, hb⟩; replace hbw := grew hbw hb; replace k0 := cell_later hb k0; replace k1 := cell_later hb k1; clear hb) | (go_at_call 48; refine (goodSpec_e _ _ _).mono ?_; rw [hP]; rintro e w2 ⟨rfl, hb⟩; replace hbw := grew hbw hb; replace k0 := cell_later hb k0; replace k1 := cell_later hb k1; clear hb))
          go_ret
          exact ⟨ret_bool (by rw [← hz, hG, hP, decide_eq_false hl, decide_eq_false HX.out]; rfl), hbw⟩
set_option maxHeartbeats 4000000 in
theorem outside_c (l : List (Int × Int)) (x y : Int) (a : Option Addr) (len cap : Nat) (w : World) (hl : l.length = len) (h1 : len ≤ 1048576) (hA : At w.heap.size a l w) :
    Calls Tryd.prog 43 #[.slice a len cap, .agg #[.int .i64 x, .int .i64 y]] w fun e w' => e = .returned (.bool (tgOk l x y)) ∧ Below w.heap.size w w' := by
  subst hl
  have HA := hid hA
  clear hA
  obtain ⟨z, hz⟩ : ∃ z, tgOk l x y = z := ⟨_, rfl⟩
  have HZ := hid hz
  rw [hz]
  have hbw : Below w.heap.size w (w.alloc (.cells #[.int .i64 x, .int .i64 y] 26)) := by go_grown
  have k0 := box0 w x y 26
  have k1 := box1 w x y 26
  go_enter Tryd.func43, Tryd.ntmps43
  go_upto_region 1 with fail
  generalize (w.alloc (.cells #[.int .i64 x, .int .i64 y] 26)) = w0 at hbw k0 k1 ⊢
  unfold tgOk at hz
  cases hG : ghB l
  · go_wp2_with (go_at_call 47; refine (goodHullSpec_c l _ _ _ _ rfl h1 ((HA.out.later hbw).mono hbw.size)).mono ?_; rw [hG]; rintro e w1 ⟨rfl, hb⟩; replace hbw := grew hbw hb; replace k0 := cell_later hb k0; replace k1 := cell_later hb k1; clear hb)
    go_ret
    exact ⟨ret_bool (by rw [← hz, hG]; rfl), hbw⟩
  · by_cases hl : l.length = 0
    · have hl2 : ¬ (0 : Int) < (l.length : Int) := by omega
      have HL := hid hl
      clear hl
      go_wp2_with (go_at_call 47; refine (goodHullSpec_c l _ _ _ _ rfl h1 ((HA.out.later hbw).mono hbw.size)).mono ?_; rw [hG]; rintro e w1 ⟨rfl, hb⟩; replace hbw := grew hbw hb; replace k0 := cell_later hb k0; replace k1 := cell_later hb k1; clear hb)
      go_ret
      exact ⟨ret_bool (by rw [← hz, hG, decide_eq_true HL.out]; first | rfl | simp; omega), hbw⟩
    · have hl2 : (0 : Int) < (l.length : Int) := by omega
      cases hP : goodB x y
      · go_wp2_with (first | (go_at_call 47; refine (goodHullSpec_c l _ _ _ _ rfl h1 ((HA.out.later hbw).mono hbw.size)).mono ?_; rw [hG]; rintro e w1 ⟨rfl, hb⟩; replace hbw := grew hbw hb; replace k0 := cell_later hb k0; replace k1 := cell_later hb k1; clear hb) | (go_at_call 48; refine (goodSpec_e _ _ _).mono ?_; rw [hP]; rintro e w2 ⟨rfl, hb⟩; replace hbw := grew hbw hb; replace k0 := cell_later hb k0; replace k1 := cell_later hb k1; clear hb))
        go_ret
        exact ⟨ret_bool (by rw [← hz, hG, hP, decide_eq_false hl]; rfl), hbw⟩
      · obtain ⟨v, hW⟩ : ∃ v, whS l (x, y) = v := ⟨_, rfl⟩
        rw [hW] at hz
        by_cases hv : v = 0
        · subst hv
          go_wp2_with (first | (go_at_call 47; refine (goodHullSpec_c l _ _ _ _ rfl h1 ((HA.out.later hbw).mono hbw.size)).mono ?_; rw [hG]; rintro e w1 ⟨rfl, hb⟩; replace hbw := grew hbw hb; replace k0 := cell_later hb k0; replace k1 := cell_later hb k1; clear hb) | (go_at_call 48; refine (goodSpec_e _ _ _).mono ?_; rw [hP]; rintro e w2 ⟨rfl, hb⟩; replace hbw := grew hbw hb; replace k0 := cell_later hb k0; replace k1 := cell_later hb k1; clear hb) | (go_at_call 71; refine (l4Where_c l x y _ _ _ _ rfl h1 ((HA.out.later hbw).mono hbw.size)).mono ?_; rw [hW]; rintro e w3 ⟨rfl, hb⟩; replace hbw := grew hbw hb; replace k0 := cell_later hb k0; replace k1 := cell_later hb k1; clear hb))
          go_ret
          exact ⟨ret_bool (by rw [← hz, hG, hP, decide_eq_false hl]; rfl), hbw⟩
        · have hv2 : (v == 0) = false := by simpa using hv
          have HV := hid hv
          clear hv
          go_wp2_with (first | (go_at_call 47; refine (goodHullSpec_c l _ _ _ _ rfl h1 ((HA.out.later hbw).mono hbw.size)).mono ?_; rw [hG]; rintro e w1 ⟨rfl, hb⟩; replace hbw := grew hbw hb; replace k0 := cell_later hb k0; replace k1 := cell_later hb k1; clear hb) | (go_at_call 48; refine (goodSpec_e _ _ _).mono ?_; rw [hP]; rintro e w2 ⟨rfl, hb⟩; replace hbw := grew hbw hb; replace k0 := cell_later hb k0; replace k1 := cell_later hb k1; clear hb) | (go_at_call 71; refine (l4Where_c l x y _ _ _ _ rfl h1 ((HA.out.later hbw).mono hbw.size)).mono ?_; rw [hW]; rintro e w3 ⟨rfl, hb⟩; replace hbw := grew hbw hb; replace k0 := cell_later hb k0; replace k1 := cell_later hb k1; clear hb))
          go_ret
          exact ⟨ret_bool (by rw [← hz, hG, hP, decide_eq_false hl, decide_eq_false HV.out]; rfl), hbw⟩
set_option maxHeartbeats 4000000 in
theorem seenFrom_c (l : List (Int × Int)) (x y : Int) (a : Option Addr) (len cap : Nat) (w : World) (hl : l.length = len) (h1 : len ≤ 1048576) (hA : At w.heap.size a l w) (c0 : w.cell? ⟨0, 0, none⟩ = some (.int .i64 1000000)) :
    Calls Tryd.prog 45 #[.slice a len cap, .agg #[.int .i64 x, .int .i64 y]] w fun e w' => e = .returned (.bool (tgOk l x y)) ∧ Below w.heap.size w w' := by
  subst hl
  have HA := hid hA
  have C0 := hid c0
  clear hA c0
  obtain ⟨z, hz⟩ : ∃ z, tgOk l x y = z := ⟨_, rfl⟩
  have HZ := hid hz
  rw [hz]
  have hbw : Below w.heap.size w (w.alloc (.cells #[.int .i64 x, .int .i64 y] 26)) := by go_grown
  have k0 := box0 w x y 26
  have k1 := box1 w x y 26
  go_enter Tryd.func45, Tryd.ntmps45
  go_upto_region 1 with fail
  generalize (w.alloc (.cells #[.int .i64 x, .int .i64 y] 26)) = w0 at hbw k0 k1 ⊢
  rw [tg_seen] at hz
  obtain ⟨v, hW⟩ : ∃ v, whV l x y = v := ⟨_, rfl⟩
  rw [hW] at hz
  cases hK : whOk l x y
  · go_wp2_with (go_at_call 73; refine (whereIsImpl_c l x y _ _ _ _ rfl h1 ((HA.out.later hbw).mono hbw.size) (cell_later hbw C0.out)).mono ?_; rw [hK, hW]; rintro e w3 ⟨rfl, hb⟩; replace hbw := grew hbw hb; replace k0 := cell_later hb k0; replace k1 := cell_later hb k1; clear hb)
    go_ret
    exact ⟨ret_bool (by rw [← hz, hK]; rfl), hbw⟩
  · by_cases hl : 0 < l.length
    · have hl2 : (0 : Int) < (l.length : Int) := by omega
      by_cases hv : v = 0
      · subst hv
        go_wp2_with (go_at_call 73; refine (whereIsImpl_c l x y _ _ _ _ rfl h1 ((HA.out.later hbw).mono hbw.size) (cell_later hbw C0.out)).mono ?_; rw [hK, hW]; rintro e w3 ⟨rfl, hb⟩; replace hbw := grew hbw hb; replace k0 := cell_later hb k0; replace k1 := cell_later hb k1; clear hb)
        go_ret
        exact ⟨ret_bool (by rw [← hz, hK, decide_eq_true hl]; rfl), hbw⟩
      · have hv2 : (v == 0) = false := by simpa using hv
        have HV := hid hv
        clear hv
        go_wp2_with (go_at_call 73; refine (whereIsImpl_c l x y _ _ _ _ rfl h1 ((HA.out.later hbw).mono hbw.size) (cell_later hbw C0.out)).mono ?_; rw [hK, hW]; rintro e w3 ⟨rfl, hb⟩; replace hbw := grew hbw hb; replace k0 := cell_later hb k0; replace k1 := cell_later hb k1; clear hb)
        go_ret
        exact ⟨ret_bool (by rw [← hz, hK, decide_eq_true hl, decide_eq_false HV.out]; rfl), hbw⟩
    · have hl2 : ¬ (0 : Int) < (l.length : Int) := by omega
      have HL := hid hl
      clear hl
      go_wp2_with (go_at_call 73; refine (whereIsImpl_c l x y _ _ _ _ rfl h1 ((HA.out.later hbw).mono hbw.size) (cell_later hbw C0.out)).mono ?_; rw [hK, hW]; rintro e w3 ⟨rfl, hb⟩; replace hbw := grew hbw hb; replace k0 := cell_later hb k0; replace k1 := cell_later hb k1; clear hb)
      go_ret
      exact ⟨ret_bool (by rw [← hz, hK, decide_eq_false HL.out]; first | rfl | simp), hbw⟩
set_option maxHeartbeats 4000000 in
theorem extremeSpec_c (l : List (Int × Int)) (x y : Int) (a : Option Addr) (len cap : Nat) (w : World) (hl : l.length = len) (h1 : len ≤ 1048576) (hA : At w.heap.size a l w) :
    Calls Tryd.prog 11 #[.slice a len cap, .agg #[.int .i64 x, .int .i64 y]] w fun e w' => e = .returned (.tuple #[.agg #[.int .i64 (exP l x y).1, .int .i64 (exP l x y).2], .bool (exOk l x y)]) ∧ Below w.heap.size w w' := by
  subst hl
  have HA := hid hA
  clear hA
  have hbw : Below w.heap.size w ((w.alloc (.cells #[.int .i64 x, .int .i64 y] 26)).alloc (.cells #[.int .i64 0, .int .i64 0] 26)) := by go_grown
  have K3 := BoxP.later (BoxP.new w x y) ((Below.refl _ _).alloc (Nat.le_refl _) (.cells #[.int .i64 0, .int .i64 0] 26))
  have K4 := BoxP.new (w.alloc (.cells #[.int .i64 x, .int .i64 y] 26)) 0 0
  simp only [World.size_alloc] at K4
  go_enter Tryd.func11, Tryd.ntmps11
  go_upto_region 1 with fail
  generalize ((w.alloc (.cells #[.int .i64 x, .int .i64 y] 26)).alloc (.cells #[.int .i64 0, .int .i64 0] 26)) = w0 at hbw K3 K4 ⊢
  have k0 := K3.c0
  have k1 := K3.c1
  have c40 := K4.c0
  have c41 := K4.c1
  have f40 := K4.f 0
  have f41 := K4.f 1
  cases hz : exOk l x y
  · have HZ := hid hz
    go_wp2_with (go_at_call 36; refine (asked_c l x y _ _ _ _ rfl h1 ((HA.out.later hbw).mono hbw.size)).mono ?_; rw [hz]; rintro e w1 ⟨rfl, hb⟩; replace hbw := grew hbw hb; replace K3 := K3.later hb; replace K4 := K4.later hb; replace k0 := cell_later hb k0; replace k1 := cell_later hb k1; replace c40 := K4.c0; replace c41 := K4.c1; replace f40 := K4.f 0; replace f41 := K4.f 1; clear hb)
    have HW := hid (K4.set 0 0)
    have hbz := (hbw.setCell (p := ⟨w.heap.size + 1, 0, none⟩) (by show w.heap.size ≤ w.heap.size + 1; omega) (.int .i64 0)).setCell (p := ⟨w.heap.size + 1, 1, none⟩) (by show w.heap.size ≤ w.heap.size + 1; omega) (.int .i64 0)
    have r0 := HW.out.c0
    have r1 := HW.out.c1
    generalize (w1.setCell ⟨w.heap.size + 1, 0, none⟩ (.int .i64 0)).setCell ⟨w.heap.size + 1, 1, none⟩ (.int .i64 0) = wz at r0 r1 hbz ⊢
    refine bodyPost_ret (v := .tuple #[.agg #[.int .i64 0, .int .i64 0], .bool false]) (by simp [results, Tryd.results11, go_sem, r0, r1]) rfl ?_
    exact ⟨ret_pb (p := (0, 0)) (by unfold exP; rw [HZ.out]; rfl) (by rw [HZ.out]), hbz⟩
  · have HZ := hid hz
    have hl0 := (exOk_parts hz).2.2.1
    obtain ⟨⟨ex, ey⟩, hE⟩ : ∃ e, farOf (exB (x, y)) l = e := ⟨_, rfl⟩
    have HE := hid hE
    go_wp2_with (first | (go_at_call 36; refine (asked_c l x y _ _ _ _ rfl h1 ((HA.out.later hbw).mono hbw.size)).mono ?_; rw [hz]; rintro e w1 ⟨rfl, hb⟩; replace hbw := grew hbw hb; replace K3 := K3.later hb; replace K4 := K4.later hb; replace k0 := cell_later hb k0; replace k1 := cell_later hb k1; replace c40 := K4.c0; replace c41 := K4.c1; replace f40 := K4.f 0; replace f41 := K4.f 1; clear hb) | (go_at_call 37; refine (extreme_c l x y _ _ _ _ rfl h1 hl0 ((HA.out.later hbw).mono hbw.size)).mono ?_; rw [hE]; rintro e w2 ⟨rfl, hb⟩; replace hbw := grew hbw hb; replace K3 := K3.later hb; replace K4 := K4.later hb; replace k0 := cell_later hb k0; replace k1 := cell_later hb k1; replace c40 := K4.c0; replace c41 := K4.c1; replace f40 := K4.f 0; replace f41 := K4.f 1; clear hb))
    have HW := hid (K4.set ex ey)
    have hbz := (hbw.setCell (p := ⟨w.heap.size + 1, 0, none⟩) (by show w.heap.size ≤ w.heap.size + 1; omega) (.int .i64 ex)).setCell (p := ⟨w.heap.size + 1, 1, none⟩) (by show w.heap.size ≤ w.heap.size + 1; omega) (.int .i64 ey)
    have r0 := HW.out.c0
    have r1 := HW.out.c1
    generalize (w2.setCell ⟨w.heap.size + 1, 0, none⟩ (.int .i64 ex)).setCell ⟨w.heap.size + 1, 1, none⟩ (.int .i64 ey) = wz at r0 r1 hbz ⊢
    refine bodyPost_ret (v := .tuple #[.agg #[.int .i64 ex, .int .i64 ey], .bool true]) (by simp [results, Tryd.results11, go_sem, r0, r1]) rfl ?_
    exact ⟨ret_pb (p := (ex, ey)) (by unfold exP; rw [HZ.out, if_pos rfl, HE.out]) (by rw [HZ.out]), hbz⟩
set_option maxHeartbeats 8000000 in
theorem extremeImpl_c (l : List (Int × Int)) (x y : Int) (a : Option Addr) (len cap : Nat) (w : World) (hl : l.length = len) (h1 : len ≤ 1048576) (hA : At w.heap.size a l w) (c0 : w.cell? ⟨0, 0, none⟩ = some (.int .i64 1000000)) :
    Calls Tryd.prog 14 #[.slice a len cap, .agg #[.int .i64 x, .int .i64 y]] w fun e w' => e = .returned (.tuple #[.agg #[.int .i64 (exP l x y).1, .int .i64 (exP l x y).2], .bool (exOk l x y)]) ∧ Below w.heap.size w w' := by
  subst hl
  have HA := hid hA
  have C0 := hid c0
  clear hA c0
  have hbw : Below w.heap.size w ((w.alloc (.cells #[.int .i64 x, .int .i64 y] 26)).alloc (.cells #[.int .i64 0, .int .i64 0] 26)) := by go_grown
  have K3 := BoxP.later (BoxP.new w x y) ((Below.refl _ _).alloc (Nat.le_refl _) (.cells #[.int .i64 0, .int .i64 0] 26))
  have K4 := BoxP.new (w.alloc (.cells #[.int .i64 x, .int .i64 y] 26)) 0 0
  simp only [World.size_alloc] at K4
  go_enter Tryd.func14, Tryd.ntmps14
  go_upto_region 1 with fail
  generalize ((w.alloc (.cells #[.int .i64 x, .int .i64 y] 26)).alloc (.cells #[.int .i64 0, .int .i64 0] 26)) = w0 at hbw K3 K4 ⊢
  have k0 := K3.c0
  have k1 := K3.c1
  have c40 := K4.c0
  have c41 := K4.c1
  have f40 := K4.f 0
  have f41 := K4.f 1
  cases hG : ghB l
  · have HZ := hid (show exOk l x y = false by unfold exOk; rw [hG]; rfl)
    go_wp2_with (go_at_call 38; refine (goodHullImpl_c l _ _ _ _ rfl h1 ((HA.out.later hbw).mono hbw.size) (cell_later hbw C0.out)).mono ?_; rw [hG]; rintro e w1 ⟨rfl, hb⟩; replace hbw := grew hbw hb; replace K3 := K3.later hb; replace K4 := K4.later hb; replace k0 := cell_later hb k0; replace k1 := cell_later hb k1; replace c40 := K4.c0; replace c41 := K4.c1; replace f40 := K4.f 0; replace f41 := K4.f 1; clear hb)
    have HW := hid (K4.set 0 0)
    have hbz := (hbw.setCell (p := ⟨w.heap.size + 1, 0, none⟩) (by show w.heap.size ≤ w.heap.size + 1; omega) (.int .i64 0)).setCell (p := ⟨w.heap.size + 1, 1, none⟩) (by show w.heap.size ≤ w.heap.size + 1; omega) (.int .i64 0)
    have r0 := HW.out.c0
    have r1 := HW.out.c1
    generalize (w1.setCell ⟨w.heap.size + 1, 0, none⟩ (.int .i64 0)).setCell ⟨w.heap.size + 1, 1, none⟩ (.int .i64 0) = wz at r0 r1 hbz ⊢
    refine bodyPost_ret (v := .tuple #[.agg #[.int .i64 0, .int .i64 0], .bool false]) (by simp [results, Tryd.results14, go_sem, r0, r1]) rfl ?_
    exact ⟨ret_pb (p := (0, 0)) (by unfold exP; rw [HZ.out]; rfl) (by rw [HZ.out]), hbz⟩
  · by_cases hl : l.length = 0
    · have HZ := hid (show exOk l x y = false by unfold exOk; rw [hG, decide_eq_true hl]; rfl)
      have hl2 : ((l.length : Int) == 0) = true := by simpa using hl
      clear hl
      go_wp2_with (go_at_call 38; refine (goodHullImpl_c l _ _ _ _ rfl h1 ((HA.out.later hbw).mono hbw.size) (cell_later hbw C0.out)).mono ?_; rw [hG]; rintro e w1 ⟨rfl, hb⟩; replace hbw := grew hbw hb; replace K3 := K3.later hb; replace K4 := K4.later hb; replace k0 := cell_later hb k0; replace k1 := cell_later hb k1; replace c40 := K4.c0; replace c41 := K4.c1; replace f40 := K4.f 0; replace f41 := K4.f 1; clear hb)
      have HW := hid (K4.set 0 0)
      have hbz := (hbw.setCell (p := ⟨w.heap.size + 1, 0, none⟩) (by show w.heap.size ≤ w.heap.size + 1; omega) (.int .i64 0)).setCell (p := ⟨w.heap.size + 1, 1, none⟩) (by show w.heap.size ≤ w.heap.size + 1; omega) (.int .i64 0)
      have r0 := HW.out.c0
      have r1 := HW.out.c1
      generalize (w1.setCell ⟨w.heap.size + 1, 0, none⟩ (.int .i64 0)).setCell ⟨w.heap.size + 1, 1, none⟩ (.int .i64 0) = wz at r0 r1 hbz ⊢
      refine bodyPost_ret (v := .tuple #[.agg #[.int .i64 0, .int .i64 0], .bool false]) (by simp [results, Tryd.results14, go_sem, r0, r1]) rfl ?_
      exact ⟨ret_pb (p := (0, 0)) (by unfold exP; rw [HZ.out]; rfl) (by rw [HZ.out]), hbz⟩
    · have hl2 : ((l.length : Int) == 0) = false := by simpa using hl
      have hl0 : 0 < l.length := by omega
      cases hP : goodB x y
      · have HZ := hid (show exOk l x y = false by unfold exOk; rw [hG, hP, decide_eq_false hl]; rfl)
        clear hl
        go_wp2_with (first | (go_at_call 38; refine (goodHullImpl_c l _ _ _ _ rfl h1 ((HA.out.later hbw).mono hbw.size) (cell_later hbw C0.out)).mono ?_; rw [hG]; rintro e w1 ⟨rfl, hb⟩; replace hbw := grew hbw hb; replace K3 := K3.later hb; replace K4 := K4.later hb; replace k0 := cell_later hb k0; replace k1 := cell_later hb k1; replace c40 := K4.c0; replace c41 := K4.c1; replace f40 := K4.f 0; replace f41 := K4.f 1; clear hb) | (go_at_call 39; refine (goodImpl_e _ _ _ (cell_later hbw C0.out)).mono ?_; rw [hP]; rintro e w2 ⟨rfl, hb⟩; replace hbw := grew hbw hb; replace K3 := K3.later hb; replace K4 := K4.later hb; replace k0 := cell_later hb k0; replace k1 := cell_later hb k1; replace c40 := K4.c0; replace c41 := K4.c1; replace f40 := K4.f 0; replace f41 := K4.f 1; clear hb))
        have HW := hid (K4.set 0 0)
        have hbz := (hbw.setCell (p := ⟨w.heap.size + 1, 0, none⟩) (by show w.heap.size ≤ w.heap.size + 1; omega) (.int .i64 0)).setCell (p := ⟨w.heap.size + 1, 1, none⟩) (by show w.heap.size ≤ w.heap.size + 1; omega) (.int .i64 0)
        have r0 := HW.out.c0
        have r1 := HW.out.c1
        generalize (w2.setCell ⟨w.heap.size + 1, 0, none⟩ (.int .i64 0)).setCell ⟨w.heap.size + 1, 1, none⟩ (.int .i64 0) = wz at r0 r1 hbz ⊢
        refine bodyPost_ret (v := .tuple #[.agg #[.int .i64 0, .int .i64 0], .bool false]) (by simp [results, Tryd.results14, go_sem, r0, r1]) rfl ?_
        exact ⟨ret_pb (p := (0, 0)) (by unfold exP; rw [HZ.out]; rfl) (by rw [HZ.out]), hbz⟩
      · by_cases hx : x = 0
        · by_cases hy : y = 0
          · subst hx hy
            have HZ := hid (show exOk l 0 0 = false by unfold exOk; rw [hG, hP, decide_eq_false hl]; rfl)
            clear hl
            go_wp2_with (first | (go_at_call 38; refine (goodHullImpl_c l _ _ _ _ rfl h1 ((HA.out.later hbw).mono hbw.size) (cell_later hbw C0.out)).mono ?_; rw [hG]; rintro e w1 ⟨rfl, hb⟩; replace hbw := grew hbw hb; replace K3 := K3.later hb; replace K4 := K4.later hb; replace k0 := cell_later hb k0; replace k1 := cell_later hb k1; replace c40 := K4.c0; replace c41 := K4.c1; replace f40 := K4.f 0; replace f41 := K4.f 1; clear hb) | (go_at_call 39; refine (goodImpl_e _ _ _ (cell_later hbw C0.out)).mono ?_; rw [hP]; rintro e w2 ⟨rfl, hb⟩; replace hbw := grew hbw hb; replace K3 := K3.later hb; replace K4 := K4.later hb; replace k0 := cell_later hb k0; replace k1 := cell_later hb k1; replace c40 := K4.c0; replace c41 := K4.c1; replace f40 := K4.f 0; replace f41 := K4.f 1; clear hb))
            have HW := hid (K4.set 0 0)
            have hbz := (hbw.setCell (p := ⟨w.heap.size + 1, 0, none⟩) (by show w.heap.size ≤ w.heap.size + 1; omega) (.int .i64 0)).setCell (p := ⟨w.heap.size + 1, 1, none⟩) (by show w.heap.size ≤ w.heap.size + 1; omega) (.int .i64 0)
            have r0 := HW.out.c0
            have r1 := HW.out.c1
            generalize (w2.setCell ⟨w.heap.size + 1, 0, none⟩ (.int .i64 0)).setCell ⟨w.heap.size + 1, 1, none⟩ (.int .i64 0) = wz at r0 r1 hbz ⊢
            refine bodyPost_ret (v := .tuple #[.agg #[.int .i64 0, .int .i64 0], .bool false]) (by simp [results, Tryd.results14, go_sem, r0, r1]) rfl ?_
            exact ⟨ret_pb (p := (0, 0)) (by unfold exP; rw [HZ.out]; rfl) (by rw [HZ.out]), hbz⟩
          · have hy2 : (y == 0) = false := by simpa using hy
            have HZ := hid (show exOk l x y = true by unfold exOk; rw [hG, hP, decide_eq_false hl, decide_eq_false hy, Bool.and_false]; rfl)
            have hx2 : (x == 0) = true := by simpa using hx
            clear hy hl hx
            have hS := ex_same HZ.out
            obtain ⟨⟨ex, ey⟩, hE2⟩ : ∃ e, farOf (exB (x, y)) l = e := ⟨_, rfl⟩
            have HE := hid hE2
            have hE := hS.trans hE2
            clear hS hE2
            go_wp2_with (first | (go_at_call 38; refine (goodHullImpl_c l _ _ _ _ rfl h1 ((HA.out.later hbw).mono hbw.size) (cell_later hbw C0.out)).mono ?_; rw [hG]; rintro e w1 ⟨rfl, hb⟩; replace hbw := grew hbw hb; replace K3 := K3.later hb; replace K4 := K4.later hb; replace k0 := cell_later hb k0; replace k1 := cell_later hb k1; replace c40 := K4.c0; replace c41 := K4.c1; replace f40 := K4.f 0; replace f41 := K4.f 1; clear hb) | (go_at_call 39; refine (goodImpl_e _ _ _ (cell_later hbw C0.out)).mono ?_; rw [hP]; rintro e w2 ⟨rfl, hb⟩; replace hbw := grew hbw hb; replace K3 := K3.later hb; replace K4 := K4.later hb; replace k0 := cell_later hb k0; replace k1 := cell_later hb k1; replace c40 := K4.c0; replace c41 := K4.c1; replace f40 := K4.f 0; replace f41 := K4.f 1; clear hb) | (go_at_call 40; refine (along_c _ _ _).mono ?_; rintro e w3 ⟨Bd, rfl, KD, _, hb⟩; replace hbw := grew hbw hb; replace K3 := K3.later hb; replace K4 := K4.later hb; replace k0 := cell_later hb k0; replace k1 := cell_later hb k1; replace c40 := K4.c0; replace c41 := K4.c1; replace f40 := K4.f 0; replace f41 := K4.f 1; clear hb) | (go_at_call 41; refine (farAlong_c l x y _ _ _ _ rfl h1 hl0 ((HA.out.later hbw).mono hbw.size) (cell_later hbw C0.out) Bd KD).mono ?_; rw [hE]; rintro e w4 ⟨rfl, hb⟩; replace hbw := grew hbw hb; replace K3 := K3.later hb; replace K4 := K4.later hb; replace k0 := cell_later hb k0; replace k1 := cell_later hb k1; replace c40 := K4.c0; replace c41 := K4.c1; replace f40 := K4.f 0; replace f41 := K4.f 1; clear hb))
            have HW := hid (K4.set ex ey)
            have hbz := (hbw.setCell (p := ⟨w.heap.size + 1, 0, none⟩) (by show w.heap.size ≤ w.heap.size + 1; omega) (.int .i64 ex)).setCell (p := ⟨w.heap.size + 1, 1, none⟩) (by show w.heap.size ≤ w.heap.size + 1; omega) (.int .i64 ey)
            have r0 := HW.out.c0
            have r1 := HW.out.c1
            generalize (w4.setCell ⟨w.heap.size + 1, 0, none⟩ (.int .i64 ex)).setCell ⟨w.heap.size + 1, 1, none⟩ (.int .i64 ey) = wz at r0 r1 hbz ⊢
            refine bodyPost_ret (v := .tuple #[.agg #[.int .i64 ex, .int .i64 ey], .bool true]) (by simp [results, Tryd.results14, go_sem, r0, r1]) rfl ?_
            exact ⟨ret_pb (p := (ex, ey)) (by unfold exP; rw [HZ.out, if_pos rfl, HE.out]) (by rw [HZ.out]), hbz⟩
        · have hx2 : (x == 0) = false := by simpa using hx
          have HZ := hid (show exOk l x y = true by unfold exOk; rw [hG, hP, decide_eq_false hl, decide_eq_false hx]; rfl)
          clear hx hl
          have hS := ex_same HZ.out
          obtain ⟨⟨ex, ey⟩, hE2⟩ : ∃ e, farOf (exB (x, y)) l = e := ⟨_, rfl⟩
          have HE := hid hE2
          have hE := hS.trans hE2
          clear hS hE2
          go_wp2_with (first | (go_at_call 38; refine (goodHullImpl_c l _ _ _ _ rfl h1 ((HA.out.later hbw).mono hbw.size) (cell_later hbw C0.out)).mono ?_; rw [hG]; rintro e w1 ⟨rfl, hb⟩; replace hbw := grew hbw hb; replace K3 := K3.later hb; replace K4 := K4.later hb; replace k0 := cell_later hb k0; replace k1 := cell_later hb k1; replace c40 := K4.c0; replace c41 := K4.c1; replace f40 := K4.f 0; replace f41 := K4.f 1; clear hb) | (go_at_call 39; refine (goodImpl_e _ _ _ (cell_later hbw C0.out)).mono ?_; rw [hP]; rintro e w2 ⟨rfl, hb⟩; replace hbw := grew hbw hb; replace K3 := K3.later hb; replace K4 := K4.later hb; replace k0 := cell_later hb k0; replace k1 := cell_later hb k1; replace c40 := K4.c0; replace c41 := K4.c1; replace f40 := K4.f 0; replace f41 := K4.f 1; clear hb) | (go_at_call 40; refine (along_c _ _ _).mono ?_; rintro e w3 ⟨Bd, rfl, KD, _, hb⟩; replace hbw := grew hbw hb; replace K3 := K3.later hb; replace K4 := K4.later hb; replace k0 := cell_later hb k0; replace k1 := cell_later hb k1; replace c40 := K4.c0; replace c41 := K4.c1; replace f40 := K4.f 0; replace f41 := K4.f 1; clear hb) | (go_at_call 41; refine (farAlong_c l x y _ _ _ _ rfl h1 hl0 ((HA.out.later hbw).mono hbw.size) (cell_later hbw C0.out) Bd KD).mono ?_; rw [hE]; rintro e w4 ⟨rfl, hb⟩; replace hbw := grew hbw hb; replace K3 := K3.later hb; replace K4 := K4.later hb; replace k0 := cell_later hb k0; replace k1 := cell_later hb k1; replace c40 := K4.c0; replace c41 := K4.c1; replace f40 := K4.f 0; replace f41 := K4.f 1; clear hb))
          have HW := hid (K4.set ex ey)
          have hbz := (hbw.setCell (p := ⟨w.heap.size + 1, 0, none⟩) (by show w.heap.size ≤ w.heap.size + 1; omega) (.int .i64 ex)).setCell (p := ⟨w.heap.size + 1, 1, none⟩) (by show w.heap.size ≤ w.heap.size + 1; omega) (.int .i64 ey)
          have r0 := HW.out.c0
          have r1 := HW.out.c1
          generalize (w4.setCell ⟨w.heap.size + 1, 0, none⟩ (.int .i64 ex)).setCell ⟨w.heap.size + 1, 1, none⟩ (.int .i64 ey) = wz at r0 r1 hbz ⊢
          refine bodyPost_ret (v := .tuple #[.agg #[.int .i64 ex, .int .i64 ey], .bool true]) (by simp [results, Tryd.results14, go_sem, r0, r1]) rfl ?_
          exact ⟨ret_pb (p := (ex, ey)) (by unfold exP; rw [HZ.out, if_pos rfl, HE.out]) (by rw [HZ.out]), hbz⟩
theorem su_ex (l : List (Int × Int)) (x y : Int) : suV l x y = scW (x, y) (exP l x y) := by
  unfold suV exP
  split
  · rfl
  · unfold scW; simp [wrap64]
set_option maxHeartbeats 4000000 in
theorem supportImpl_c (l : List (Int × Int)) (x y : Int) (a : Option Addr) (len cap : Nat) (w : World) (hl : l.length = len) (h1 : len ≤ 1048576) (hA : At w.heap.size a l w) (c0 : w.cell? ⟨0, 0, none⟩ = some (.int .i64 1000000)) :
    Calls Tryd.prog 18 #[.slice a len cap, .agg #[.int .i64 x, .int .i64 y]] w fun e w' => e = .returned (.tuple #[.int .i64 (suV l x y), .bool (exOk l x y)]) ∧ Below w.heap.size w w' := by
  subst hl
  have HA := hid hA
  have C0 := hid c0
  clear hA c0
  have hbw : Below w.heap.size w (w.alloc (.cells #[.int .i64 x, .int .i64 y] 26)) := by go_grown
  have k0 := box0 w x y 26
  have k1 := box1 w x y 26
  obtain ⟨⟨ex, ey⟩, hE⟩ : ∃ e, exP l x y = e := ⟨_, rfl⟩
  have HE := hid hE
  go_enter Tryd.func18, Tryd.ntmps18
  go_upto_region 1 with fail
  generalize (w.alloc (.cells #[.int .i64 x, .int .i64 y] 26)) = w0 at hbw k0 k1 ⊢
  go_wp2_with (go_at_call 14; refine (extremeImpl_c l x y _ _ _ _ rfl h1 ((HA.out.later hbw).mono hbw.size) (cell_later hbw C0.out)).mono ?_; rw [hE]; rintro e w1 ⟨rfl, hb⟩; replace hbw := grew hbw hb; replace k0 := cell_later hb k0; replace k1 := cell_later hb k1; clear hb; have hsz : w.heap.size < w1.heap.size := World.block_lt_of_cell? _ _ k0)
  go_ret2
  exact ⟨ret_ib (by rw [su_ex, HE.out]; rfl) rfl, grew hbw (by go_grown)⟩
set_option maxHeartbeats 4000000 in
theorem supportSpec_c (l : List (Int × Int)) (x y : Int) (a : Option Addr) (len cap : Nat) (w : World) (hl : l.length = len) (h1 : len ≤ 1048576) (hA : At w.heap.size a l w) :
    Calls Tryd.prog 17 #[.slice a len cap, .agg #[.int .i64 x, .int .i64 y]] w fun e w' => e = .returned (.tuple #[.int .i64 (suV l x y), .bool (exOk l x y)]) ∧ Below w.heap.size w w' := by
  subst hl
  have HA := hid hA
  clear hA
  have hbw : Below w.heap.size w (w.alloc (.cells #[.int .i64 x, .int .i64 y] 26)) := by go_grown
  have k0 := box0 w x y 26
  have k1 := box1 w x y 26
  go_enter Tryd.func17, Tryd.ntmps17
  go_upto_region 1 with fail
  generalize (w.alloc (.cells #[.int .i64 x, .int .i64 y] 26)) = w0 at hbw k0 k1 ⊢
  cases hz : exOk l x y
  · have HZ := hid hz
    go_wp2_with (go_at_call 36; refine (asked_c l x y _ _ _ _ rfl h1 ((HA.out.later hbw).mono hbw.size)).mono ?_; rw [hz]; rintro e w1 ⟨rfl, hb⟩; replace hbw := grew hbw hb; replace k0 := cell_later hb k0; replace k1 := cell_later hb k1; clear hb)
    go_ret2
    exact ⟨ret_ib (by unfold suV; rw [HZ.out]; rfl) (by rw [HZ.out]), hbw⟩
  · have HZ := hid hz
    have hl0 := (exOk_parts hz).2.2.1
    obtain ⟨⟨ex, ey⟩, hE⟩ : ∃ e, farOf (exB (x, y)) l = e := ⟨_, rfl⟩
    have HE := hid hE
    go_wp2_with (go_at_call 36; refine (asked_c l x y _ _ _ _ rfl h1 ((HA.out.later hbw).mono hbw.size)).mono ?_; rw [hz]; rintro e w1 ⟨rfl, hb⟩; replace hbw := grew hbw hb; replace k0 := cell_later hb k0; replace k1 := cell_later hb k1; clear hb)
    go_region_held3 (fun u => u.cell? ⟨w.heap.size, 0, none⟩ = some (.int .i64 x) ∧ u.cell? ⟨w.heap.size, 1, none⟩ = some (.int .i64 y) ∧ Below w.heap.size w u) (first | exact keep2 (by with_reducible assumption) (by with_reducible assumption) | exact ⟨cell_later (Below.refl _ _).drew k0, cell_later (Below.refl _ _).drew k1, grew hbw (Below.refl _ _).drew⟩) (first | (go_at_call 37; refine (extreme_c l x y _ _ _ _ rfl h1 hl0 ((HA.out.later (by rename _ ∧ _ => hS; exact hS.2.2)).mono (by rename _ ∧ _ => hS; exact hS.2.2.size))).mono ?_; rw [hE]; rintro e w2 ⟨rfl, hb⟩) | (go_at_call 42; refine (score_c _ _ _ _ _).mono ?_; rintro e w3 ⟨rfl, hb⟩))
    rename _ ∧ _ => hS
    go_wp2
    go_ret2
    exact ⟨ret_ib (by unfold suV; rw [HZ.out, if_pos rfl, HE.out]) (by rw [HZ.out]), hS.2.2⟩
end Go.Proofs.YtegmlemejmahiaaDoor
