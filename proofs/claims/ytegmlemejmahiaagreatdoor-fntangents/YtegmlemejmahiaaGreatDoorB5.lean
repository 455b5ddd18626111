/-
  Points, sets and hulls: contracts for the walks (Far5, Far6, Far7, Far8, Hold5, Far9 in one text).
  Conditions: as each theorem states them.
-/
import Derived.Test.YtegmlemejmahiaaGreatDoorFarMath
import Derived.Test.YtegmlemejmahiaaGreatDoorHNext
import Derived.Laws.EntriesVeiled
import Derived.Deep.RegionHeld3
namespace Go.Proofs.YtegmlemejmahiaaGreatDoor
open Go.RowKit Go.Shelf
set_option linter.unusedVariables false
set_option maxRecDepth 8000
set_option maxHeartbeats 2000000 in
theorem toSide1_c (x y bx b_y : Int) (Bd Bs : Nat) (w : World) (dx dy s : Int) (hs : s = 1 ∨ s = -1) (hd : BoxP w Bd (dx, dy)) (hc : w.cell? ⟨Bs, 0, none⟩ = some (.int .i64 s)) (c0 : w.cell? ⟨0, 0, none⟩ = some (.int .i64 1000000)) : Calls Tryz.prog 53 #[.agg #[.int .i64 x, .int .i64 y], .agg #[.int .i64 bx, .int .i64 b_y], .pointer (some ⟨Bd, 0, none⟩), .pointer (some ⟨Bs, 0, none⟩)] w fun e w' => e = .returned (.bool (tsB (dx, dy) s (x, y) (bx, b_y))) ∧ Below w.heap.size w w' := by
  have C0 := hid c0
  have C4 := hid hd.c0
  have C5 := hid hd.c1
  have C6 := hid hc
  clear c0 hd hc
  have s1 : ∀ v : Int, sideN dx dy bx b_y x y = v → tsB (dx, dy) s (x, y) (bx, b_y) = ((v == s) || byB (dx, dy) (x, y) (bx, b_y)) := fun v hv => by unfold tsB; rw [hv]
  cases hL : byB (dx, dy) (x, y) (bx, b_y)
  all_goals (have hv : sideN dx dy bx b_y x y = 1 ∨ sideN dx dy bx b_y x y = 0 ∨ sideN dx dy bx b_y x y = -1 := by unfold sideN sg; split <;> (try split) <;> (try split) <;> simp)
  all_goals rcases hs with rfl | rfl
  all_goals rcases hv with hv | hv | hv
  all_goals have HE := hid (s1 _ hv)
  all_goals clear s1
  all_goals rw [hL] at HE
  all_goals go_enter Tryz.func53, Tryz.ntmps53
  all_goals go_upto_region 1 with fail
  all_goals
    have K0 := BoxP.later (BoxP.new w x y) ((Below.refl _ _).alloc (Nat.le_refl _) (.cells #[.int .i64 bx, .int .i64 b_y] 26))
    have K1 := BoxP.new (w.alloc (.cells #[.int .i64 x, .int .i64 y] 26)) bx b_y
    simp only [World.size_alloc] at K1
    have hbw : Below w.heap.size w ((w.alloc (.cells #[.int .i64 x, .int .i64 y] 26)).alloc (.cells #[.int .i64 bx, .int .i64 b_y] 26)) := by go_grown
    have k4 := cell_later hbw C4.out
    have k5 := cell_later hbw C5.out
    generalize (w.alloc (.cells #[.int .i64 x, .int .i64 y] 26)).alloc (.cells #[.int .i64 bx, .int .i64 b_y] 26) = w0 at K0 K1 hbw k4 k5 ⊢
    have k0 := K0.c0
    have k1 := K0.c1
    have k2 := K1.c0
    have k3 := K1.c1
    clear K0 K1
    have k6 := cell_later hbw C6.out
  all_goals go_wp2_with (first
      | (go_at_call 9; refine (sideOfImpl_c _ _ _ _ _ _ _ (cell_later hbw C0.out)).mono ?_; rw [hv]; rintro e w1 ⟨rfl, hb⟩; replace k6 := cell_later hb k6; replace hbw := grew hbw hb; replace k0 := cell_later hb k0; replace k1 := cell_later hb k1; replace k2 := cell_later hb k2; replace k3 := cell_later hb k3; replace k4 := cell_later hb k4; replace k5 := cell_later hb k5; clear hb)
      | (go_at_call 54; refine (isBeyond_c _ _ _ _ _ _ _ (cell_later hbw C0.out)).mono ?_; rw [hL]; rintro e w1 ⟨rfl, hb⟩; replace k6 := cell_later hb k6; replace hbw := grew hbw hb; replace k0 := cell_later hb k0; replace k1 := cell_later hb k1; replace k2 := cell_later hb k2; replace k3 := cell_later hb k3; replace k4 := cell_later hb k4; replace k5 := cell_later hb k5; clear hb))
  all_goals go_ret
  all_goals exact ⟨ret_bool (by rw [HE.out]; first | done | rfl | simp), hbw⟩
end Go.Proofs.YtegmlemejmahiaaGreatDoor
namespace Go.Proofs.YtegmlemejmahiaaGreatDoor
open Go.RowKit Go.Shelf
set_option linter.unusedVariables false
set_option maxRecDepth 8000
/-- A box that holds one value. -/
def BoxV (W : World) (B : Nat) (v : Value) (t : Nat) : Prop := W.heap[B]? = some (.cells #[v] t (0, 0))
theorem BoxV.c0 {W : World} {B t : Nat} {v : Value} (h : BoxV W B v t) : W.cell? ⟨B, 0, none⟩ = some v := by simp [World.cell?, show W.heap[B]? = _ from h]
theorem BoxV.lt {W : World} {B t : Nat} {v : Value} (h : BoxV W B v t) : B < W.heap.size := (Array.getElem?_eq_some_iff.1 h).1
theorem BoxV.later {W W' : World} {B t : Nat} {v : Value} (h : BoxV W B v t) (hb : Below W.heap.size W W') : BoxV W' B v t := (hb.block B h.lt).trans h
theorem BoxV.new (W : World) (v : Value) (t : Nat) : BoxV (W.alloc (.cells #[v] t)) W.heap.size v t := World.alloc_heap_new W _
theorem BoxV.other {W : World} {B B' i t : Nat} {u : Value} (h : BoxV W B u t) (hne : B ≠ B') (v : Value) : BoxV (W.setCell ⟨B', i, none⟩ v) B u t := (Below.heap_setCell W _ v B hne).trans h
theorem BoxV.set {W : World} {B t : Nat} {v : Value} (h : BoxV W B v t) (u : Value) : BoxV (W.setCell ⟨B, 0, none⟩ u) B u t := by
  obtain ⟨hlt, hk⟩ := Array.getElem?_eq_some_iff.1 h
  show (W.heap.modify B _)[B]? = _
  rw [Array.getElem?_eq_getElem (by rw [Array.size_modify]; exact hlt), Array.getElem_modify_self, hk]
  rfl
theorem fold_far_yes {f : Int × Int → Int × Int → Bool} {l : List (Int × Int)} {k : Nat} {b : Int × Int} (h : k < l.length) (e : f (px l k, py l k) ((l.take k).foldl (farStep f) b) = true) : (l.take (k + 1)).foldl (farStep f) b = (px l k, py l k) := by
  rw [fold_take h]; unfold farStep at e ⊢; rw [if_pos e]
theorem fold_far_no {f : Int × Int → Int × Int → Bool} {l : List (Int × Int)} {k : Nat} {b : Int × Int} (h : k < l.length) (e : f (px l k, py l k) ((l.take k).foldl (farStep f) b) = false) : (l.take (k + 1)).foldl (farStep f) b = (l.take k).foldl (farStep f) b := by
  rw [fold_take h]; unfold farStep at e ⊢; rw [if_neg (by rw [e]; exact Bool.false_ne_true)]
theorem keepS6 {w W W' : World} {a0 a1 a2 a3 a4 a5 : Addr} {v0 v1 v2 v3 v4 v5 : Value} (hb : Below W.heap.size W W') (h : W.cell? a0 = some v0 ∧ W.cell? a1 = some v1 ∧ W.cell? a2 = some v2 ∧ W.cell? a3 = some v3 ∧ W.cell? a4 = some v4 ∧ W.cell? a5 = some v5 ∧ Below w.heap.size w W) :
    W'.cell? a0 = some v0 ∧ W'.cell? a1 = some v1 ∧ W'.cell? a2 = some v2 ∧ W'.cell? a3 = some v3 ∧ W'.cell? a4 = some v4 ∧ W'.cell? a5 = some v5 ∧ Below w.heap.size w W' :=
  ⟨cell_later hb h.1, cell_later hb h.2.1, cell_later hb h.2.2.1, cell_later hb h.2.2.2.1, cell_later hb h.2.2.2.2.1, cell_later hb h.2.2.2.2.2.1, h.2.2.2.2.2.2.trans (hb.mono h.2.2.2.2.2.2.size)⟩
theorem startS6 {w W W' : World} {a0 a1 a2 a3 a4 a5 : Addr} {v0 v1 v2 v3 v4 v5 : Value} (hb : Below W.heap.size W W') (c0 : W.cell? a0 = some v0) (c1 : W.cell? a1 = some v1) (c2 : W.cell? a2 = some v2) (c3 : W.cell? a3 = some v3) (c4 : W.cell? a4 = some v4) (c5 : W.cell? a5 = some v5) (h : Below w.heap.size w W) :
    W'.cell? a0 = some v0 ∧ W'.cell? a1 = some v1 ∧ W'.cell? a2 = some v2 ∧ W'.cell? a3 = some v3 ∧ W'.cell? a4 = some v4 ∧ W'.cell? a5 = some v5 ∧ Below w.heap.size w W' :=
  ⟨cell_later hb c0, cell_later hb c1, cell_later hb c2, cell_later hb c3, cell_later hb c4, cell_later hb c5, h.trans (hb.mono h.size)⟩
set_option maxHeartbeats 2000000 in
theorem toSide_c (x y s : Int) (w : World) : Calls Tryz.prog 24 #[.agg #[.int .i64 x, .int .i64 y], .int .i64 s] w fun e w' => ∃ B S, e = .returned (.agg #[.func (.func 53) #[] #[.pointer (some ⟨B, 0, none⟩), .pointer (some ⟨S, 0, none⟩)]]) ∧ BoxP w' B (x, y) ∧ BoxV w' S (.int .i64 s) 3 ∧ w.heap.size ≤ B ∧ w.heap.size ≤ S ∧ Below w.heap.size w w' := by
  go_enter Tryz.func24, Tryz.ntmps24
  go_wp2
  refine bodyPost_ret (v := .agg #[.func (.func 53) #[] #[.pointer (some ⟨w.heap.size, 0, none⟩), .pointer (some ⟨w.heap.size + 1, 0, none⟩)]]) (by simp [results, Tryz.results24, go_sem]) rfl ?_
  refine ⟨w.heap.size, w.heap.size + 1, ?_, ?_, ?_, Nat.le_refl _, by omega, by go_grown⟩
  · first | rfl | (simp [go_sem])
  · exact BoxP.later (BoxP.later (BoxP.new w x y) ((Below.refl _ _).alloc (Nat.le_refl _) _)) ((Below.refl _ _).alloc (Nat.le_refl _) _)
  · have h := BoxV.later (BoxV.new (w.alloc (.cells #[.int .i64 x, .int .i64 y] 26)) (.int .i64 s) 3) ((Below.refl _ _).alloc (Nat.le_refl _) (.cells #[.func (.func 53) #[] #[.pointer (some ⟨w.heap.size, 0, none⟩), .pointer (some ⟨w.heap.size + 1, 0, none⟩)]] 54))
    simp only [World.size_alloc] at h
    exact h
set_option maxHeartbeats 2000000 in
theorem farSide_c (l : List (Int × Int)) (dx dy : Int) (a : Option Addr) (len cap : Nat) (w : World) (hl : l.length = len) (h1 : len ≤ 1048576) (h0 : 0 < len) (hA : At w.heap.size a l w) (c0 : w.cell? ⟨0, 0, none⟩ = some (.int .i64 1000000)) (s : Int) (Bd Bs : Nat) (hs : s = 1 ∨ s = -1) (hd : BoxP w Bd (dx, dy)) (hv : BoxV w Bs (.int .i64 s) 3) :
    Calls Tryz.prog 25 #[.agg #[.func (.func 53) #[] #[.pointer (some ⟨Bd, 0, none⟩), .pointer (some ⟨Bs, 0, none⟩)]], .slice a len cap] w fun e w' => e = .returned (.agg #[.int .i64 (farOf (tsB (dx, dy) s) l).1, .int .i64 (farOf (tsB (dx, dy) s) l).2]) ∧ Below w.heap.size w w' := by
  subst hl
  have hz : 0 < w.heap.size := World.block_lt_of_cell? w _ c0
  have HA := hid hA
  have C0 := hid c0
  clear hA c0
  obtain ⟨b0, off0, rfl, hbN0, g00, g01⟩ := HA.out 0 h0
  obtain ⟨sx, hsx⟩ : ∃ x, px l 0 = x := ⟨_, rfl⟩
  obtain ⟨sy, hsy⟩ : ∃ x, py l 0 = x := ⟨_, rfl⟩
  have HS0 := hid (show Go.Proofs.YtegmlemejmahiaaGreatDoor.pt l 0 = (sx, sy) by show (px l 0, py l 0) = _; rw [hsx, hsy])
  rw [hsx] at g00
  rw [hsy] at g01
  clear hsx hsy
  simp only [Nat.zero_mul, Nat.add_zero] at g00 g01
  have q00 := cell_later (show Below w.heap.size w ((w.alloc (.cells #[.func (.func 53) #[] #[.pointer (some ⟨Bd, 0, none⟩), .pointer (some ⟨Bs, 0, none⟩)]] 54)).alloc (.cells #[.int .i64 0, .int .i64 0] 26)) by go_grown) g00
  have q01 := cell_later (show Below w.heap.size w ((w.alloc (.cells #[.func (.func 53) #[] #[.pointer (some ⟨Bd, 0, none⟩), .pointer (some ⟨Bs, 0, none⟩)]] 54)).alloc (.cells #[.int .i64 0, .int .i64 0] 26)) by go_grown) g01
  have HD := hd
  have HV := hv
  clear hv
  clear hd
  have hw0 : (0 : Int) < (l.length : Int) := by omega
  go_enter Tryz.func25, Tryz.ntmps25
  go_wp2
  have G2 := BoxV.later (BoxV.later (BoxV.new w (.func (.func 53) #[] #[.pointer (some ⟨Bd, 0, none⟩), .pointer (some ⟨Bs, 0, none⟩)]) 54) ((Below.refl _ _).alloc (Nat.le_refl _) (.cells #[.int .i64 0, .int .i64 0] 26))) ((Below.refl _ _).alloc (Nat.le_refl _) (.cells #[.int .i64 sx, .int .i64 sy] 26))
  have G4 := BoxP.later (BoxP.new (w.alloc (.cells #[.func (.func 53) #[] #[.pointer (some ⟨Bd, 0, none⟩), .pointer (some ⟨Bs, 0, none⟩)]] 54)) 0 0) ((Below.refl _ _).alloc (Nat.le_refl _) (.cells #[.int .i64 sx, .int .i64 sy] 26))
  have G5 := BoxP.new ((w.alloc (.cells #[.func (.func 53) #[] #[.pointer (some ⟨Bd, 0, none⟩), .pointer (some ⟨Bs, 0, none⟩)]] 54)).alloc (.cells #[.int .i64 0, .int .i64 0] 26)) sx sy
  simp only [World.size_alloc] at G4 G5
  have hb0 : Below w.heap.size w (((w.alloc (.cells #[.func (.func 53) #[] #[.pointer (some ⟨Bd, 0, none⟩), .pointer (some ⟨Bs, 0, none⟩)]] 54)).alloc (.cells #[.int .i64 0, .int .i64 0] 26)).alloc (.cells #[.int .i64 sx, .int .i64 sy] 26)) := by go_grown
  clear g00 g01 q00 q01
  go_loopw [13] (fun i wr => ∃ (k : Nat) (best : Int × Int), k ≤ l.length ∧ i = .int .i64 k ∧ best = (l.take k).foldl (farStep (tsB (dx, dy) s)) (sx, sy) ∧ BoxV wr w.heap.size (.func (.func 53) #[] #[.pointer (some ⟨Bd, 0, none⟩), .pointer (some ⟨Bs, 0, none⟩)]) 54 ∧ BoxP wr (w.heap.size + 1) (0, 0) ∧ BoxP wr (w.heap.size + 2) best ∧ Below w.heap.size w wr) (fun i _ => l.length - (intOf i).toNat)
  case atStart => exact ⟨0, (sx, sy), Nat.zero_le _, rfl, rfl, G2, G4, G5, hb0⟩
  case round =>
    clear G2 G4 G5 hb0
    obtain ⟨k, ⟨bx, b_y⟩, hk, rfl, hbest, K2, K4, K5, hbw⟩ := hrel
    have HB := hid hbest.symm
    clear hbest
    replace HD := HD.later hbw
    replace HV := HV.later hbw
    by_cases hkl : k < l.length
    · obtain ⟨b, off, e0, hbN, g0, g1⟩ := HA.out k hkl
      cases e0
      have q0 := (hbw.cell (p := ⟨b0, off0 + k * 2, none⟩) hbN).trans g0
      have q1 := (hbw.cell (p := ⟨b0, off0 + k * 2 + 1, none⟩) hbN).trans g1
      have HY := hid (fun e => fold_far_yes (f := tsB (dx, dy) s) (b := (sx, sy)) hkl e)
      have HN := hid (fun e => fold_far_no (f := tsB (dx, dy) s) (b := (sx, sy)) hkl e)
      rw [HB.out] at HY HN
      clear g0 g1
      obtain ⟨x, hx⟩ : ∃ x, px l k = x := ⟨_, rfl⟩
      obtain ⟨y, hy⟩ : ∃ y, py l k = y := ⟨_, rfl⟩
      rw [hx, hy] at HY HN
      rw [hx] at q0
      rw [hy] at q1
      clear hx hy
      have hi0 : (0 : Int) ≤ (k : Int) := by omega
      have hi1 : (k : Int) < (l.length : Int) := by omega
      go_upto_region 5 with fail
      have K7 := BoxP.new wr x y
      have hb7 : Below wr.heap.size wr (wr.alloc (.cells #[.int .i64 x, .int .i64 y] 26)) := by go_grown
      replace K2 := K2.later hb7
      replace K4 := K4.later hb7
      replace K5 := K5.later hb7
      replace HD := HD.later hb7
      replace HV := HV.later hb7
      replace hbw := grew hbw hb7
      generalize wr.heap.size = B7 at K7 ⊢
      clear q0 q1 hb7
      generalize wr.alloc (.cells #[.int .i64 x, .int .i64 y] 26) = wp at *
      have c2 := K2.c0
      have c5x := K5.c0
      have c5y := K5.c1
      have c7x := K7.c0
      have c7y := K7.c1
      have f0 := K5.f 0
      have f1 := K5.f 1
      clear K7
      cases hF : (tsB (dx, dy) s) (x, y) (bx, b_y)
      · go_wp2_with (go_at_call 53; refine (toSide1_c _ _ _ _ Bd Bs _ dx dy s hs HD HV.c0 (cell_later hbw C0.out)).mono ?_; rw [hF]; rintro e w1 ⟨rfl, hb⟩; replace hbw := grew hbw hb; replace K2 := K2.later hb; replace K4 := K4.later hb; replace K5 := K5.later hb; replace HD := HD.later hb; replace HV := HV.later hb; replace c5x := cell_later hb c5x; replace c5y := cell_later hb c5y; replace c7x := cell_later hb c7x; replace c7y := cell_later hb c7y; replace f0 := K5.f 0; replace f1 := K5.f 1; clear hb)
        go_roundw
        case rel => exact ⟨k + 1, (bx, b_y), by omega, by go_num, (HN.out hF).symm, K2, K4, K5, hbw⟩
        case measure => simp [intOf]; omega
      · go_wp2_with (go_at_call 53; refine (toSide1_c _ _ _ _ Bd Bs _ dx dy s hs HD HV.c0 (cell_later hbw C0.out)).mono ?_; rw [hF]; rintro e w1 ⟨rfl, hb⟩; replace hbw := grew hbw hb; replace K2 := K2.later hb; replace K4 := K4.later hb; replace K5 := K5.later hb; replace HD := HD.later hb; replace HV := HV.later hb; replace c5x := cell_later hb c5x; replace c5y := cell_later hb c5y; replace c7x := cell_later hb c7x; replace c7y := cell_later hb c7y; replace f0 := K5.f 0; replace f1 := K5.f 1; clear hb)
        go_roundw
        case rel => exact ⟨k + 1, (x, y), by omega, by go_num, (HY.out hF).symm, (K2.other (by omega) _).other (by omega) _, (K4.other (by omega) _).other (by omega) _, K5.set _ _, (hbw.setCell (p := ⟨w.heap.size + 2, 0, none⟩) (by show w.heap.size ≤ w.heap.size + 2; omega) _).setCell (p := ⟨w.heap.size + 2, 1, none⟩) (by show w.heap.size ≤ w.heap.size + 2; omega) _⟩
        case measure => simp [intOf]; omega
    · obtain rfl : k = l.length := by omega
      have c5x := K5.c0
      have c5y := K5.c1
      have c4x := K4.c0
      have c4y := K4.c1
      have f40 := K4.f 0
      have f41 := K4.f 1
      have HE : Hid ((bx, b_y) = farOf (tsB (dx, dy) s) l) := by have := HB.out; rw [List.take_length] at this; unfold farOf; rw [HS0.out]; exact this.symm
      have HW : Hid (BoxP ((wr.setCell ⟨w.heap.size + 1, 0, none⟩ (.int .i64 bx)).setCell ⟨w.heap.size + 1, 1, none⟩ (.int .i64 b_y)) (w.heap.size + 1) (bx, b_y)) := K4.set _ _
      have hbz := (hbw.setCell (p := ⟨w.heap.size + 1, 0, none⟩) (by show w.heap.size ≤ w.heap.size + 1; omega) (.int .i64 bx)).setCell (p := ⟨w.heap.size + 1, 1, none⟩) (by show w.heap.size ≤ w.heap.size + 1; omega) (.int .i64 b_y)
      go_wp2
      have r0 := HW.out.c0
      have r1 := HW.out.c1
      generalize (wr.setCell ⟨w.heap.size + 1, 0, none⟩ (.int .i64 bx)).setCell ⟨w.heap.size + 1, 1, none⟩ (.int .i64 b_y) = wz at r0 r1 hbz ⊢
      refine bodyPost_ret (v := .agg #[.int .i64 bx, .int .i64 b_y]) (by simp [results, Tryz.results25, go_sem, r0, r1]) rfl ?_
      exact ⟨by rw [← HE.out], hbz⟩
end Go.Proofs.YtegmlemejmahiaaGreatDoor
namespace Go.Proofs.YtegmlemejmahiaaGreatDoor
open Go.RowKit Go.Shelf
set_option linter.unusedVariables false
set_option maxRecDepth 8000
theorem far5_c (ax ay bx b_y x y : Int) (w : World) : Calls Tryz.prog 56 #[.agg #[.int .i64 ax, .int .i64 ay], .agg #[.int .i64 bx, .int .i64 b_y], .agg #[.int .i64 x, .int .i64 y]] w fun e w' => e = .returned (.bool (farB (ax, ay) (bx, b_y) (x, y))) ∧ Below w.heap.size w w' := by
  go_enter Tryz.func56, Tryz.ntmps56
  go_wp2_with (go_at_call 81; refine (dot_c _ _ _ _ _ _ _).mono ?_; rintro e w' ⟨rfl, hb⟩)
  go_ret
  exact ⟨ret_bool (by unfold farB; simp <;> rfl), (by go_grown : Below w.heap.size w _).trans (hb.mono (by go_size))⟩
/-- The specification's word for it: none on that side. -/
theorem ssd_eq (qx qy ux uy x y : Int) : ssd (qx, qy) (ux, uy) (x, y) = sg (crossW qx qy ux uy x y) := rfl
set_option maxHeartbeats 4000000 in
theorem free_c (l : List (Int × Int)) (dx dy ux uy s : Int) (a : Option Addr) (len cap : Nat) (w : World) (hl : l.length = len) (h1 : len ≤ 1048576) (hA : At w.heap.size a l w) :
    Calls Tryz.prog 40 #[.slice a len cap, .agg #[.int .i64 dx, .int .i64 dy], .agg #[.int .i64 ux, .int .i64 uy], .int .i64 s] w fun e w' => e = .returned (.bool (frB l (dx, dy) s (ux, uy))) ∧ Below w.heap.size w w' := by
  subst hl
  have HA := hid hA
  clear hA
  go_enter Tryz.func40, Tryz.ntmps40
  go_wp2
  have G2 := BoxP.later (BoxP.new w dx dy) ((Below.refl _ _).alloc (Nat.le_refl _) (.cells #[.int .i64 ux, .int .i64 uy] 26))
  have G4 := BoxP.new (w.alloc (.cells #[.int .i64 dx, .int .i64 dy] 26)) ux uy
  simp only [World.size_alloc] at G4
  have hb0 : Below w.heap.size w ((w.alloc (.cells #[.int .i64 dx, .int .i64 dy] 26)).alloc (.cells #[.int .i64 ux, .int .i64 uy] 26)) := by go_grown
  go_loopw [13] (fun i wr => ∃ k : Nat, k ≤ l.length ∧ i = .int .i64 k ∧ YesTo (frT l (dx, dy) s (ux, uy)) k ∧ BoxP wr w.heap.size (dx, dy) ∧ BoxP wr (w.heap.size + 1) (ux, uy) ∧ Below w.heap.size w wr) (fun i _ => l.length - (intOf i).toNat)
  case atStart => exact ⟨0, Nat.zero_le _, rfl, fun i hi => absurd hi (Nat.not_lt_zero _), G2, G4, hb0⟩
  case round =>
    clear G2 G4 hb0
    obtain ⟨k, hk, rfl, hC, K2, K4, hbw⟩ := hrel
    have HC := hid hC
    clear hC
    by_cases hkl : k < l.length
    · obtain ⟨b, off, rfl, hbN, g0, g1⟩ := HA.out k hkl
      have q0 := (hbw.cell (p := ⟨b, off + k * 2, none⟩) hbN).trans g0
      have q1 := (hbw.cell (p := ⟨b, off + k * 2 + 1, none⟩) hbN).trans g1
      clear g0 g1
      obtain ⟨x, hx⟩ : ∃ x, px l k = x := ⟨_, rfl⟩
      obtain ⟨y, hy⟩ : ∃ y, py l k = y := ⟨_, rfl⟩
      obtain ⟨v, hv⟩ : ∃ v, sg (crossW dx dy ux uy x y) = v := ⟨_, rfl⟩
      have HT := hid (show frT l (dx, dy) s (ux, uy) k = !decide (v = s) by unfold frT; rw [hx, hy, ssd_eq, hv])
      rw [hx] at q0
      rw [hy] at q1
      clear hx hy
      have hi0 : (0 : Int) ≤ (k : Int) := by omega
      have hi1 : (k : Int) < (l.length : Int) := by omega
      go_upto_region 4 with fail
      have K7 := BoxP.new wr x y
      have hb7 : Below wr.heap.size wr (wr.alloc (.cells #[.int .i64 x, .int .i64 y] 26)) := by go_grown
      replace K2 := K2.later hb7
      replace K4 := K4.later hb7
      replace hbw := grew hbw hb7
      generalize wr.heap.size = B7 at K7 ⊢
      clear q0 q1 hb7
      generalize wr.alloc (.cells #[.int .i64 x, .int .i64 y] 26) = wp at *
      have c2x := K2.c0
      have c2y := K2.c1
      have c4x := K4.c0
      have c4y := K4.c1
      have c7x := K7.c0
      have c7y := K7.c1
      clear K7
      by_cases hE : v = s
      · subst hE
        go_wp2_with (go_at_call 70; refine (side_c _ _ _ _ _ _ _).mono ?_; rw [hv]; rintro e w1 ⟨rfl, hb⟩; replace hbw := grew hbw hb; replace K2 := K2.later hb; replace K4 := K4.later hb; clear hb)
        go_ret
        exact ⟨ret_bool (by unfold frB; rw [allT_no hkl (HT.out.trans (by simp))]), hbw⟩
      · have hE2 : (v == s) = false := by simpa using hE
        go_wp2_with (go_at_call 70; refine (side_c _ _ _ _ _ _ _).mono ?_; rw [hv]; rintro e w1 ⟨rfl, hb⟩; replace hbw := grew hbw hb; replace K2 := K2.later hb; replace K4 := K4.later hb; clear hb)
        go_roundw
        case rel => exact ⟨k + 1, by omega, by go_num, HC.out.succ (HT.out.trans (by simp [hE])), K2, K4, hbw⟩
        case measure => simp [intOf]; omega
    · obtain rfl : k = l.length := by omega
      go_wp2
      go_ret
      exact ⟨ret_bool (by unfold frB; rw [allT_iff.2 HC.out]), hbw⟩
theorem fr_take {fr : Int × Int → Bool} {nr : Int × Int → Int × Int → Bool} {l : List (Int × Int)} {k : Nat} {b : (Int × Int) × Bool} (h : k < l.length) : (l.take (k + 1)).foldl (frStep fr nr) b = frStep fr nr ((l.take k).foldl (frStep fr nr) b) (px l k, py l k) := by
  rw [pt_take h, List.foldl_append]; rfl
set_option maxHeartbeats 4000000 in
theorem tangent_c (l : List (Int × Int)) (dx dy s : Int) (a : Option Addr) (len cap : Nat) (w : World) (hl : l.length = len) (h1 : len ≤ 1048576) (h0 : 0 < len) (hA : At w.heap.size a l w) :
    Calls Tryz.prog 27 #[.slice a len cap, .agg #[.int .i64 dx, .int .i64 dy], .int .i64 s] w fun e w' => e = .returned (.agg #[.int .i64 (frOf (frB l (dx, dy) s) (farB (dx, dy)) l).1.1, .int .i64 (frOf (frB l (dx, dy) s) (farB (dx, dy)) l).1.2]) ∧ Below w.heap.size w w' := by
  subst hl
  have HA := hid hA
  clear hA
  obtain ⟨b0, off0, rfl, hbN0, g00, g01⟩ := HA.out 0 h0
  obtain ⟨sx, hsx⟩ : ∃ x, px l 0 = x := ⟨_, rfl⟩
  obtain ⟨sy, hsy⟩ : ∃ x, py l 0 = x := ⟨_, rfl⟩
  have HS0 := hid (show Go.Proofs.YtegmlemejmahiaaGreatDoor.pt l 0 = (sx, sy) by show (px l 0, py l 0) = _; rw [hsx, hsy])
  rw [hsx] at g00
  rw [hsy] at g01
  clear hsx hsy
  simp only [Nat.zero_mul, Nat.add_zero] at g00 g01
  have q00 := cell_later (show Below w.heap.size w ((w.alloc (.cells #[.int .i64 dx, .int .i64 dy] 26)).alloc (.cells #[.int .i64 0, .int .i64 0] 26)) by go_grown) g00
  have q01 := cell_later (show Below w.heap.size w ((w.alloc (.cells #[.int .i64 dx, .int .i64 dy] 26)).alloc (.cells #[.int .i64 0, .int .i64 0] 26)) by go_grown) g01
  have hw0 : (0 : Int) < (l.length : Int) := by omega
  go_enter Tryz.func27, Tryz.ntmps27
  go_wp2
  have G2 := BoxP.later (BoxP.later (BoxP.new w dx dy) ((Below.refl _ _).alloc (Nat.le_refl _) (.cells #[.int .i64 0, .int .i64 0] 26))) ((Below.refl _ _).alloc (Nat.le_refl _) (.cells #[.int .i64 sx, .int .i64 sy] 26))
  have G4 := BoxP.later (BoxP.new (w.alloc (.cells #[.int .i64 dx, .int .i64 dy] 26)) 0 0) ((Below.refl _ _).alloc (Nat.le_refl _) (.cells #[.int .i64 sx, .int .i64 sy] 26))
  have G5 := BoxP.new ((w.alloc (.cells #[.int .i64 dx, .int .i64 dy] 26)).alloc (.cells #[.int .i64 0, .int .i64 0] 26)) sx sy
  simp only [World.size_alloc] at G4 G5
  have hb0 : Below w.heap.size w (((w.alloc (.cells #[.int .i64 dx, .int .i64 dy] 26)).alloc (.cells #[.int .i64 0, .int .i64 0] 26)).alloc (.cells #[.int .i64 sx, .int .i64 sy] 26)) := by go_grown
  clear g00 g01 q00 q01
  go_loopw [8, 16] (fun o i wr => ∃ (k : Nat) (best : Int × Int) (some : Bool), k ≤ l.length ∧ i = .int .i64 k ∧ o = .bool some ∧ (best, some) = (l.take k).foldl (frStep (frB l (dx, dy) s) (farB (dx, dy))) ((sx, sy), false) ∧ BoxP wr w.heap.size (dx, dy) ∧ BoxP wr (w.heap.size + 1) (0, 0) ∧ BoxP wr (w.heap.size + 2) best ∧ Below w.heap.size w wr) (fun _ i _ => l.length - (intOf i).toNat)
  case atStart => exact ⟨0, (sx, sy), false, Nat.zero_le _, rfl, rfl, rfl, G2, G4, G5, hb0⟩
  case round =>
    clear G2 G4 G5 hb0
    obtain ⟨k, ⟨bx, b_y⟩, some, hk, rfl, rfl, hbest, K2, K4, K5, hbw⟩ := hrel
    have HB := hid hbest.symm
    clear hbest
    by_cases hkl : k < l.length
    · have HX := hid (fr_take (fr := frB l (dx, dy) s) (nr := farB (dx, dy)) (b := ((sx, sy), false)) hkl)
      rw [HB.out] at HX
      obtain ⟨b, off, e0, hbN, g0, g1⟩ := HA.out k hkl
      cases e0
      have q0 := (hbw.cell (p := ⟨b0, off0 + k * 2, none⟩) hbN).trans g0
      have q1 := (hbw.cell (p := ⟨b0, off0 + k * 2 + 1, none⟩) hbN).trans g1
      clear g0 g1
      obtain ⟨x, hx⟩ : ∃ x, px l k = x := ⟨_, rfl⟩
      obtain ⟨y, hy⟩ : ∃ y, py l k = y := ⟨_, rfl⟩
      rw [hx, hy] at HX
      rw [hx] at q0
      rw [hy] at q1
      clear hx hy
      have hi0 : (0 : Int) ≤ (k : Int) := by omega
      have hi1 : (k : Int) < (l.length : Int) := by omega
      go_upto_region 6 with fail
      have K7 := BoxP.new wr x y
      have hb7 : Below wr.heap.size wr (wr.alloc (.cells #[.int .i64 x, .int .i64 y] 26)) := by go_grown
      replace K2 := K2.later hb7
      replace K4 := K4.later hb7
      replace K5 := K5.later hb7
      replace hbw := grew hbw hb7
      generalize wr.heap.size = B7 at K7 ⊢
      clear q0 q1 hb7
      generalize wr.alloc (.cells #[.int .i64 x, .int .i64 y] 26) = wp at *
      have c2x := K2.c0
      have c2y := K2.c1
      have c5x := K5.c0
      have c5y := K5.c1
      have c7x := K7.c0
      have c7y := K7.c1
      have f0 := K5.f 0
      have f1 := K5.f 1
      clear K7
      cases hF : frB l (dx, dy) s (x, y)
      · have HR := hid (HX.out.trans (frStep_no (by rw [hF]; rfl)))
        cases some
        all_goals go_wp2_with (first | (go_at_call 40; refine (free_c l _ _ _ _ _ _ _ _ _ rfl h1 ((HA.out.later hbw).mono hbw.size)).mono ?_; rw [hF]; rintro e w1 ⟨rfl, hb⟩; replace hbw := grew hbw hb; replace K2 := K2.later hb; replace K4 := K4.later hb; replace K5 := K5.later hb; replace c2x := cell_later hb c2x; replace c2y := cell_later hb c2y; replace c5x := cell_later hb c5x; replace c5y := cell_later hb c5y; replace c7x := cell_later hb c7x; replace c7y := cell_later hb c7y; replace f0 := K5.f 0; replace f1 := K5.f 1; clear hb) | (go_at_call 56; refine (far5_c _ _ _ _ _ _ _).mono ?_; rw [hN]; rintro e w1 ⟨rfl, hb⟩; replace hbw := grew hbw hb; replace K2 := K2.later hb; replace K4 := K4.later hb; replace K5 := K5.later hb; replace c2x := cell_later hb c2x; replace c2y := cell_later hb c2y; replace c5x := cell_later hb c5x; replace c5y := cell_later hb c5y; replace c7x := cell_later hb c7x; replace c7y := cell_later hb c7y; replace f0 := K5.f 0; replace f1 := K5.f 1; clear hb))
        all_goals go_roundw
        all_goals first
          | (case measure => simp [intOf]; omega)
          | exact ⟨k + 1, (bx, b_y), _, by omega, by go_num, rfl, HR.out.symm, K2, K4, K5, hbw⟩
      · cases some
        · have HR := hid (HX.out.trans (frStep_yes (by rw [hF]; rfl)))
          go_wp2_with (first | (go_at_call 40; refine (free_c l _ _ _ _ _ _ _ _ _ rfl h1 ((HA.out.later hbw).mono hbw.size)).mono ?_; rw [hF]; rintro e w1 ⟨rfl, hb⟩; replace hbw := grew hbw hb; replace K2 := K2.later hb; replace K4 := K4.later hb; replace K5 := K5.later hb; replace c2x := cell_later hb c2x; replace c2y := cell_later hb c2y; replace c5x := cell_later hb c5x; replace c5y := cell_later hb c5y; replace c7x := cell_later hb c7x; replace c7y := cell_later hb c7y; replace f0 := K5.f 0; replace f1 := K5.f 1; clear hb) | (go_at_call 56; refine (far5_c _ _ _ _ _ _ _).mono ?_; rw [hN]; rintro e w1 ⟨rfl, hb⟩; replace hbw := grew hbw hb; replace K2 := K2.later hb; replace K4 := K4.later hb; replace K5 := K5.later hb; replace c2x := cell_later hb c2x; replace c2y := cell_later hb c2y; replace c5x := cell_later hb c5x; replace c5y := cell_later hb c5y; replace c7x := cell_later hb c7x; replace c7y := cell_later hb c7y; replace f0 := K5.f 0; replace f1 := K5.f 1; clear hb))
          go_roundw
          case rel => exact ⟨k + 1, (x, y), true, by omega, by go_num, rfl, HR.out.symm, (K2.other (by omega) _).other (by omega) _, (K4.other (by omega) _).other (by omega) _, K5.set _ _, (hbw.setCell (p := ⟨w.heap.size + 2, 0, none⟩) (by show w.heap.size ≤ w.heap.size + 2; omega) _).setCell (p := ⟨w.heap.size + 2, 1, none⟩) (by show w.heap.size ≤ w.heap.size + 2; omega) _⟩
          case measure => simp [intOf]; omega
        · cases hN : farB (dx, dy) (x, y) (bx, b_y)
          · have HR := hid (HX.out.trans (frStep_no (by rw [hF]; show (true && (false || farB (dx, dy) (x, y) (bx, b_y))) = false; rw [hN]; rfl)))
            go_wp2_with (first | (go_at_call 40; refine (free_c l _ _ _ _ _ _ _ _ _ rfl h1 ((HA.out.later hbw).mono hbw.size)).mono ?_; rw [hF]; rintro e w1 ⟨rfl, hb⟩; replace hbw := grew hbw hb; replace K2 := K2.later hb; replace K4 := K4.later hb; replace K5 := K5.later hb; replace c2x := cell_later hb c2x; replace c2y := cell_later hb c2y; replace c5x := cell_later hb c5x; replace c5y := cell_later hb c5y; replace c7x := cell_later hb c7x; replace c7y := cell_later hb c7y; replace f0 := K5.f 0; replace f1 := K5.f 1; clear hb) | (go_at_call 56; refine (far5_c _ _ _ _ _ _ _).mono ?_; rw [hN]; rintro e w1 ⟨rfl, hb⟩; replace hbw := grew hbw hb; replace K2 := K2.later hb; replace K4 := K4.later hb; replace K5 := K5.later hb; replace c2x := cell_later hb c2x; replace c2y := cell_later hb c2y; replace c5x := cell_later hb c5x; replace c5y := cell_later hb c5y; replace c7x := cell_later hb c7x; replace c7y := cell_later hb c7y; replace f0 := K5.f 0; replace f1 := K5.f 1; clear hb))
            go_roundw
            case rel => exact ⟨k + 1, (bx, b_y), true, by omega, by go_num, rfl, HR.out.symm, K2, K4, K5, hbw⟩
            case measure => simp [intOf]; omega
          · have HR := hid (HX.out.trans (frStep_yes (by rw [hF]; show (true && (false || farB (dx, dy) (x, y) (bx, b_y))) = true; rw [hN]; rfl)))
            go_wp2_with (first | (go_at_call 40; refine (free_c l _ _ _ _ _ _ _ _ _ rfl h1 ((HA.out.later hbw).mono hbw.size)).mono ?_; rw [hF]; rintro e w1 ⟨rfl, hb⟩; replace hbw := grew hbw hb; replace K2 := K2.later hb; replace K4 := K4.later hb; replace K5 := K5.later hb; replace c2x := cell_later hb c2x; replace c2y := cell_later hb c2y; replace c5x := cell_later hb c5x; replace c5y := cell_later hb c5y; replace c7x := cell_later hb c7x; replace c7y := cell_later hb c7y; replace f0 := K5.f 0; replace f1 := K5.f 1; clear hb) | (go_at_call 56; refine (far5_c _ _ _ _ _ _ _).mono ?_; rw [hN]; rintro e w1 ⟨rfl, hb⟩; replace hbw := grew hbw hb; replace K2 := K2.later hb; replace K4 := K4.later hb; replace K5 := K5.later hb; replace c2x := cell_later hb c2x; replace c2y := cell_later hb c2y; replace c5x := cell_later hb c5x; replace c5y := cell_later hb c5y; replace c7x := cell_later hb c7x; replace c7y := cell_later hb c7y; replace f0 := K5.f 0; replace f1 := K5.f 1; clear hb))
            go_roundw
            case rel => exact ⟨k + 1, (x, y), true, by omega, by go_num, rfl, HR.out.symm, (K2.other (by omega) _).other (by omega) _, (K4.other (by omega) _).other (by omega) _, K5.set _ _, (hbw.setCell (p := ⟨w.heap.size + 2, 0, none⟩) (by show w.heap.size ≤ w.heap.size + 2; omega) _).setCell (p := ⟨w.heap.size + 2, 1, none⟩) (by show w.heap.size ≤ w.heap.size + 2; omega) _⟩
            case measure => simp [intOf]; omega
    · obtain rfl : k = l.length := by omega
      have c5x := K5.c0
      have c5y := K5.c1
      have c4x := K4.c0
      have c4y := K4.c1
      have f40 := K4.f 0
      have f41 := K4.f 1
      have HE : Hid ((bx, b_y) = (frOf (frB l (dx, dy) s) (farB (dx, dy)) l).1) := by have := HB.out; rw [List.take_length] at this; unfold frOf; rw [HS0.out]; exact (congrArg Prod.fst this).symm
      have HW : Hid (BoxP ((wr.setCell ⟨w.heap.size + 1, 0, none⟩ (.int .i64 bx)).setCell ⟨w.heap.size + 1, 1, none⟩ (.int .i64 b_y)) (w.heap.size + 1) (bx, b_y)) := K4.set _ _
      have hbz := (hbw.setCell (p := ⟨w.heap.size + 1, 0, none⟩) (by show w.heap.size ≤ w.heap.size + 1; omega) (.int .i64 bx)).setCell (p := ⟨w.heap.size + 1, 1, none⟩) (by show w.heap.size ≤ w.heap.size + 1; omega) (.int .i64 b_y)
      go_wp2
      have r0 := HW.out.c0
      have r1 := HW.out.c1
      generalize (wr.setCell ⟨w.heap.size + 1, 0, none⟩ (.int .i64 bx)).setCell ⟨w.heap.size + 1, 1, none⟩ (.int .i64 b_y) = wz at r0 r1 hbz ⊢
      refine bodyPost_ret (v := .agg #[.int .i64 bx, .int .i64 b_y]) (by simp [results, Tryz.results27, go_sem, r0, r1]) rfl ?_
      exact ⟨by rw [← HE.out], hbz⟩
end Go.Proofs.YtegmlemejmahiaaGreatDoor
namespace Go.Proofs.YtegmlemejmahiaaGreatDoor
open Go.RowKit Go.Shelf
set_option linter.unusedVariables false
set_option maxRecDepth 8000
theorem ret_pb {p q : Int × Int} {a b : Bool} (h : p = q) (k : a = b) : Ending.returned (.tuple #[.agg #[.int .i64 p.1, .int .i64 p.2], .bool a]) = .returned (.tuple #[.agg #[.int .i64 q.1, .int .i64 q.2], .bool b]) := by rw [h, k]
theorem tg_seen (l : List (Int × Int)) (x y : Int) : tgOk l x y = (whOk l x y && decide (0 < l.length) && decide (whV l x y = 0)) := by
  unfold tgOk whV whOk
  cases ghB l <;> cases goodB x y <;> simp [Nat.pos_iff_ne_zero]
set_option maxHeartbeats 4000000 in
theorem outside_c (l : List (Int × Int)) (x y : Int) (a : Option Addr) (len cap : Nat) (w : World) (hl : l.length = len) (h1 : len ≤ 1048576) (hA : At w.heap.size a l w) :
    Calls Tryz.prog 26 #[.slice a len cap, .agg #[.int .i64 x, .int .i64 y]] w fun e w' => e = .returned (.bool (tgOk l x y)) ∧ Below w.heap.size w w' := by
  subst hl
  have HA := hid hA
  clear hA
  obtain ⟨z, hz⟩ : ∃ z, tgOk l x y = z := ⟨_, rfl⟩
  have HZ := hid hz
  rw [hz]
  have hbw : Below w.heap.size w (w.alloc (.cells #[.int .i64 x, .int .i64 y] 26)) := by go_grown
  have k0 := box0 w x y 26
  have k1 := box1 w x y 26
  go_enter Tryz.func26, Tryz.ntmps26
  go_upto_region 1 with fail
  generalize (w.alloc (.cells #[.int .i64 x, .int .i64 y] 26)) = w0 at hbw k0 k1 ⊢
  unfold tgOk at hz
  cases hG : ghB l
  · go_wp2_with (go_at_call 43; refine (goodHullSpec_c l _ _ _ _ rfl h1 ((HA.out.later hbw).mono hbw.size)).mono ?_; rw [hG]; rintro e w1 ⟨rfl, hb⟩; replace hbw := grew hbw hb; replace k0 := cell_later hb k0; replace k1 := cell_later hb k1; clear hb)
    go_ret
    exact ⟨ret_bool (by rw [← hz, hG]; rfl), hbw⟩
  · by_cases hl : l.length = 0
    · have hl2 : ¬ (0 : Int) < (l.length : Int) := by omega
      have HL := hid hl
      clear hl
      go_wp2_with (go_at_call 43; refine (goodHullSpec_c l _ _ _ _ rfl h1 ((HA.out.later hbw).mono hbw.size)).mono ?_; rw [hG]; rintro e w1 ⟨rfl, hb⟩; replace hbw := grew hbw hb; replace k0 := cell_later hb k0; replace k1 := cell_later hb k1; clear hb)
      go_ret
      exact ⟨ret_bool (by rw [← hz, hG, decide_eq_true HL.out]; first | rfl | simp; omega), hbw⟩
    · have hl2 : (0 : Int) < (l.length : Int) := by omega
      cases hP : goodB x y
      · go_wp2_with (first | (go_at_call 43; refine (goodHullSpec_c l _ _ _ _ rfl h1 ((HA.out.later hbw).mono hbw.size)).mono ?_; rw [hG]; rintro e w1 ⟨rfl, hb⟩; replace hbw := grew hbw hb; replace k0 := cell_later hb k0; replace k1 := cell_later hb k1; clear hb) | (go_at_call 44; refine (goodSpec_e _ _ _).mono ?_; rw [hP]; rintro e w2 ⟨rfl, hb⟩; replace hbw := grew hbw hb; replace k0 := cell_later hb k0; replace k1 := cell_later hb k1; clear hb))
        go_ret
        exact ⟨ret_bool (by rw [← hz, hG, hP, decide_eq_false hl]; rfl), hbw⟩
      · obtain ⟨v, hW⟩ : ∃ v, whS l (x, y) = v := ⟨_, rfl⟩
        rw [hW] at hz
        by_cases hv : v = 0
        · subst hv
          go_wp2_with (first | (go_at_call 43; refine (goodHullSpec_c l _ _ _ _ rfl h1 ((HA.out.later hbw).mono hbw.size)).mono ?_; rw [hG]; rintro e w1 ⟨rfl, hb⟩; replace hbw := grew hbw hb; replace k0 := cell_later hb k0; replace k1 := cell_later hb k1; clear hb) | (go_at_call 44; refine (goodSpec_e _ _ _).mono ?_; rw [hP]; rintro e w2 ⟨rfl, hb⟩; replace hbw := grew hbw hb; replace k0 := cell_later hb k0; replace k1 := cell_later hb k1; clear hb) | (go_at_call 55; refine (l4Where_c l x y _ _ _ _ rfl h1 ((HA.out.later hbw).mono hbw.size)).mono ?_; rw [hW]; rintro e w3 ⟨rfl, hb⟩; replace hbw := grew hbw hb; replace k0 := cell_later hb k0; replace k1 := cell_later hb k1; clear hb))
          go_ret
          exact ⟨ret_bool (by rw [← hz, hG, hP, decide_eq_false hl]; rfl), hbw⟩
        · have hv2 : (v == 0) = false := by simpa using hv
          have HV := hid hv
          clear hv
          go_wp2_with (first | (go_at_call 43; refine (goodHullSpec_c l _ _ _ _ rfl h1 ((HA.out.later hbw).mono hbw.size)).mono ?_; rw [hG]; rintro e w1 ⟨rfl, hb⟩; replace hbw := grew hbw hb; replace k0 := cell_later hb k0; replace k1 := cell_later hb k1; clear hb) | (go_at_call 44; refine (goodSpec_e _ _ _).mono ?_; rw [hP]; rintro e w2 ⟨rfl, hb⟩; replace hbw := grew hbw hb; replace k0 := cell_later hb k0; replace k1 := cell_later hb k1; clear hb) | (go_at_call 55; refine (l4Where_c l x y _ _ _ _ rfl h1 ((HA.out.later hbw).mono hbw.size)).mono ?_; rw [hW]; rintro e w3 ⟨rfl, hb⟩; replace hbw := grew hbw hb; replace k0 := cell_later hb k0; replace k1 := cell_later hb k1; clear hb))
          go_ret
          exact ⟨ret_bool (by rw [← hz, hG, hP, decide_eq_false hl, decide_eq_false HV.out]; rfl), hbw⟩
set_option maxHeartbeats 4000000 in
theorem seenFrom_c (l : List (Int × Int)) (x y : Int) (a : Option Addr) (len cap : Nat) (w : World) (hl : l.length = len) (h1 : len ≤ 1048576) (hA : At w.heap.size a l w) (c0 : w.cell? ⟨0, 0, none⟩ = some (.int .i64 1000000)) :
    Calls Tryz.prog 23 #[.slice a len cap, .agg #[.int .i64 x, .int .i64 y]] w fun e w' => e = .returned (.bool (tgOk l x y)) ∧ Below w.heap.size w w' := by
  subst hl
  have HA := hid hA
  have C0 := hid c0
  clear hA c0
  obtain ⟨z, hz⟩ : ∃ z, tgOk l x y = z := ⟨_, rfl⟩
  have HZ := hid hz
  rw [hz]
  have hbw : Below w.heap.size w (w.alloc (.cells #[.int .i64 x, .int .i64 y] 26)) := by go_grown
  have k0 := box0 w x y 26
  have k1 := box1 w x y 26
  go_enter Tryz.func23, Tryz.ntmps23
  go_upto_region 1 with fail
  generalize (w.alloc (.cells #[.int .i64 x, .int .i64 y] 26)) = w0 at hbw k0 k1 ⊢
  rw [tg_seen] at hz
  obtain ⟨v, hW⟩ : ∃ v, whV l x y = v := ⟨_, rfl⟩
  rw [hW] at hz
  cases hK : whOk l x y
  · go_wp2_with (go_at_call 20; refine (whereIsImpl_c l x y _ _ _ _ rfl h1 ((HA.out.later hbw).mono hbw.size) (cell_later hbw C0.out)).mono ?_; rw [hK, hW]; rintro e w3 ⟨rfl, hb⟩; replace hbw := grew hbw hb; replace k0 := cell_later hb k0; replace k1 := cell_later hb k1; clear hb)
    go_ret
    exact ⟨ret_bool (by rw [← hz, hK]; rfl), hbw⟩
  · by_cases hl : 0 < l.length
    · have hl2 : (0 : Int) < (l.length : Int) := by omega
      by_cases hv : v = 0
      · subst hv
        go_wp2_with (go_at_call 20; refine (whereIsImpl_c l x y _ _ _ _ rfl h1 ((HA.out.later hbw).mono hbw.size) (cell_later hbw C0.out)).mono ?_; rw [hK, hW]; rintro e w3 ⟨rfl, hb⟩; replace hbw := grew hbw hb; replace k0 := cell_later hb k0; replace k1 := cell_later hb k1; clear hb)
        go_ret
        exact ⟨ret_bool (by rw [← hz, hK, decide_eq_true hl]; rfl), hbw⟩
      · have hv2 : (v == 0) = false := by simpa using hv
        have HV := hid hv
        clear hv
        go_wp2_with (go_at_call 20; refine (whereIsImpl_c l x y _ _ _ _ rfl h1 ((HA.out.later hbw).mono hbw.size) (cell_later hbw C0.out)).mono ?_; rw [hK, hW]; rintro e w3 ⟨rfl, hb⟩; replace hbw := grew hbw hb; replace k0 := cell_later hb k0; replace k1 := cell_later hb k1; clear hb)
        go_ret
        exact ⟨ret_bool (by rw [← hz, hK, decide_eq_true hl, decide_eq_false HV.out]; rfl), hbw⟩
    · have hl2 : ¬ (0 : Int) < (l.length : Int) := by omega
      have HL := hid hl
      clear hl
      go_wp2_with (go_at_call 20; refine (whereIsImpl_c l x y _ _ _ _ rfl h1 ((HA.out.later hbw).mono hbw.size) (cell_later hbw C0.out)).mono ?_; rw [hK, hW]; rintro e w3 ⟨rfl, hb⟩; replace hbw := grew hbw hb; replace k0 := cell_later hb k0; replace k1 := cell_later hb k1; clear hb)
      go_ret
      exact ⟨ret_bool (by rw [← hz, hK, decide_eq_false HL.out]; first | rfl | simp), hbw⟩
theorem su_ex (l : List (Int × Int)) (x y : Int) : suV l x y = scW (x, y) (exP l x y) := by
  unfold suV exP
  split
  · rfl
  · unfold scW; simp [wrap64]
end Go.Proofs.YtegmlemejmahiaaGreatDoor
namespace Go.Proofs.YtegmlemejmahiaaGreatDoor
open Go.RowKit Go.Shelf
set_option linter.unusedVariables false
set_option maxRecDepth 8000
theorem held_lt {w u : World} {v : Value} {P : Prop} (h : u.cell? ⟨w.heap.size, 0, none⟩ = some v ∧ P) : w.heap.size < u.heap.size := World.block_lt_of_cell? _ _ h.1
theorem far2 {u : World} {A B i : Nat} {v : Value} (h : u.cell? ⟨A, i, none⟩ = some v) (hne : A < B) (p q : Value) : ((u.setCell ⟨B, 0, none⟩ p).setCell ⟨B, 1, none⟩ q).cell? ⟨A, i, none⟩ = some v := by
  rw [World.cell?_setCell_far _ _ _ _ (by show B ≠ A; omega), World.cell?_setCell_far _ _ _ _ (by show B ≠ A; omega)]
  exact h
theorem keepSt {w u : World} {B : Nat} {x y : Value} (h : u.cell? ⟨w.heap.size, 0, none⟩ = some x ∧ u.cell? ⟨w.heap.size, 1, none⟩ = some y ∧ Below w.heap.size w u) (hlt : w.heap.size < B) (p q : Value) :
    ((u.setCell ⟨B, 0, none⟩ p).setCell ⟨B, 1, none⟩ q).cell? ⟨w.heap.size, 0, none⟩ = some x ∧ ((u.setCell ⟨B, 0, none⟩ p).setCell ⟨B, 1, none⟩ q).cell? ⟨w.heap.size, 1, none⟩ = some y ∧ Below w.heap.size w ((u.setCell ⟨B, 0, none⟩ p).setCell ⟨B, 1, none⟩ q) :=
  ⟨far2 h.1 hlt p q, far2 h.2.1 hlt p q, (h.2.2.setCell (p := ⟨B, 0, none⟩) (by show w.heap.size ≤ B; omega) p).setCell (p := ⟨B, 1, none⟩) (by show w.heap.size ≤ B; omega) q⟩
end Go.Proofs.YtegmlemejmahiaaGreatDoor
namespace Go.Proofs.YtegmlemejmahiaaGreatDoor
open Go.RowKit Go.Shelf
set_option linter.unusedVariables false
set_option maxRecDepth 8000
theorem ret_ppb {p q r s : Int × Int} {a b : Bool} (h : p = q) (h2 : r = s) (k : a = b) : Ending.returned (.tuple #[.agg #[.int .i64 p.1, .int .i64 p.2], .agg #[.int .i64 r.1, .int .i64 r.2], .bool a]) = .returned (.tuple #[.agg #[.int .i64 q.1, .int .i64 q.2], .agg #[.int .i64 s.1, .int .i64 s.2], .bool b]) := by rw [h, h2, k]
set_option maxHeartbeats 8000000 in
theorem tangentsSpec_c (l : List (Int × Int)) (x y : Int) (a : Option Addr) (len cap : Nat) (w : World) (hl : l.length = len) (h1 : len ≤ 1048576) (hA : At w.heap.size a l w) :
    Calls Tryz.prog 7 #[.slice a len cap, .agg #[.int .i64 x, .int .i64 y]] w fun e w' => e = .returned (.tuple #[.agg #[.int .i64 (tgA l x y (-1)).1, .int .i64 (tgA l x y (-1)).2], .agg #[.int .i64 (tgA l x y 1).1, .int .i64 (tgA l x y 1).2], .bool (tgOk l x y)]) ∧ Below w.heap.size w w' := by
  subst hl
  have HA := hid hA
  clear hA
  have hbw : Below w.heap.size w (((w.alloc (.cells #[.int .i64 x, .int .i64 y] 26)).alloc (.cells #[.int .i64 0, .int .i64 0] 26)).alloc (.cells #[.int .i64 0, .int .i64 0] 26)) := by go_grown
  have K3 := BoxP.later (BoxP.later (BoxP.new w x y) ((Below.refl _ _).alloc (Nat.le_refl _) (.cells #[.int .i64 0, .int .i64 0] 26))) ((Below.refl _ _).alloc (Nat.le_refl _) (.cells #[.int .i64 0, .int .i64 0] 26))
  have K4 := BoxP.later (BoxP.new (w.alloc (.cells #[.int .i64 x, .int .i64 y] 26)) 0 0) ((Below.refl _ _).alloc (Nat.le_refl _) (.cells #[.int .i64 0, .int .i64 0] 26))
  have K5 := BoxP.new ((w.alloc (.cells #[.int .i64 x, .int .i64 y] 26)).alloc (.cells #[.int .i64 0, .int .i64 0] 26)) 0 0
  simp only [World.size_alloc] at K4 K5
  go_enter Tryz.func7, Tryz.ntmps7
  go_upto_region 1 with fail
  generalize (((w.alloc (.cells #[.int .i64 x, .int .i64 y] 26)).alloc (.cells #[.int .i64 0, .int .i64 0] 26)).alloc (.cells #[.int .i64 0, .int .i64 0] 26)) = w0 at hbw K3 K4 K5 ⊢
  have k0 := K3.c0
  have k1 := K3.c1
  have c40 := K4.c0
  have c41 := K4.c1
  have f40 := K4.f 0
  have f41 := K4.f 1
  have c50 := K5.c0
  have c51 := K5.c1
  have f50 := K5.f 0
  have f51 := K5.f 1
  cases hz : tgOk l x y
  · have HZ := hid hz
    go_upto_region 2 with (go_at_call 26; refine (outside_c l x y _ _ _ _ rfl h1 ((HA.out.later hbw).mono hbw.size)).mono ?_; rw [hz]; rintro e w1 ⟨rfl, hb⟩; replace hbw := grew hbw hb; replace K3 := K3.later hb; replace K4 := K4.later hb; replace K5 := K5.later hb; replace k0 := cell_later hb k0; replace k1 := cell_later hb k1; replace c40 := K4.c0; replace c41 := K4.c1; replace f40 := K4.f 0; replace f41 := K4.f 1; replace c50 := K5.c0; replace c51 := K5.c1; replace f50 := K5.f 0; replace f51 := K5.f 1; clear hb)
    have J4 := K4.set 0 0
    have J5 := (((K5.other (B' := w.heap.size + 1) (i := 0) (by omega) (.int .i64 0)).other (B' := w.heap.size + 1) (i := 1) (by omega) (.int .i64 0))).set 0 0
    replace J4 := ((J4.other (B' := w.heap.size + 2) (i := 0) (by omega) (.int .i64 0)).other (B' := w.heap.size + 2) (i := 1) (by omega) (.int .i64 0))
    have hb1 := (hbw.setCell (p := ⟨w.heap.size + 1, 0, none⟩) (by show w.heap.size ≤ w.heap.size + 1; omega) (.int .i64 0)).setCell (p := ⟨w.heap.size + 1, 1, none⟩) (by show w.heap.size ≤ w.heap.size + 1; omega) (.int .i64 0)
    have hbz := (hb1.setCell (p := ⟨w.heap.size + 2, 0, none⟩) (by show w.heap.size ≤ w.heap.size + 2; omega) (.int .i64 0)).setCell (p := ⟨w.heap.size + 2, 1, none⟩) (by show w.heap.size ≤ w.heap.size + 2; omega) (.int .i64 0)
    have g50 := (((K5.other (B' := w.heap.size + 1) (i := 0) (by omega) (.int .i64 0)).other (B' := w.heap.size + 1) (i := 1) (by omega) (.int .i64 0))).c0
    have g51 := (((K5.other (B' := w.heap.size + 1) (i := 0) (by omega) (.int .i64 0)).other (B' := w.heap.size + 1) (i := 1) (by omega) (.int .i64 0))).c1
    have h50 := (((K5.other (B' := w.heap.size + 1) (i := 0) (by omega) (.int .i64 0)).other (B' := w.heap.size + 1) (i := 1) (by omega) (.int .i64 0))).f 0
    have h51 := (((K5.other (B' := w.heap.size + 1) (i := 0) (by omega) (.int .i64 0)).other (B' := w.heap.size + 1) (i := 1) (by omega) (.int .i64 0))).f 1
    go_wp2
    have r0 := J4.c0
    have r1 := J4.c1
    have r2 := J5.c0
    have r3 := J5.c1
    clear g50 g51 h50 h51 J4 J5 hb1
    generalize (((w1.setCell ⟨w.heap.size + 1, 0, none⟩ (.int .i64 0)).setCell ⟨w.heap.size + 1, 1, none⟩ (.int .i64 0)).setCell ⟨w.heap.size + 2, 0, none⟩ (.int .i64 0)).setCell ⟨w.heap.size + 2, 1, none⟩ (.int .i64 0) = wz at r0 r1 r2 r3 hbz ⊢
    refine bodyPost_ret (v := .tuple #[.agg #[.int .i64 0, .int .i64 0], .agg #[.int .i64 0, .int .i64 0], .bool false]) (by simp [results, Tryz.results7, go_sem, r0, r1, r2, r3]) rfl ?_
    exact ⟨ret_ppb (p := (0, 0)) (r := (0, 0)) (by unfold tgA; rw [HZ.out]; rfl) (by unfold tgA; rw [HZ.out]; rfl) (by first | rfl | rw [HZ.out]), hbz⟩
  · have HZ := hid hz
    obtain ⟨hgh, hne, hl0, hgp, hwh⟩ := tgOk_parts hz
    obtain ⟨⟨ex0, ey0⟩, hE0⟩ : ∃ e, (frOf (frB l (x, y) (-1)) (farB (x, y)) l).1 = e := ⟨_, rfl⟩
    obtain ⟨⟨ex1, ey1⟩, hE1⟩ : ∃ e, (frOf (frB l (x, y) 1) (farB (x, y)) l).1 = e := ⟨_, rfl⟩
    have HE0 := hid (show tgA l x y (-1) = (ex0, ey0) by unfold tgA; rw [HZ.out, if_pos rfl]; exact hE0)
    have HE1 := hid (show tgA l x y 1 = (ex1, ey1) by unfold tgA; rw [HZ.out, if_pos rfl]; exact hE1)
    clear hgh hgp hwh hne
    go_upto_region 3 with (go_at_call 26; refine (outside_c l x y _ _ _ _ rfl h1 ((HA.out.later hbw).mono hbw.size)).mono ?_; rw [hz]; rintro e w1 ⟨rfl, hb⟩; replace hbw := grew hbw hb; replace K3 := K3.later hb; replace K4 := K4.later hb; replace K5 := K5.later hb; replace k0 := cell_later hb k0; replace k1 := cell_later hb k1; replace c40 := K4.c0; replace c41 := K4.c1; replace f40 := K4.f 0; replace f41 := K4.f 1; replace c50 := K5.c0; replace c51 := K5.c1; replace f50 := K5.f 0; replace f51 := K5.f 1; clear hb)
    refine wp_region_held_drew (S := (fun u => u.cell? ⟨w.heap.size, 0, none⟩ = some (.int .i64 x) ∧ u.cell? ⟨w.heap.size, 1, none⟩ = some (.int .i64 y) ∧ Below w.heap.size w u)) (by kernel_rfl) ?_ (fun hHeld => ?_)
    · exact ⟨cell_later (Below.refl _ _).drew k0, cell_later (Below.refl _ _).drew k1, grew hbw (Below.refl _ _).drew⟩
    clear f40 f41 c40 c41 f50 f51 c50 c51 k0 k1
    replace hbw := grew hbw (Below.refl _ _).drew
    replace K4 := K4.later (Below.refl _ _).drew
    replace K5 := K5.later (Below.refl _ _).drew
    generalize w1.drew = wd at hHeld hbw K4 K5 ⊢
    refine wpAnyH_take (i := 0) (oi := { dst := some 13, op := Op.move (Operand.tmp 0), type := 24, pos := "l5_far.go:65", after := #[], guard := none }) (v := ?v1x0) rfl (by kernel_rfl) (by kernel_rfl) (by kernel_rfl) (fun _ _ _ h => h) (Or.inl ⟨by rfl, ?hy1x0⟩) (by with_reducible assumption) ?rest1x0
    case hy1x0 => (intro w hSw; (try dsimp only at hSw); go_simp; try with_reducible rfl)
    case' rest1x0 => (try simp only [Act.put, List.setIfInBounds_toArray, List.set_cons_zero, List.set_cons_succ])
    refine wpAnyH_take (i := 1) (oi := { dst := some 14, op := Op.load 26 (Operand.tmp 3), type := 26, pos := "l5_far.go:65", after := #[], guard := none }) (v := ?v1x1) rfl (by kernel_rfl) (by kernel_rfl) (by kernel_rfl) (fun _ _ _ h => h) (Or.inl ⟨by rfl, ?hy1x1⟩) (by with_reducible assumption) ?rest1x1
    case hy1x1 => (intro w hSw; (try dsimp only at hSw); go_simp; try with_reducible rfl)
    case' rest1x1 => (try simp only [Act.put, List.setIfInBounds_toArray, List.set_cons_zero, List.set_cons_succ])
    refine wpAnyH_take (i := 3) (oi := { dst := some 16, op := Op.move (Operand.tmp 0), type := 24, pos := "l5_far.go:65", after := #[], guard := none }) (v := ?v1x3) rfl (by kernel_rfl) (by kernel_rfl) (by kernel_rfl) (fun _ _ _ h => h) (Or.inl ⟨by rfl, ?hy1x3⟩) (by with_reducible assumption) ?rest1x3
    case hy1x3 => (intro w hSw; (try dsimp only at hSw); go_simp; try with_reducible rfl)
    case' rest1x3 => (try simp only [Act.put, List.setIfInBounds_toArray, List.set_cons_zero, List.set_cons_succ])
    refine wpAnyH_take (i := 4) (oi := { dst := some 17, op := Op.load 26 (Operand.tmp 3), type := 26, pos := "l5_far.go:65", after := #[], guard := none }) (v := ?v1x4) rfl (by kernel_rfl) (by kernel_rfl) (by kernel_rfl) (fun _ _ _ h => h) (Or.inl ⟨by rfl, ?hy1x4⟩) (by with_reducible assumption) ?rest1x4
    case hy1x4 => (intro w hSw; (try dsimp only at hSw); go_simp; try with_reducible rfl)
    case' rest1x4 => (try simp only [Act.put, List.setIfInBounds_toArray, List.set_cons_zero, List.set_cons_succ])
    refine wpAnyH_ready (rs := [2]) (by kernel_rfl) (by simp) ?_
    refine AllReadyH.cons (o := { dst := some 15, op := Op.call { callee := Callee.value (Operand.func 27), args := #[Operand.tmp 13, Operand.tmp 14, Operand.const (Value.int IntKind.i64 (-1))], argTypes := #[24, 26, 3] }, type := 26, pos := "l5_far.go:65", after := #[{ on := 0, ground := Ground.data }, { on := 1, ground := Ground.data }], guard := none }) rfl (fun K hK => ?_) AllReadyH.nil
    go_simp
    refine (tangent_c l x y (-1) _ _ _ _ rfl h1 hl0 ((HA.out.later hbw).mono hbw.size)).mono ?_
    rw [hE0]
    rintro e w3 ⟨rfl, hb3⟩
    go_wp2_with fail
    refine hK.out _ _ ?_ (fun hHeld => ?_)
    · exact keep2 hb3 (by with_reducible assumption)
    clear hK K
    try simp only [Act.put, List.setIfInBounds_toArray, List.set_cons_zero, List.set_cons_succ]
    replace hbw := grew hbw hb3
    replace K4 := K4.later hb3
    replace K5 := K5.later hb3
    refine wpAnyH_ready (rs := [5]) (by kernel_rfl) (by simp) ?_
    refine AllReadyH.cons (o := { dst := some 18, op := Op.call { callee := Callee.value (Operand.func 27), args := #[Operand.tmp 16, Operand.tmp 17, Operand.const (Value.int IntKind.i64 1)], argTypes := #[24, 26, 3] }, type := 26, pos := "l5_far.go:65", after := #[{ on := 3, ground := Ground.data }, { on := 4, ground := Ground.data }, { on := 2, ground := Ground.chain }], guard := none }) rfl (fun K hK => ?_) AllReadyH.nil
    go_simp
    refine (tangent_c l x y (1) _ _ _ _ rfl h1 hl0 ((HA.out.later hbw).mono hbw.size)).mono ?_
    rw [hE1]
    rintro e w5 ⟨rfl, hb5⟩
    go_wp2_with fail
    refine hK.out _ _ ?_ (fun hHeld => ?_)
    · exact keep2 hb5 (by with_reducible assumption)
    clear hK K
    try simp only [Act.put, List.setIfInBounds_toArray, List.set_cons_zero, List.set_cons_succ]
    replace hbw := grew hbw hb5
    replace K4 := K4.later hb5
    replace K5 := K5.later hb5
    have f40 := K4.f 0
    have f41 := K4.f 1
    have c40 := K4.c0
    have c41 := K4.c1
    refine wpAnyH_ready (rs := [6]) (by kernel_rfl) (by simp) ?_
    refine AllReadyH.cons (o := { dst := none, op := Op.store 26 (Operand.tmp 4) (Operand.tmp 15), type := 0, pos := "l5_far.go:65", after := #[{ on := 2, ground := Ground.data }, { on := 5, ground := Ground.chain }, { on := 0, ground := Ground.phase }, { on := 1, ground := Ground.phase }, { on := 2, ground := Ground.phase }, { on := 3, ground := Ground.textOnly Departure.lateStores }, { on := 4, ground := Ground.textOnly Departure.lateStores }, { on := 5, ground := Ground.textOnly Departure.lateStoresUnsure }], guard := none }) rfl (fun K hK => ?_) AllReadyH.nil
    go_simp
    refine hK.out _ _ ?_ (fun hHeld => ?_)
    · exact keepSt (B := w.heap.size + 1) hHeld (by omega) _ _
    clear hK K
    try simp only [Act.put, List.setIfInBounds_toArray, List.set_cons_zero, List.set_cons_succ]
    replace K4 := K4.set ex0 ey0
    replace K5 := ((K5.other (B' := w.heap.size + 1) (i := 0) (by omega) (.int .i64 ex0)).other (B' := w.heap.size + 1) (i := 1) (by omega) (.int .i64 ey0))
    generalize (w5.setCell ⟨w.heap.size + 1, 0, none⟩ (.int .i64 ex0)).setCell ⟨w.heap.size + 1, 1, none⟩ (.int .i64 ey0) = wS0 at hHeld K4 K5 ⊢
    have f50 := K5.f 0
    have f51 := K5.f 1
    have c50 := K5.c0
    have c51 := K5.c1
    refine wpAnyH_ready (rs := [7]) (by kernel_rfl) (by simp) ?_
    refine AllReadyH.cons (o := { dst := none, op := Op.store 26 (Operand.tmp 5) (Operand.tmp 18), type := 0, pos := "l5_far.go:65", after := #[{ on := 5, ground := Ground.data }, { on := 6, ground := Ground.chain }, { on := 0, ground := Ground.phase }, { on := 1, ground := Ground.phase }, { on := 2, ground := Ground.phase }, { on := 3, ground := Ground.phase }, { on := 4, ground := Ground.phase }, { on := 5, ground := Ground.phase }, { on := 6, ground := Ground.phase }], guard := none }) rfl (fun K hK => ?_) AllReadyH.nil
    go_simp
    refine hK.out _ _ ?_ (fun hHeld => ?_)
    · exact keepSt (B := w.heap.size + 2) hHeld (by omega) _ _
    clear hK K
    try simp only [Act.put, List.setIfInBounds_toArray, List.set_cons_zero, List.set_cons_succ]
    replace K5 := K5.set ex1 ey1
    replace K4 := ((K4.other (B' := w.heap.size + 2) (i := 0) (by omega) (.int .i64 ex1)).other (B' := w.heap.size + 2) (i := 1) (by omega) (.int .i64 ey1))
    generalize (wS0.setCell ⟨w.heap.size + 2, 0, none⟩ (.int .i64 ex1)).setCell ⟨w.heap.size + 2, 1, none⟩ (.int .i64 ey1) = wS1 at hHeld K5 K4 ⊢
    have f50 := K5.f 0
    have f51 := K5.f 1
    have c50 := K5.c0
    have c51 := K5.c1
    refine wpAnyH_take (i := 8) (oi := { dst := some 6, op := Op.assign (Operand.const (Value.bool true)), type := 4, pos := "l5_far.go:65", after := #[{ on := 7, ground := Ground.chain }, { on := 0, ground := Ground.phase }, { on := 1, ground := Ground.phase }, { on := 2, ground := Ground.phase }, { on := 3, ground := Ground.phase }, { on := 4, ground := Ground.phase }, { on := 5, ground := Ground.phase }, { on := 6, ground := Ground.phase }, { on := 7, ground := Ground.phase }], guard := none }) (v := ?v1x8) rfl (by kernel_rfl) (by kernel_rfl) (by kernel_rfl) (fun _ _ _ h => h) (Or.inl ⟨by rfl, ?hy1x8⟩) (by with_reducible assumption) ?rest1x8
    case hy1x8 => (intro w hSw; (try dsimp only at hSw); go_simp; try with_reducible rfl)
    case' rest1x8 => (try simp only [Act.put, List.setIfInBounds_toArray, List.set_cons_zero, List.set_cons_succ])
    refine wpAnyH_done (by kernel_rfl) ?_ _
    go_wp2
    have r0 := K4.c0
    have r1 := K4.c1
    have r2 := K5.c0
    have r3 := K5.c1
    refine bodyPost_ret (v := .tuple #[.agg #[.int .i64 ex0, .int .i64 ey0], .agg #[.int .i64 ex1, .int .i64 ey1], .bool true]) (by simp [results, Tryz.results7, go_sem, r0, r1, r2, r3]) rfl ?_
    exact ⟨ret_ppb (p := (ex0, ey0)) (r := (ex1, ey1)) HE0.out.symm HE1.out.symm (by first | rfl | rw [HZ.out]), hHeld.2.2⟩
set_option maxHeartbeats 8000000 in
theorem tangentsImpl_c (l : List (Int × Int)) (x y : Int) (a : Option Addr) (len cap : Nat) (w : World) (hl : l.length = len) (h1 : len ≤ 1048576) (hA : At w.heap.size a l w) (c0 : w.cell? ⟨0, 0, none⟩ = some (.int .i64 1000000)) :
    Calls Tryz.prog 6 #[.slice a len cap, .agg #[.int .i64 x, .int .i64 y]] w fun e w' => e = .returned (.tuple #[.agg #[.int .i64 (tgA l x y (-1)).1, .int .i64 (tgA l x y (-1)).2], .agg #[.int .i64 (tgA l x y 1).1, .int .i64 (tgA l x y 1).2], .bool (tgOk l x y)]) ∧ Below w.heap.size w w' := by
  subst hl
  have HA := hid hA
  have C0 := hid c0
  clear hA c0
  have hbw : Below w.heap.size w (((w.alloc (.cells #[.int .i64 x, .int .i64 y] 26)).alloc (.cells #[.int .i64 0, .int .i64 0] 26)).alloc (.cells #[.int .i64 0, .int .i64 0] 26)) := by go_grown
  have K3 := BoxP.later (BoxP.later (BoxP.new w x y) ((Below.refl _ _).alloc (Nat.le_refl _) (.cells #[.int .i64 0, .int .i64 0] 26))) ((Below.refl _ _).alloc (Nat.le_refl _) (.cells #[.int .i64 0, .int .i64 0] 26))
  have K4 := BoxP.later (BoxP.new (w.alloc (.cells #[.int .i64 x, .int .i64 y] 26)) 0 0) ((Below.refl _ _).alloc (Nat.le_refl _) (.cells #[.int .i64 0, .int .i64 0] 26))
  have K5 := BoxP.new ((w.alloc (.cells #[.int .i64 x, .int .i64 y] 26)).alloc (.cells #[.int .i64 0, .int .i64 0] 26)) 0 0
  simp only [World.size_alloc] at K4 K5
  go_enter Tryz.func6, Tryz.ntmps6
  go_upto_region 1 with fail
  generalize (((w.alloc (.cells #[.int .i64 x, .int .i64 y] 26)).alloc (.cells #[.int .i64 0, .int .i64 0] 26)).alloc (.cells #[.int .i64 0, .int .i64 0] 26)) = w0 at hbw K3 K4 K5 ⊢
  have k0 := K3.c0
  have k1 := K3.c1
  have c40 := K4.c0
  have c41 := K4.c1
  have f40 := K4.f 0
  have f41 := K4.f 1
  have c50 := K5.c0
  have c51 := K5.c1
  have f50 := K5.f 0
  have f51 := K5.f 1
  cases hz : tgOk l x y
  · have HZ := hid hz
    go_upto_region 2 with (go_at_call 23; refine (seenFrom_c l x y _ _ _ _ rfl h1 ((HA.out.later hbw).mono hbw.size) (cell_later hbw C0.out)).mono ?_; rw [hz]; rintro e w1 ⟨rfl, hb⟩; replace hbw := grew hbw hb; replace K3 := K3.later hb; replace K4 := K4.later hb; replace K5 := K5.later hb; replace k0 := cell_later hb k0; replace k1 := cell_later hb k1; replace c40 := K4.c0; replace c41 := K4.c1; replace f40 := K4.f 0; replace f41 := K4.f 1; replace c50 := K5.c0; replace c51 := K5.c1; replace f50 := K5.f 0; replace f51 := K5.f 1; clear hb)
    have J4 := K4.set 0 0
    have J5 := (((K5.other (B' := w.heap.size + 1) (i := 0) (by omega) (.int .i64 0)).other (B' := w.heap.size + 1) (i := 1) (by omega) (.int .i64 0))).set 0 0
    replace J4 := ((J4.other (B' := w.heap.size + 2) (i := 0) (by omega) (.int .i64 0)).other (B' := w.heap.size + 2) (i := 1) (by omega) (.int .i64 0))
    have hb1 := (hbw.setCell (p := ⟨w.heap.size + 1, 0, none⟩) (by show w.heap.size ≤ w.heap.size + 1; omega) (.int .i64 0)).setCell (p := ⟨w.heap.size + 1, 1, none⟩) (by show w.heap.size ≤ w.heap.size + 1; omega) (.int .i64 0)
    have hbz := (hb1.setCell (p := ⟨w.heap.size + 2, 0, none⟩) (by show w.heap.size ≤ w.heap.size + 2; omega) (.int .i64 0)).setCell (p := ⟨w.heap.size + 2, 1, none⟩) (by show w.heap.size ≤ w.heap.size + 2; omega) (.int .i64 0)
    have g50 := (((K5.other (B' := w.heap.size + 1) (i := 0) (by omega) (.int .i64 0)).other (B' := w.heap.size + 1) (i := 1) (by omega) (.int .i64 0))).c0
    have g51 := (((K5.other (B' := w.heap.size + 1) (i := 0) (by omega) (.int .i64 0)).other (B' := w.heap.size + 1) (i := 1) (by omega) (.int .i64 0))).c1
    have h50 := (((K5.other (B' := w.heap.size + 1) (i := 0) (by omega) (.int .i64 0)).other (B' := w.heap.size + 1) (i := 1) (by omega) (.int .i64 0))).f 0
    have h51 := (((K5.other (B' := w.heap.size + 1) (i := 0) (by omega) (.int .i64 0)).other (B' := w.heap.size + 1) (i := 1) (by omega) (.int .i64 0))).f 1
    go_wp2
    have r0 := J4.c0
    have r1 := J4.c1
    have r2 := J5.c0
    have r3 := J5.c1
    clear g50 g51 h50 h51 J4 J5 hb1
    generalize (((w1.setCell ⟨w.heap.size + 1, 0, none⟩ (.int .i64 0)).setCell ⟨w.heap.size + 1, 1, none⟩ (.int .i64 0)).setCell ⟨w.heap.size + 2, 0, none⟩ (.int .i64 0)).setCell ⟨w.heap.size + 2, 1, none⟩ (.int .i64 0) = wz at r0 r1 r2 r3 hbz ⊢
    refine bodyPost_ret (v := .tuple #[.agg #[.int .i64 0, .int .i64 0], .agg #[.int .i64 0, .int .i64 0], .bool false]) (by simp [results, Tryz.results6, go_sem, r0, r1, r2, r3]) rfl ?_
    exact ⟨ret_ppb (p := (0, 0)) (r := (0, 0)) (by unfold tgA; rw [HZ.out]; rfl) (by unfold tgA; rw [HZ.out]; rfl) (by first | rfl | rw [HZ.out]), hbz⟩
  · have HZ := hid hz
    obtain ⟨hgh, hne, hl0, hgp, hwh⟩ := tgOk_parts hz
    obtain ⟨⟨ex0, ey0⟩, hE0⟩ : ∃ e, farOf (tsB (x, y) (-1)) l = e := ⟨_, rfl⟩
    obtain ⟨⟨ex1, ey1⟩, hE1⟩ : ∃ e, farOf (tsB (x, y) 1) l = e := ⟨_, rfl⟩
    have HE0 := hid (show tgA l x y (-1) = (ex0, ey0) by unfold tgA; rw [HZ.out, if_pos rfl, ← (tgR (q := (x, y)) hgh hgp hne hwh).1]; exact hE0)
    have HE1 := hid (show tgA l x y 1 = (ex1, ey1) by unfold tgA; rw [HZ.out, if_pos rfl, ← (tgL (q := (x, y)) hgh hgp hne hwh).1]; exact hE1)
    clear hgh hgp hwh hne
    go_upto_region 3 with (go_at_call 23; refine (seenFrom_c l x y _ _ _ _ rfl h1 ((HA.out.later hbw).mono hbw.size) (cell_later hbw C0.out)).mono ?_; rw [hz]; rintro e w1 ⟨rfl, hb⟩; replace hbw := grew hbw hb; replace K3 := K3.later hb; replace K4 := K4.later hb; replace K5 := K5.later hb; replace k0 := cell_later hb k0; replace k1 := cell_later hb k1; replace c40 := K4.c0; replace c41 := K4.c1; replace f40 := K4.f 0; replace f41 := K4.f 1; replace c50 := K5.c0; replace c51 := K5.c1; replace f50 := K5.f 0; replace f51 := K5.f 1; clear hb)
    refine wp_region_held_drew (S := (fun u => u.cell? ⟨w.heap.size, 0, none⟩ = some (.int .i64 x) ∧ u.cell? ⟨w.heap.size, 1, none⟩ = some (.int .i64 y) ∧ Below w.heap.size w u)) (by kernel_rfl) ?_ (fun hHeld => ?_)
    · exact ⟨cell_later (Below.refl _ _).drew k0, cell_later (Below.refl _ _).drew k1, grew hbw (Below.refl _ _).drew⟩
    clear f40 f41 c40 c41 f50 f51 c50 c51 k0 k1
    replace hbw := grew hbw (Below.refl _ _).drew
    replace K4 := K4.later (Below.refl _ _).drew
    replace K5 := K5.later (Below.refl _ _).drew
    generalize w1.drew = wd at hHeld hbw K4 K5 ⊢
    refine wpAnyH_take (i := 0) (oi := { dst := some 13, op := Op.load 26 (Operand.tmp 3), type := 26, pos := "l5_far.go:34", after := #[], guard := none }) (v := ?v2x0) rfl (by kernel_rfl) (by kernel_rfl) (by kernel_rfl) (fun _ _ _ h => h) (Or.inl ⟨by rfl, ?hy2x0⟩) (by with_reducible assumption) ?rest2x0
    case hy2x0 => (intro w hSw; (try dsimp only at hSw); go_simp; try with_reducible rfl)
    case' rest2x0 => (try simp only [Act.put, List.setIfInBounds_toArray, List.set_cons_zero, List.set_cons_succ])
    refine wpAnyH_take (i := 2) (oi := { dst := some 15, op := Op.move (Operand.tmp 0), type := 24, pos := "l5_far.go:34", after := #[], guard := none }) (v := ?v2x2) rfl (by kernel_rfl) (by kernel_rfl) (by kernel_rfl) (fun _ _ _ h => h) (Or.inl ⟨by rfl, ?hy2x2⟩) (by with_reducible assumption) ?rest2x2
    case hy2x2 => (intro w hSw; (try dsimp only at hSw); go_simp; try with_reducible rfl)
    case' rest2x2 => (try simp only [Act.put, List.setIfInBounds_toArray, List.set_cons_zero, List.set_cons_succ])
    refine wpAnyH_take (i := 4) (oi := { dst := some 17, op := Op.load 26 (Operand.tmp 3), type := 26, pos := "l5_far.go:34", after := #[], guard := none }) (v := ?v2x4) rfl (by kernel_rfl) (by kernel_rfl) (by kernel_rfl) (fun _ _ _ h => h) (Or.inl ⟨by rfl, ?hy2x4⟩) (by with_reducible assumption) ?rest2x4
    case hy2x4 => (intro w hSw; (try dsimp only at hSw); go_simp; try with_reducible rfl)
    case' rest2x4 => (try simp only [Act.put, List.setIfInBounds_toArray, List.set_cons_zero, List.set_cons_succ])
    refine wpAnyH_take (i := 6) (oi := { dst := some 19, op := Op.move (Operand.tmp 0), type := 24, pos := "l5_far.go:34", after := #[], guard := none }) (v := ?v2x6) rfl (by kernel_rfl) (by kernel_rfl) (by kernel_rfl) (fun _ _ _ h => h) (Or.inl ⟨by rfl, ?hy2x6⟩) (by with_reducible assumption) ?rest2x6
    case hy2x6 => (intro w hSw; (try dsimp only at hSw); go_simp; try with_reducible rfl)
    case' rest2x6 => (try simp only [Act.put, List.setIfInBounds_toArray, List.set_cons_zero, List.set_cons_succ])
    refine wpAnyH_ready (rs := [1]) (by kernel_rfl) (by simp) ?_
    refine AllReadyH.cons (o := { dst := some 14, op := Op.call { callee := Callee.value (Operand.func 24), args := #[Operand.tmp 13, Operand.const (Value.int IntKind.i64 (-1))], argTypes := #[26, 3] }, type := 54, pos := "l5_far.go:34", after := #[{ on := 0, ground := Ground.data }], guard := none }) rfl (fun K hK => ?_) AllReadyH.nil
    go_simp
    refine (toSide_c _ _ _ _).mono ?_
    rintro e w2 ⟨B1, V1, rfl, KB, KV, _, _, hb2⟩
    go_wp2_with fail
    refine hK.out _ _ ?_ (fun hHeld => ?_)
    · exact keep2 hb2 (by with_reducible assumption)
    clear hK K
    try simp only [Act.put, List.setIfInBounds_toArray, List.set_cons_zero, List.set_cons_succ]
    replace hbw := grew hbw hb2
    replace K4 := K4.later hb2
    replace K5 := K5.later hb2
    refine wpAnyH_ready (rs := [3]) (by kernel_rfl) (by simp) ?_
    refine AllReadyH.cons (o := { dst := some 16, op := Op.call { callee := Callee.value (Operand.func 25), args := #[Operand.tmp 14, Operand.tmp 15], argTypes := #[54, 24] }, type := 26, pos := "l5_far.go:34", after := #[{ on := 1, ground := Ground.data }, { on := 2, ground := Ground.data }, { on := 1, ground := Ground.chain }], guard := none }) rfl (fun K hK => ?_) AllReadyH.nil
    go_simp
    refine (farSide_c l x y _ _ _ _ rfl h1 hl0 ((HA.out.later hbw).mono hbw.size) (cell_later hbw C0.out) (-1) B1 V1 (.inr rfl) KB KV).mono ?_
    rw [hE0]
    rintro e w3 ⟨rfl, hb3⟩
    go_wp2_with fail
    refine hK.out _ _ ?_ (fun hHeld => ?_)
    · exact keep2 hb3 (by with_reducible assumption)
    clear hK K
    try simp only [Act.put, List.setIfInBounds_toArray, List.set_cons_zero, List.set_cons_succ]
    replace hbw := grew hbw hb3
    replace K4 := K4.later hb3
    replace K5 := K5.later hb3
    clear KB KV
    refine wpAnyH_ready (rs := [5]) (by kernel_rfl) (by simp) ?_
    refine AllReadyH.cons (o := { dst := some 18, op := Op.call { callee := Callee.value (Operand.func 24), args := #[Operand.tmp 17, Operand.const (Value.int IntKind.i64 1)], argTypes := #[26, 3] }, type := 54, pos := "l5_far.go:34", after := #[{ on := 4, ground := Ground.data }, { on := 3, ground := Ground.chain }], guard := none }) rfl (fun K hK => ?_) AllReadyH.nil
    go_simp
    refine (toSide_c _ _ _ _).mono ?_
    rintro e w4 ⟨B2, V2, rfl, KB, KV, _, _, hb4⟩
    go_wp2_with fail
    refine hK.out _ _ ?_ (fun hHeld => ?_)
    · exact keep2 hb4 (by with_reducible assumption)
    clear hK K
    try simp only [Act.put, List.setIfInBounds_toArray, List.set_cons_zero, List.set_cons_succ]
    replace hbw := grew hbw hb4
    replace K4 := K4.later hb4
    replace K5 := K5.later hb4
    refine wpAnyH_ready (rs := [7]) (by kernel_rfl) (by simp) ?_
    refine AllReadyH.cons (o := { dst := some 20, op := Op.call { callee := Callee.value (Operand.func 25), args := #[Operand.tmp 18, Operand.tmp 19], argTypes := #[54, 24] }, type := 26, pos := "l5_far.go:34", after := #[{ on := 5, ground := Ground.data }, { on := 6, ground := Ground.data }, { on := 5, ground := Ground.chain }], guard := none }) rfl (fun K hK => ?_) AllReadyH.nil
    go_simp
    refine (farSide_c l x y _ _ _ _ rfl h1 hl0 ((HA.out.later hbw).mono hbw.size) (cell_later hbw C0.out) (1) B2 V2 (.inl rfl) KB KV).mono ?_
    rw [hE1]
    rintro e w5 ⟨rfl, hb5⟩
    go_wp2_with fail
    refine hK.out _ _ ?_ (fun hHeld => ?_)
    · exact keep2 hb5 (by with_reducible assumption)
    clear hK K
    try simp only [Act.put, List.setIfInBounds_toArray, List.set_cons_zero, List.set_cons_succ]
    replace hbw := grew hbw hb5
    replace K4 := K4.later hb5
    replace K5 := K5.later hb5
    have f40 := K4.f 0
    have f41 := K4.f 1
    have c40 := K4.c0
    have c41 := K4.c1
    refine wpAnyH_ready (rs := [8]) (by kernel_rfl) (by simp) ?_
    refine AllReadyH.cons (o := { dst := none, op := Op.store 26 (Operand.tmp 4) (Operand.tmp 16), type := 0, pos := "l5_far.go:34", after := #[{ on := 3, ground := Ground.data }, { on := 7, ground := Ground.chain }, { on := 0, ground := Ground.phase }, { on := 1, ground := Ground.phase }, { on := 2, ground := Ground.phase }, { on := 3, ground := Ground.phase }, { on := 4, ground := Ground.textOnly Departure.lateStores }, { on := 5, ground := Ground.textOnly Departure.lateStoresUnsure }, { on := 6, ground := Ground.textOnly Departure.lateStores }, { on := 7, ground := Ground.textOnly Departure.lateStoresUnsure }], guard := none }) rfl (fun K hK => ?_) AllReadyH.nil
    go_simp
    refine hK.out _ _ ?_ (fun hHeld => ?_)
    · exact keepSt (B := w.heap.size + 1) hHeld (by omega) _ _
    clear hK K
    try simp only [Act.put, List.setIfInBounds_toArray, List.set_cons_zero, List.set_cons_succ]
    replace K4 := K4.set ex0 ey0
    replace K5 := ((K5.other (B' := w.heap.size + 1) (i := 0) (by omega) (.int .i64 ex0)).other (B' := w.heap.size + 1) (i := 1) (by omega) (.int .i64 ey0))
    generalize (w5.setCell ⟨w.heap.size + 1, 0, none⟩ (.int .i64 ex0)).setCell ⟨w.heap.size + 1, 1, none⟩ (.int .i64 ey0) = wS0 at hHeld K4 K5 ⊢
    have f50 := K5.f 0
    have f51 := K5.f 1
    have c50 := K5.c0
    have c51 := K5.c1
    refine wpAnyH_ready (rs := [9]) (by kernel_rfl) (by simp) ?_
    refine AllReadyH.cons (o := { dst := none, op := Op.store 26 (Operand.tmp 5) (Operand.tmp 20), type := 0, pos := "l5_far.go:34", after := #[{ on := 7, ground := Ground.data }, { on := 8, ground := Ground.chain }, { on := 0, ground := Ground.phase }, { on := 1, ground := Ground.phase }, { on := 2, ground := Ground.phase }, { on := 3, ground := Ground.phase }, { on := 4, ground := Ground.phase }, { on := 5, ground := Ground.phase }, { on := 6, ground := Ground.phase }, { on := 7, ground := Ground.phase }, { on := 8, ground := Ground.phase }], guard := none }) rfl (fun K hK => ?_) AllReadyH.nil
    go_simp
    refine hK.out _ _ ?_ (fun hHeld => ?_)
    · exact keepSt (B := w.heap.size + 2) hHeld (by omega) _ _
    clear hK K
    try simp only [Act.put, List.setIfInBounds_toArray, List.set_cons_zero, List.set_cons_succ]
    replace K5 := K5.set ex1 ey1
    replace K4 := ((K4.other (B' := w.heap.size + 2) (i := 0) (by omega) (.int .i64 ex1)).other (B' := w.heap.size + 2) (i := 1) (by omega) (.int .i64 ey1))
    generalize (wS0.setCell ⟨w.heap.size + 2, 0, none⟩ (.int .i64 ex1)).setCell ⟨w.heap.size + 2, 1, none⟩ (.int .i64 ey1) = wS1 at hHeld K5 K4 ⊢
    have f50 := K5.f 0
    have f51 := K5.f 1
    have c50 := K5.c0
    have c51 := K5.c1
    refine wpAnyH_take (i := 10) (oi := { dst := some 6, op := Op.assign (Operand.const (Value.bool true)), type := 4, pos := "l5_far.go:34", after := #[{ on := 9, ground := Ground.chain }, { on := 0, ground := Ground.phase }, { on := 1, ground := Ground.phase }, { on := 2, ground := Ground.phase }, { on := 3, ground := Ground.phase }, { on := 4, ground := Ground.phase }, { on := 5, ground := Ground.phase }, { on := 6, ground := Ground.phase }, { on := 7, ground := Ground.phase }, { on := 8, ground := Ground.phase }, { on := 9, ground := Ground.phase }], guard := none }) (v := ?v2x10) rfl (by kernel_rfl) (by kernel_rfl) (by kernel_rfl) (fun _ _ _ h => h) (Or.inl ⟨by rfl, ?hy2x10⟩) (by with_reducible assumption) ?rest2x10
    case hy2x10 => (intro w hSw; (try dsimp only at hSw); go_simp; try with_reducible rfl)
    case' rest2x10 => (try simp only [Act.put, List.setIfInBounds_toArray, List.set_cons_zero, List.set_cons_succ])
    refine wpAnyH_done (by kernel_rfl) ?_ _
    go_wp2
    have r0 := K4.c0
    have r1 := K4.c1
    have r2 := K5.c0
    have r3 := K5.c1
    refine bodyPost_ret (v := .tuple #[.agg #[.int .i64 ex0, .int .i64 ey0], .agg #[.int .i64 ex1, .int .i64 ey1], .bool true]) (by simp [results, Tryz.results6, go_sem, r0, r1, r2, r3]) rfl ?_
    exact ⟨ret_ppb (p := (ex0, ey0)) (r := (ex1, ey1)) HE0.out.symm HE1.out.symm (by first | rfl | rw [HZ.out]), hHeld.2.2⟩
end Go.Proofs.YtegmlemejmahiaaGreatDoor
