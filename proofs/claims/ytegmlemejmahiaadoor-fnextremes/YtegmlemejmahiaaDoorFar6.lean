/-
  What is farthest of a list, by a direction or to a side: the searches whole (contracts for the walks).
  Conditions: as each theorem states them.
-/
import Derived.Test.YtegmlemejmahiaaDoorFar5
namespace Go.Proofs.YtegmlemejmahiaaDoor
open Go.RowKit Go.Shelf
set_option linter.unusedVariables false
set_option maxRecDepth 8000
/-- A box that holds one value. -/
def BoxV (W : World) (B : Nat) (v : Value) (t : Nat) : Prop := W.heap[B]? = some (.cells #[v] t (0, 0))
theorem BoxV.c0 {W : World} {B t : Nat} {v : Value} (h : BoxV W B v t) : W.cell? ⟨B, 0, none⟩ = some v := by simp [World.cell?, show W.heap[B]? = _ from h]
theorem BoxV.lt {W : World} {B t : Nat} {v : Value} (h : BoxV W B v t) : B < W.heap.size := (Array.getElem?_eq_some_iff.1 h).1
theorem BoxV.later {W W' : World} {B t : Nat} {v : Value} (h : BoxV W B v t) (hb : Below W.heap.size W W') : BoxV W' B v t := (hb.block B h.lt).trans h
theorem BoxV.new (W : World) (v : Value) (t : Nat) : BoxV (W.alloc (.cells #[v] t)) W.heap.size v t := World.alloc_heap_new W _
theorem BoxV.other {W : World} {B B' i t : Nat} {u : Value} (h : BoxV W B u t) (hne : B ≠ B') (v : Value) : BoxV (W.setCell ⟨B', i, none⟩ v) B u t := (Below.heap_setCell W _ v B hne).trans h
theorem BoxV.set {W : World} {B t : Nat} {v : Value} (h : BoxV W B v t) (u : Value) : BoxV (W.setCell ⟨B, 0, none⟩ u) B u t := by
  obtain ⟨hlt, hk⟩ := Array.getElem?_eq_some_iff.1 h
  show (W.heap.modify B _)[B]? = _
  rw [Array.getElem?_eq_getElem (by rw [Array.size_modify]; exact hlt), Array.getElem_modify_self, hk]
  rfl
theorem fold_far_yes {f : Int × Int → Int × Int → Bool} {l : List (Int × Int)} {k : Nat} {b : Int × Int} (h : k < l.length) (e : f (px l k, py l k) ((l.take k).foldl (farStep f) b) = true) : (l.take (k + 1)).foldl (farStep f) b = (px l k, py l k) := by
  rw [fold_take h]; unfold farStep at e ⊢; rw [if_pos e]
theorem fold_far_no {f : Int × Int → Int × Int → Bool} {l : List (Int × Int)} {k : Nat} {b : Int × Int} (h : k < l.length) (e : f (px l k, py l k) ((l.take k).foldl (farStep f) b) = false) : (l.take (k + 1)).foldl (farStep f) b = (l.take k).foldl (farStep f) b := by
  rw [fold_take h]; unfold farStep at e ⊢; rw [if_neg (by rw [e]; exact Bool.false_ne_true)]
theorem keepS6 {w W W' : World} {a0 a1 a2 a3 a4 a5 : Addr} {v0 v1 v2 v3 v4 v5 : Value} (hb : Below W.heap.size W W') (h : W.cell? a0 = some v0 ∧ W.cell? a1 = some v1 ∧ W.cell? a2 = some v2 ∧ W.cell? a3 = some v3 ∧ W.cell? a4 = some v4 ∧ W.cell? a5 = some v5 ∧ Below w.heap.size w W) :
    W'.cell? a0 = some v0 ∧ W'.cell? a1 = some v1 ∧ W'.cell? a2 = some v2 ∧ W'.cell? a3 = some v3 ∧ W'.cell? a4 = some v4 ∧ W'.cell? a5 = some v5 ∧ Below w.heap.size w W' :=
  ⟨cell_later hb h.1, cell_later hb h.2.1, cell_later hb h.2.2.1, cell_later hb h.2.2.2.1, cell_later hb h.2.2.2.2.1, cell_later hb h.2.2.2.2.2.1, h.2.2.2.2.2.2.trans (hb.mono h.2.2.2.2.2.2.size)⟩
theorem startS6 {w W W' : World} {a0 a1 a2 a3 a4 a5 : Addr} {v0 v1 v2 v3 v4 v5 : Value} (hb : Below W.heap.size W W') (c0 : W.cell? a0 = some v0) (c1 : W.cell? a1 = some v1) (c2 : W.cell? a2 = some v2) (c3 : W.cell? a3 = some v3) (c4 : W.cell? a4 = some v4) (c5 : W.cell? a5 = some v5) (h : Below w.heap.size w W) :
    W'.cell? a0 = some v0 ∧ W'.cell? a1 = some v1 ∧ W'.cell? a2 = some v2 ∧ W'.cell? a3 = some v3 ∧ W'.cell? a4 = some v4 ∧ W'.cell? a5 = some v5 ∧ Below w.heap.size w W' :=
  ⟨cell_later hb c0, cell_later hb c1, cell_later hb c2, cell_later hb c3, cell_later hb c4, cell_later hb c5, h.trans (hb.mono h.size)⟩
set_option maxHeartbeats 2000000 in
theorem along_c (x y : Int) (w : World) : Calls Tryd.prog 40 #[.agg #[.int .i64 x, .int .i64 y]] w fun e w' => ∃ B, e = .returned (.agg #[.func (.func 68) #[] #[.pointer (some ⟨B, 0, none⟩)]]) ∧ BoxP w' B (x, y) ∧ w.heap.size ≤ B ∧ Below w.heap.size w w' := by
  go_enter Tryd.func40, Tryd.ntmps40
  go_wp2
  refine bodyPost_ret (v := .agg #[.func (.func 68) #[] #[.pointer (some ⟨w.heap.size, 0, none⟩)]]) (by simp [results, Tryd.results40, go_sem]) rfl ?_
  refine ⟨w.heap.size, ?_, ?_, Nat.le_refl _, by go_grown⟩
  · first | rfl | (simp [go_sem])
  · exact BoxP.later (BoxP.new w x y) ((Below.refl _ _).alloc (Nat.le_refl _) _)
set_option maxHeartbeats 2000000 in
theorem toSide_c (x y s : Int) (w : World) : Calls Tryd.prog 46 #[.agg #[.int .i64 x, .int .i64 y], .int .i64 s] w fun e w' => ∃ B S, e = .returned (.agg #[.func (.func 74) #[] #[.pointer (some ⟨B, 0, none⟩), .pointer (some ⟨S, 0, none⟩)]]) ∧ BoxP w' B (x, y) ∧ BoxV w' S (.int .i64 s) 3 ∧ w.heap.size ≤ B ∧ w.heap.size ≤ S ∧ Below w.heap.size w w' := by
  go_enter Tryd.func46, Tryd.ntmps46
  go_wp2
  refine bodyPost_ret (v := .agg #[.func (.func 74) #[] #[.pointer (some ⟨w.heap.size, 0, none⟩), .pointer (some ⟨w.heap.size + 1, 0, none⟩)]]) (by simp [results, Tryd.results46, go_sem]) rfl ?_
  refine ⟨w.heap.size, w.heap.size + 1, ?_, ?_, ?_, Nat.le_refl _, by omega, by go_grown⟩
  · first | rfl | (simp [go_sem])
  · exact BoxP.later (BoxP.later (BoxP.new w x y) ((Below.refl _ _).alloc (Nat.le_refl _) _)) ((Below.refl _ _).alloc (Nat.le_refl _) _)
  · have h := BoxV.later (BoxV.new (w.alloc (.cells #[.int .i64 x, .int .i64 y] 26)) (.int .i64 s) 3) ((Below.refl _ _).alloc (Nat.le_refl _) (.cells #[.func (.func 74) #[] #[.pointer (some ⟨w.heap.size, 0, none⟩), .pointer (some ⟨w.heap.size + 1, 0, none⟩)]] 59))
    simp only [World.size_alloc] at h
    exact h
set_option maxHeartbeats 2000000 in
theorem farAlong_c (l : List (Int × Int)) (dx dy : Int) (a : Option Addr) (len cap : Nat) (w : World) (hl : l.length = len) (h1 : len ≤ 1048576) (h0 : 0 < len) (hA : At w.heap.size a l w) (c0 : w.cell? ⟨0, 0, none⟩ = some (.int .i64 1000000)) (Bd : Nat) (hd : BoxP w Bd (dx, dy)) :
    Calls Tryd.prog 41 #[.agg #[.func (.func 68) #[] #[.pointer (some ⟨Bd, 0, none⟩)]], .slice a len cap] w fun e w' => e = .returned (.agg #[.int .i64 (farOf (alB (dx, dy)) l).1, .int .i64 (farOf (alB (dx, dy)) l).2]) ∧ Below w.heap.size w w' := by
  subst hl
  have hz : 0 < w.heap.size := World.block_lt_of_cell? w _ c0
  have HA := hid hA
  have C0 := hid c0
  clear hA c0
  obtain ⟨b0, off0, rfl, hbN0, g00, g01⟩ := HA.out 0 h0
  obtain ⟨sx, hsx⟩ : ∃ x, px l 0 = x := ⟨_, rfl⟩
  obtain ⟨sy, hsy⟩ : ∃ x, py l 0 = x := ⟨_, rfl⟩
  have HS0 := hid (show Go.Proofs.YtegmlemejmahiaaDoor.pt l 0 = (sx, sy) by show (px l 0, py l 0) = _; rw [hsx, hsy])
  rw [hsx] at g00
  rw [hsy] at g01
  clear hsx hsy
  simp only [Nat.zero_mul, Nat.add_zero] at g00 g01
  have q00 := cell_later (show Below w.heap.size w ((w.alloc (.cells #[.func (.func 68) #[] #[.pointer (some ⟨Bd, 0, none⟩)]] 59)).alloc (.cells #[.int .i64 0, .int .i64 0] 26)) by go_grown) g00
  have q01 := cell_later (show Below w.heap.size w ((w.alloc (.cells #[.func (.func 68) #[] #[.pointer (some ⟨Bd, 0, none⟩)]] 59)).alloc (.cells #[.int .i64 0, .int .i64 0] 26)) by go_grown) g01
  have HD := hd
  skip
  clear hd
  have hw0 : (0 : Int) < (l.length : Int) := by omega
  go_enter Tryd.func41, Tryd.ntmps41
  go_wp2
  have G2 := BoxV.later (BoxV.later (BoxV.new w (.func (.func 68) #[] #[.pointer (some ⟨Bd, 0, none⟩)]) 59) ((Below.refl _ _).alloc (Nat.le_refl _) (.cells #[.int .i64 0, .int .i64 0] 26))) ((Below.refl _ _).alloc (Nat.le_refl _) (.cells #[.int .i64 sx, .int .i64 sy] 26))
  have G4 := BoxP.later (BoxP.new (w.alloc (.cells #[.func (.func 68) #[] #[.pointer (some ⟨Bd, 0, none⟩)]] 59)) 0 0) ((Below.refl _ _).alloc (Nat.le_refl _) (.cells #[.int .i64 sx, .int .i64 sy] 26))
  have G5 := BoxP.new ((w.alloc (.cells #[.func (.func 68) #[] #[.pointer (some ⟨Bd, 0, none⟩)]] 59)).alloc (.cells #[.int .i64 0, .int .i64 0] 26)) sx sy
  simp only [World.size_alloc] at G4 G5
  have hb0 : Below w.heap.size w (((w.alloc (.cells #[.func (.func 68) #[] #[.pointer (some ⟨Bd, 0, none⟩)]] 59)).alloc (.cells #[.int .i64 0, .int .i64 0] 26)).alloc (.cells #[.int .i64 sx, .int .i64 sy] 26)) := by go_grown
  clear g00 g01 q00 q01
  go_loopw [13] (fun i wr => ∃ (k : Nat) (best : Int × Int), k ≤ l.length ∧ i = .int .i64 k ∧ best = (l.take k).foldl (farStep (alB (dx, dy))) (sx, sy) ∧ BoxV wr w.heap.size (.func (.func 68) #[] #[.pointer (some ⟨Bd, 0, none⟩)]) 59 ∧ BoxP wr (w.heap.size + 1) (0, 0) ∧ BoxP wr (w.heap.size + 2) best ∧ Below w.heap.size w wr) (fun i _ => l.length - (intOf i).toNat)
  case atStart => exact ⟨0, (sx, sy), Nat.zero_le _, rfl, rfl, G2, G4, G5, hb0⟩
  case round =>
    clear G2 G4 G5 hb0
    obtain ⟨k, ⟨bx, b_y⟩, hk, rfl, hbest, K2, K4, K5, hbw⟩ := hrel
    have HB := hid hbest.symm
    clear hbest
    replace HD := HD.later hbw
    skip
    by_cases hkl : k < l.length
    · obtain ⟨b, off, e0, hbN, g0, g1⟩ := HA.out k hkl
      cases e0
      have q0 := (hbw.cell (p := ⟨b0, off0 + k * 2, none⟩) hbN).trans g0
      have q1 := (hbw.cell (p := ⟨b0, off0 + k * 2 + 1, none⟩) hbN).trans g1
      have HY := hid (fun e => fold_far_yes (f := alB (dx, dy)) (b := (sx, sy)) hkl e)
      have HN := hid (fun e => fold_far_no (f := alB (dx, dy)) (b := (sx, sy)) hkl e)
      rw [HB.out] at HY HN
      clear g0 g1
      obtain ⟨x, hx⟩ : ∃ x, px l k = x := ⟨_, rfl⟩
      obtain ⟨y, hy⟩ : ∃ y, py l k = y := ⟨_, rfl⟩
      rw [hx, hy] at HY HN
      rw [hx] at q0
      rw [hy] at q1
      clear hx hy
      have hi0 : (0 : Int) ≤ (k : Int) := by omega
      have hi1 : (k : Int) < (l.length : Int) := by omega
      go_upto_region 5 with fail
      have K7 := BoxP.new wr x y
      have hb7 : Below wr.heap.size wr (wr.alloc (.cells #[.int .i64 x, .int .i64 y] 26)) := by go_grown
      replace K2 := K2.later hb7
      replace K4 := K4.later hb7
      replace K5 := K5.later hb7
      replace HD := HD.later hb7
      
      replace hbw := grew hbw hb7
      generalize wr.heap.size = B7 at K7 ⊢
      clear q0 q1 hb7
      generalize wr.alloc (.cells #[.int .i64 x, .int .i64 y] 26) = wp at *
      have c2 := K2.c0
      have c5x := K5.c0
      have c5y := K5.c1
      have c7x := K7.c0
      have c7y := K7.c1
      have f0 := K5.f 0
      have f1 := K5.f 1
      clear K7
      cases hF : (alB (dx, dy)) (x, y) (bx, b_y)
      · go_wp2_with (go_at_call 68; refine (along1_c _ _ _ _ Bd _ dx dy HD (cell_later hbw C0.out)).mono ?_; rw [hF]; rintro e w1 ⟨rfl, hb⟩; replace hbw := grew hbw hb; replace K2 := K2.later hb; replace K4 := K4.later hb; replace K5 := K5.later hb; replace HD := HD.later hb; replace c5x := cell_later hb c5x; replace c5y := cell_later hb c5y; replace c7x := cell_later hb c7x; replace c7y := cell_later hb c7y; replace f0 := K5.f 0; replace f1 := K5.f 1; clear hb)
        go_roundw
        case rel => exact ⟨k + 1, (bx, b_y), by omega, by go_num, (HN.out hF).symm, K2, K4, K5, hbw⟩
        case measure => simp [intOf]; omega
      · go_wp2_with (go_at_call 68; refine (along1_c _ _ _ _ Bd _ dx dy HD (cell_later hbw C0.out)).mono ?_; rw [hF]; rintro e w1 ⟨rfl, hb⟩; replace hbw := grew hbw hb; replace K2 := K2.later hb; replace K4 := K4.later hb; replace K5 := K5.later hb; replace HD := HD.later hb; replace c5x := cell_later hb c5x; replace c5y := cell_later hb c5y; replace c7x := cell_later hb c7x; replace c7y := cell_later hb c7y; replace f0 := K5.f 0; replace f1 := K5.f 1; clear hb)
        go_roundw
        case rel => exact ⟨k + 1, (x, y), by omega, by go_num, (HY.out hF).symm, (K2.other (by omega) _).other (by omega) _, (K4.other (by omega) _).other (by omega) _, K5.set _ _, (hbw.setCell (p := ⟨w.heap.size + 2, 0, none⟩) (by show w.heap.size ≤ w.heap.size + 2; omega) _).setCell (p := ⟨w.heap.size + 2, 1, none⟩) (by show w.heap.size ≤ w.heap.size + 2; omega) _⟩
        case measure => simp [intOf]; omega
    · obtain rfl : k = l.length := by omega
      have c5x := K5.c0
      have c5y := K5.c1
      have c4x := K4.c0
      have c4y := K4.c1
      have f40 := K4.f 0
      have f41 := K4.f 1
      have HE : Hid ((bx, b_y) = farOf (alB (dx, dy)) l) := by have := HB.out; rw [List.take_length] at this; unfold farOf; rw [HS0.out]; exact this.symm
      have HW : Hid (BoxP ((wr.setCell ⟨w.heap.size + 1, 0, none⟩ (.int .i64 bx)).setCell ⟨w.heap.size + 1, 1, none⟩ (.int .i64 b_y)) (w.heap.size + 1) (bx, b_y)) := K4.set _ _
      have hbz := (hbw.setCell (p := ⟨w.heap.size + 1, 0, none⟩) (by show w.heap.size ≤ w.heap.size + 1; omega) (.int .i64 bx)).setCell (p := ⟨w.heap.size + 1, 1, none⟩) (by show w.heap.size ≤ w.heap.size + 1; omega) (.int .i64 b_y)
      go_wp2
      have r0 := HW.out.c0
      have r1 := HW.out.c1
      generalize (wr.setCell ⟨w.heap.size + 1, 0, none⟩ (.int .i64 bx)).setCell ⟨w.heap.size + 1, 1, none⟩ (.int .i64 b_y) = wz at r0 r1 hbz ⊢
      refine bodyPost_ret (v := .agg #[.int .i64 bx, .int .i64 b_y]) (by simp [results, Tryd.results41, go_sem, r0, r1]) rfl ?_
      exact ⟨by rw [← HE.out], hbz⟩
set_option maxHeartbeats 2000000 in
theorem farSide_c (l : List (Int × Int)) (dx dy : Int) (a : Option Addr) (len cap : Nat) (w : World) (hl : l.length = len) (h1 : len ≤ 1048576) (h0 : 0 < len) (hA : At w.heap.size a l w) (c0 : w.cell? ⟨0, 0, none⟩ = some (.int .i64 1000000)) (s : Int) (Bd Bs : Nat) (hs : s = 1 ∨ s = -1) (hd : BoxP w Bd (dx, dy)) (hv : BoxV w Bs (.int .i64 s) 3) :
    Calls Tryd.prog 41 #[.agg #[.func (.func 74) #[] #[.pointer (some ⟨Bd, 0, none⟩), .pointer (some ⟨Bs, 0, none⟩)]], .slice a len cap] w fun e w' => e = .returned (.agg #[.int .i64 (farOf (tsB (dx, dy) s) l).1, .int .i64 (farOf (tsB (dx, dy) s) l).2]) ∧ Below w.heap.size w w' := by
  subst hl
  have hz : 0 < w.heap.size := World.block_lt_of_cell? w _ c0
  have HA := hid hA
  have C0 := hid c0
  clear hA c0
  obtain ⟨b0, off0, rfl, hbN0, g00, g01⟩ := HA.out 0 h0
  obtain ⟨sx, hsx⟩ : ∃ x, px l 0 = x := ⟨_, rfl⟩
  obtain ⟨sy, hsy⟩ : ∃ x, py l 0 = x := ⟨_, rfl⟩
  have HS0 := hid (show Go.Proofs.YtegmlemejmahiaaDoor.pt l 0 = (sx, sy) by show (px l 0, py l 0) = _; rw [hsx, hsy])
  rw [hsx] at g00
  rw [hsy] at g01
  clear hsx hsy
  simp only [Nat.zero_mul, Nat.add_zero] at g00 g01
  have q00 := cell_later (show Below w.heap.size w ((w.alloc (.cells #[.func (.func 74) #[] #[.pointer (some ⟨Bd, 0, none⟩), .pointer (some ⟨Bs, 0, none⟩)]] 59)).alloc (.cells #[.int .i64 0, .int .i64 0] 26)) by go_grown) g00
  have q01 := cell_later (show Below w.heap.size w ((w.alloc (.cells #[.func (.func 74) #[] #[.pointer (some ⟨Bd, 0, none⟩), .pointer (some ⟨Bs, 0, none⟩)]] 59)).alloc (.cells #[.int .i64 0, .int .i64 0] 26)) by go_grown) g01
  have HD := hd
  have HV := hv
  clear hv
  clear hd
  have hw0 : (0 : Int) < (l.length : Int) := by omega
  go_enter Tryd.func41, Tryd.ntmps41
  go_wp2
  have G2 := BoxV.later (BoxV.later (BoxV.new w (.func (.func 74) #[] #[.pointer (some ⟨Bd, 0, none⟩), .pointer (some ⟨Bs, 0, none⟩)]) 59) ((Below.refl _ _).alloc (Nat.le_refl _) (.cells #[.int .i64 0, .int .i64 0] 26))) ((Below.refl _ _).alloc (Nat.le_refl _) (.cells #[.int .i64 sx, .int .i64 sy] 26))
  have G4 := BoxP.later (BoxP.new (w.alloc (.cells #[.func (.func 74) #[] #[.pointer (some ⟨Bd, 0, none⟩), .pointer (some ⟨Bs, 0, none⟩)]] 59)) 0 0) ((Below.refl _ _).alloc (Nat.le_refl _) (.cells #[.int .i64 sx, .int .i64 sy] 26))
  have G5 := BoxP.new ((w.alloc (.cells #[.func (.func 74) #[] #[.pointer (some ⟨Bd, 0, none⟩), .pointer (some ⟨Bs, 0, none⟩)]] 59)).alloc (.cells #[.int .i64 0, .int .i64 0] 26)) sx sy
  simp only [World.size_alloc] at G4 G5
  have hb0 : Below w.heap.size w (((w.alloc (.cells #[.func (.func 74) #[] #[.pointer (some ⟨Bd, 0, none⟩), .pointer (some ⟨Bs, 0, none⟩)]] 59)).alloc (.cells #[.int .i64 0, .int .i64 0] 26)).alloc (.cells #[.int .i64 sx, .int .i64 sy] 26)) := by go_grown
  clear g00 g01 q00 q01
  go_loopw [13] (fun i wr => ∃ (k : Nat) (best : Int × Int), k ≤ l.length ∧ i = .int .i64 k ∧ best = (l.take k).foldl (farStep (tsB (dx, dy) s)) (sx, sy) ∧ BoxV wr w.heap.size (.func (.func 74) #[] #[.pointer (some ⟨Bd, 0, none⟩), .pointer (some ⟨Bs, 0, none⟩)]) 59 ∧ BoxP wr (w.heap.size + 1) (0, 0) ∧ BoxP wr (w.heap.size + 2) best ∧ Below w.heap.size w wr) (fun i _ => l.length - (intOf i).toNat)
  case atStart => exact ⟨0, (sx, sy), Nat.zero_le _, rfl, rfl, G2, G4, G5, hb0⟩
  case round =>
    clear G2 G4 G5 hb0
    obtain ⟨k, ⟨bx, b_y⟩, hk, rfl, hbest, K2, K4, K5, hbw⟩ := hrel
    have HB := hid hbest.symm
    clear hbest
    replace HD := HD.later hbw
    replace HV := HV.later hbw
    by_cases hkl : k < l.length
    · obtain ⟨b, off, e0, hbN, g0, g1⟩ := HA.out k hkl
      cases e0
      have q0 := (hbw.cell (p := ⟨b0, off0 + k * 2, none⟩) hbN).trans g0
      have q1 := (hbw.cell (p := ⟨b0, off0 + k * 2 + 1, none⟩) hbN).trans g1
      have HY := hid (fun e => fold_far_yes (f := tsB (dx, dy) s) (b := (sx, sy)) hkl e)
      have HN := hid (fun e => fold_far_no (f := tsB (dx, dy) s) (b := (sx, sy)) hkl e)
      rw [HB.out] at HY HN
      clear g0 g1
      obtain ⟨x, hx⟩ : ∃ x, px l k = x := ⟨_, rfl⟩
      obtain ⟨y, hy⟩ : ∃ y, py l k = y := ⟨_, rfl⟩
      rw [hx, hy] at HY HN
      rw [hx] at q0
      rw [hy] at q1
      clear hx hy
      have hi0 : (0 : Int) ≤ (k : Int) := by omega
      have hi1 : (k : Int) < (l.length : Int) := by omega
      go_upto_region 5 with fail
      have K7 := BoxP.new wr x y
      have hb7 : Below wr.heap.size wr (wr.alloc (.cells #[.int .i64 x, .int .i64 y] 26)) := by go_grown
      replace K2 := K2.later hb7
      replace K4 := K4.later hb7
      replace K5 := K5.later hb7
      replace HD := HD.later hb7
      replace HV := HV.later hb7
      replace hbw := grew hbw hb7
      generalize wr.heap.size = B7 at K7 ⊢
      clear q0 q1 hb7
      generalize wr.alloc (.cells #[.int .i64 x, .int .i64 y] 26) = wp at *
      have c2 := K2.c0
      have c5x := K5.c0
      have c5y := K5.c1
      have c7x := K7.c0
      have c7y := K7.c1
      have f0 := K5.f 0
      have f1 := K5.f 1
      clear K7
      cases hF : (tsB (dx, dy) s) (x, y) (bx, b_y)
      · go_wp2_with (go_at_call 74; refine (toSide1_c _ _ _ _ Bd Bs _ dx dy s hs HD HV.c0 (cell_later hbw C0.out)).mono ?_; rw [hF]; rintro e w1 ⟨rfl, hb⟩; replace hbw := grew hbw hb; replace K2 := K2.later hb; replace K4 := K4.later hb; replace K5 := K5.later hb; replace HD := HD.later hb; replace HV := HV.later hb; replace c5x := cell_later hb c5x; replace c5y := cell_later hb c5y; replace c7x := cell_later hb c7x; replace c7y := cell_later hb c7y; replace f0 := K5.f 0; replace f1 := K5.f 1; clear hb)
        go_roundw
        case rel => exact ⟨k + 1, (bx, b_y), by omega, by go_num, (HN.out hF).symm, K2, K4, K5, hbw⟩
        case measure => simp [intOf]; omega
      · go_wp2_with (go_at_call 74; refine (toSide1_c _ _ _ _ Bd Bs _ dx dy s hs HD HV.c0 (cell_later hbw C0.out)).mono ?_; rw [hF]; rintro e w1 ⟨rfl, hb⟩; replace hbw := grew hbw hb; replace K2 := K2.later hb; replace K4 := K4.later hb; replace K5 := K5.later hb; replace HD := HD.later hb; replace HV := HV.later hb; replace c5x := cell_later hb c5x; replace c5y := cell_later hb c5y; replace c7x := cell_later hb c7x; replace c7y := cell_later hb c7y; replace f0 := K5.f 0; replace f1 := K5.f 1; clear hb)
        go_roundw
        case rel => exact ⟨k + 1, (x, y), by omega, by go_num, (HY.out hF).symm, (K2.other (by omega) _).other (by omega) _, (K4.other (by omega) _).other (by omega) _, K5.set _ _, (hbw.setCell (p := ⟨w.heap.size + 2, 0, none⟩) (by show w.heap.size ≤ w.heap.size + 2; omega) _).setCell (p := ⟨w.heap.size + 2, 1, none⟩) (by show w.heap.size ≤ w.heap.size + 2; omega) _⟩
        case measure => simp [intOf]; omega
    · obtain rfl : k = l.length := by omega
      have c5x := K5.c0
      have c5y := K5.c1
      have c4x := K4.c0
      have c4y := K4.c1
      have f40 := K4.f 0
      have f41 := K4.f 1
      have HE : Hid ((bx, b_y) = farOf (tsB (dx, dy) s) l) := by have := HB.out; rw [List.take_length] at this; unfold farOf; rw [HS0.out]; exact this.symm
      have HW : Hid (BoxP ((wr.setCell ⟨w.heap.size + 1, 0, none⟩ (.int .i64 bx)).setCell ⟨w.heap.size + 1, 1, none⟩ (.int .i64 b_y)) (w.heap.size + 1) (bx, b_y)) := K4.set _ _
      have hbz := (hbw.setCell (p := ⟨w.heap.size + 1, 0, none⟩) (by show w.heap.size ≤ w.heap.size + 1; omega) (.int .i64 bx)).setCell (p := ⟨w.heap.size + 1, 1, none⟩) (by show w.heap.size ≤ w.heap.size + 1; omega) (.int .i64 b_y)
      go_wp2
      have r0 := HW.out.c0
      have r1 := HW.out.c1
      generalize (wr.setCell ⟨w.heap.size + 1, 0, none⟩ (.int .i64 bx)).setCell ⟨w.heap.size + 1, 1, none⟩ (.int .i64 b_y) = wz at r0 r1 hbz ⊢
      refine bodyPost_ret (v := .agg #[.int .i64 bx, .int .i64 b_y]) (by simp [results, Tryd.results41, go_sem, r0, r1]) rfl ?_
      exact ⟨by rw [← HE.out], hbz⟩
end Go.Proofs.YtegmlemejmahiaaDoor
