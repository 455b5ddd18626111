/-
  A set seen from a point, and the depth of a point, the program's (contracts for the walks).
  Conditions: as each theorem states them.
-/
import Derived.Test.YtoefllklngnmeaaDoorDp9
namespace Go.Proofs.YtoefllklngnmeaaDoor
open Go.RowKit Go.Shelf
set_option linter.unusedVariables false
set_option maxRecDepth 8000
/-- A box of five numbers. -/
def VB (w : World) (b : Nat) (a0 a1 a2 a3 a4 : Int) : Prop := w.heap[b]? = some (.cells #[.int .i64 a0, .int .i64 a1, .int .i64 a2, .int .i64 a3, .int .i64 a4] 56)
theorem VB.lt {w : World} {b : Nat} {a0 a1 a2 a3 a4 : Int} (h : VB w b a0 a1 a2 a3 a4) : b < w.heap.size := (Array.getElem?_eq_some_iff.1 h).1
theorem VB.later {w w' : World} {b N : Nat} {a0 a1 a2 a3 a4 : Int} (h : VB w b a0 a1 a2 a3 a4) (hb : Below N w w') (hN : b < N) : VB w' b a0 a1 a2 a3 a4 := (hb.block b hN).trans h
theorem VB.new (w : World) : VB (w.alloc (.cells #[.int .i64 0, .int .i64 0, .int .i64 0, .int .i64 0, .int .i64 0] 56)) w.heap.size 0 0 0 0 0 := heap_alloc_new _ _
theorem VB.cells {w : World} {b : Nat} {a0 a1 a2 a3 a4 : Int} (h : VB w b a0 a1 a2 a3 a4) : w.cell? ⟨b, 0, none⟩ = some (.int .i64 a0) ∧ w.cell? ⟨b, 1, none⟩ = some (.int .i64 a1) ∧ w.cell? ⟨b, 2, none⟩ = some (.int .i64 a2) ∧ w.cell? ⟨b, 3, none⟩ = some (.int .i64 a3) ∧ w.cell? ⟨b, 4, none⟩ = some (.int .i64 a4) := by
  have := fun i => cell6 h i
  exact ⟨this 0, this 1, this 2, this 3, this 4⟩
theorem VB.free {w : World} {b : Nat} {a0 a1 a2 a3 a4 : Int} (h : VB w b a0 a1 a2 a3 a4) : w.frozen? ⟨b, 0, none⟩ = false ∧ w.frozen? ⟨b, 1, none⟩ = false ∧ w.frozen? ⟨b, 2, none⟩ = false ∧ w.frozen? ⟨b, 3, none⟩ = false ∧ w.frozen? ⟨b, 4, none⟩ = false := by
  have := fun i => frz6 h i
  exact ⟨this 0, this 1, this 2, this 3, this 4⟩
theorem VB.set0 {w : World} {b : Nat} {a0 a1 a2 a3 a4 x : Int} (h : VB w b a0 a1 a2 a3 a4) : VB (w.setCell ⟨b, 0, none⟩ (.int .i64 x)) b x a1 a2 a3 a4 := by
  unfold VB at h ⊢
  rw [heap_setCell_same _ _ _ _ _ _ h]; rfl
theorem VB.set1 {w : World} {b : Nat} {a0 a1 a2 a3 a4 x : Int} (h : VB w b a0 a1 a2 a3 a4) : VB (w.setCell ⟨b, 1, none⟩ (.int .i64 x)) b a0 x a2 a3 a4 := by
  unfold VB at h ⊢
  rw [heap_setCell_same _ _ _ _ _ _ h]; rfl
theorem VB.set2 {w : World} {b : Nat} {a0 a1 a2 a3 a4 x : Int} (h : VB w b a0 a1 a2 a3 a4) : VB (w.setCell ⟨b, 2, none⟩ (.int .i64 x)) b a0 a1 x a3 a4 := by
  unfold VB at h ⊢
  rw [heap_setCell_same _ _ _ _ _ _ h]; rfl
theorem VB.set3 {w : World} {b : Nat} {a0 a1 a2 a3 a4 x : Int} (h : VB w b a0 a1 a2 a3 a4) : VB (w.setCell ⟨b, 3, none⟩ (.int .i64 x)) b a0 a1 a2 x a4 := by
  unfold VB at h ⊢
  rw [heap_setCell_same _ _ _ _ _ _ h]; rfl
theorem VB.set4 {w : World} {b : Nat} {a0 a1 a2 a3 a4 x : Int} (h : VB w b a0 a1 a2 a3 a4) : VB (w.setCell ⟨b, 4, none⟩ (.int .i64 x)) b a0 a1 a2 a3 x := by
  unfold VB at h ⊢
  rw [heap_setCell_same _ _ _ _ _ _ h]; rfl
theorem cnt_yes {l : List (Int × Int)} {q p : Int × Int} {c k : Nat} (h : k < l.length) (e : clsN q p (px l k, py l k) = c) : cnt (l.take (k + 1)) q p c = cnt (l.take k) q p c + 1 := by
  unfold cnt; rw [take_snoc9 h, List.countP_append]; simp [e]
theorem cnt_no {l : List (Int × Int)} {q p : Int × Int} {c d k : Nat} (h : k < l.length) (e : clsN q p (px l k, py l k) = c) (hd : c ≠ d) : cnt (l.take (k + 1)) q p d = cnt (l.take k) q p d := by
  unfold cnt; rw [take_snoc9 h, List.countP_append]; simp [e, hd]
theorem cnt_le (l : List (Int × Int)) (q p : Int × Int) (c : Nat) : cnt l q p c ≤ l.length := List.countP_le_length
theorem few_c (n0 n1 n2 n3 n4 : Nat) (w : World) (h0 : n0 ≤ 1048576) (h1 : n1 ≤ 1048576) (h2 : n2 ≤ 1048576) (h3 : n3 ≤ 1048576) (h4 : n4 ≤ 1048576) :
    Calls Tryd.prog 42 #[.agg #[.int .i64 (n0 : Int), .int .i64 (n1 : Int), .int .i64 (n2 : Int), .int .i64 (n3 : Int), .int .i64 (n4 : Int)]] w fun e w' => e = .returned (.int .i64 ((n0 + min n1 n2 + min n3 n4 : Nat) : Int)) ∧ Below w.heap.size w w' := by
  by_cases ha : (n2 : Int) < (n1 : Int)
  all_goals by_cases hb : (n4 : Int) < (n3 : Int)
  all_goals go_enter Tryd.func42, Tryd.ntmps42
  all_goals go_wp2
  all_goals go_ret
  all_goals exact ⟨ret_int (by omega), by go_grown⟩
theorem cell_set_other {w : World} {b j c i : Nat} {v : Value} (h : c ≠ b) : (w.setCell ⟨b, j, none⟩ v).cell? ⟨c, i, none⟩ = w.cell? ⟨c, i, none⟩ :=
  World.cell?_setCell_other _ _ _ _ fun e => h (by simpa using (congrArg Addr.block e).symm)
theorem VB.other {w : World} {b c j : Nat} {v : Value} {a0 a1 a2 a3 a4 : Int} (h : VB w c a0 a1 a2 a3 a4) (hc : c ≠ b) : VB (w.setCell ⟨b, j, none⟩ v) c a0 a1 a2 a3 a4 := (Below.heap_setCell _ _ _ _ hc).trans h
theorem below_set {N : Nat} {w u : World} {b j : Nat} {v : Value} (h : Below N w u) (hb : N ≤ b) : Below N w (u.setCell ⟨b, j, none⟩ v) := by
  exact h.setCell (p := ⟨b, j, none⟩) hb v
set_option maxHeartbeats 8000000 in
theorem viewOf_c (l : List (Int × Int)) (q0 q1 p0 p1 : Int) (a : Option Addr) (len cap : Nat) (w : World) (hl : l.length = len) (h1 : len ≤ 1048576) (hA : At w.heap.size a l w) (c0 : w.cell? ⟨0, 0, none⟩ = some (.int .i64 1000000)) :
    Calls Tryd.prog 41 #[.slice a len cap, .agg #[.int .i64 q0, .int .i64 q1], .agg #[.int .i64 p0, .int .i64 p1]] w fun e w' => e = .returned (.agg #[.int .i64 (cnt l (q0, q1) (p0, p1) 0 : Nat), .int .i64 (cnt l (q0, q1) (p0, p1) 1 : Nat), .int .i64 (cnt l (q0, q1) (p0, p1) 2 : Nat), .int .i64 (cnt l (q0, q1) (p0, p1) 3 : Nat), .int .i64 (cnt l (q0, q1) (p0, p1) 4 : Nat)]) ∧ Below w.heap.size w w' := by
  subst hl
  have HA := hid hA
  have C0 := hid c0
  clear hA c0
  have hbw : Below w.heap.size w ((((w.alloc (.cells #[.int .i64 q0, .int .i64 q1] 30)).alloc (.cells #[.int .i64 p0, .int .i64 p1] 30)).alloc (.cells #[.int .i64 0, .int .i64 0, .int .i64 0, .int .i64 0, .int .i64 0] 56)).alloc (.cells #[.int .i64 0, .int .i64 0, .int .i64 0, .int .i64 0, .int .i64 0] 56)) := by go_grown
  go_enter Tryd.func41, Tryd.ntmps41
  go_wp2
  go_loopw [14] (fun i wr => ∃ k : Nat, k ≤ l.length ∧ i = .int .i64 k ∧ wr.cell? ⟨w.heap.size, 0, none⟩ = some (.int .i64 q0) ∧ wr.cell? ⟨w.heap.size, 1, none⟩ = some (.int .i64 q1) ∧ wr.cell? ⟨w.heap.size + 1, 0, none⟩ = some (.int .i64 p0) ∧ wr.cell? ⟨w.heap.size + 1, 1, none⟩ = some (.int .i64 p1) ∧ VB wr (w.heap.size + 1 + 1 + 1) (cnt (l.take k) (q0, q1) (p0, p1) 0 : Nat) (cnt (l.take k) (q0, q1) (p0, p1) 1 : Nat) (cnt (l.take k) (q0, q1) (p0, p1) 2 : Nat) (cnt (l.take k) (q0, q1) (p0, p1) 3 : Nat) (cnt (l.take k) (q0, q1) (p0, p1) 4 : Nat) ∧ VB wr (w.heap.size + 1 + 1) 0 0 0 0 0 ∧ Below w.heap.size w wr) (fun i _ => l.length - (intOf i).toNat)
  case atStart => exact ⟨0, Nat.zero_le _, rfl, by simp [go_sem], by simp [go_sem], by simp [go_sem], by simp [go_sem], by simpa [cnt, go_sem] using VB.new ((((w.alloc (.cells #[.int .i64 q0, .int .i64 q1] 30)).alloc (.cells #[.int .i64 p0, .int .i64 p1] 30)).alloc (.cells #[.int .i64 0, .int .i64 0, .int .i64 0, .int .i64 0, .int .i64 0] 56))), by simpa [go_sem] using (VB.new (((w.alloc (.cells #[.int .i64 q0, .int .i64 q1] 30)).alloc (.cells #[.int .i64 p0, .int .i64 p1] 30)))).later ((Below.refl _ _).alloc (Nat.le_refl _) (.cells #[.int .i64 0, .int .i64 0, .int .i64 0, .int .i64 0, .int .i64 0] 56)) (by simp [go_sem]), hbw⟩
  case round =>
    clear hbw
    obtain ⟨k, hk, rfl, r0, r1, r2, r3, hV, hZ, hbw⟩ := hrel
    by_cases hkl : k < l.length
    · have HXY0 : (px l k, py l k) = (px l k, py l k) := rfl
      have hn0 : cnt (l.take k) (q0, q1) (p0, p1) 0 ≤ k := Nat.le_trans (cnt_le _ _ _ _) (by rw [List.length_take]; omega)
      obtain ⟨n0, hN0⟩ : ∃ n, cnt (l.take k) (q0, q1) (p0, p1) 0 = n := ⟨_, rfl⟩
      rw [hN0] at hn0 hV
      have HN0 := hid hN0
      clear hN0
      have hn1 : cnt (l.take k) (q0, q1) (p0, p1) 1 ≤ k := Nat.le_trans (cnt_le _ _ _ _) (by rw [List.length_take]; omega)
      obtain ⟨n1, hN1⟩ : ∃ n, cnt (l.take k) (q0, q1) (p0, p1) 1 = n := ⟨_, rfl⟩
      rw [hN1] at hn1 hV
      have HN1 := hid hN1
      clear hN1
      have hn2 : cnt (l.take k) (q0, q1) (p0, p1) 2 ≤ k := Nat.le_trans (cnt_le _ _ _ _) (by rw [List.length_take]; omega)
      obtain ⟨n2, hN2⟩ : ∃ n, cnt (l.take k) (q0, q1) (p0, p1) 2 = n := ⟨_, rfl⟩
      rw [hN2] at hn2 hV
      have HN2 := hid hN2
      clear hN2
      have hn3 : cnt (l.take k) (q0, q1) (p0, p1) 3 ≤ k := Nat.le_trans (cnt_le _ _ _ _) (by rw [List.length_take]; omega)
      obtain ⟨n3, hN3⟩ : ∃ n, cnt (l.take k) (q0, q1) (p0, p1) 3 = n := ⟨_, rfl⟩
      rw [hN3] at hn3 hV
      have HN3 := hid hN3
      clear hN3
      have hn4 : cnt (l.take k) (q0, q1) (p0, p1) 4 ≤ k := Nat.le_trans (cnt_le _ _ _ _) (by rw [List.length_take]; omega)
      obtain ⟨n4, hN4⟩ : ∃ n, cnt (l.take k) (q0, q1) (p0, p1) 4 = n := ⟨_, rfl⟩
      rw [hN4] at hn4 hV
      have HN4 := hid hN4
      clear hN4
      obtain ⟨b, off, rfl, hbN, g0, g1⟩ := HA.out k hkl
      have q0' := cell_later hbw g0
      have q1' := cell_later hbw g1
      have hsz := hbw.size
      have hbl : b < wr.heap.size := by omega
      have hb3 := hV.lt
      have hbq2 : w.heap.size + 1 + 1 < wr.heap.size := by omega
      have hbq1 : w.heap.size + 1 < wr.heap.size := by omega
      have hbq0 : w.heap.size < wr.heap.size := by omega
      clear g0 g1
      obtain ⟨ux, hx⟩ : ∃ u, px l k = u := ⟨_, rfl⟩
      obtain ⟨uy, hy⟩ : ∃ u, py l k = u := ⟨_, rfl⟩
      have HXY := hid (show (px l k, py l k) = (ux, uy) by rw [hx, hy])
      rw [hx] at q0'
      rw [hy] at q1'
      clear hx hy HXY0
      obtain ⟨sn, hsn⟩ : ∃ s, sideN q0 q1 p0 p1 ux uy = s := ⟨_, rfl⟩
      have HSN := hid (show sideN (q0, q1).1 (q0, q1).2 (p0, p1).1 (p0, p1).2 (ux, uy).1 (ux, uy).2 = sn from hsn)
      have hi0 : (0 : Int) ≤ (k : Int) := by omega
      have hi1 : (k : Int) < (l.length : Int) := by omega
      have hbX : Below wr.heap.size wr (wr.alloc (.cells #[.int .i64 ux, .int .i64 uy] 30)) := by go_grown
      have HBX := hid (grew hbw hbX)
      have R0 := hid (cell_later hbX r0)
      have R1 := hid (cell_later hbX r1)
      have R2 := hid (cell_later hbX r2)
      have R3 := hid (cell_later hbX r3)
      have K0 := hid (box0 wr ux uy 30)
      have K1 := hid (box1 wr ux uy 30)
      have VX := hid (hV.later hbX hV.lt)
      have ZX := hid (hZ.later hbX hZ.lt)
      clear hbX hbw hV hZ
      by_cases ex : ux = q0
      · by_cases ey : uy = q1
        · have CLS := hid (show clsN (q0, q1) (p0, p1) (ux, uy) = 0 by rw [ex, ey]; unfold clsN; rw [if_pos rfl])
          subst ex ey
          go_wp2_with (first | (go_at_call 66; refine (sideOfImpl_c _ _ _ _ _ _ _ (cell_later HBX.out C0.out)).mono ?_; rw [hsn]; rintro e w1 ⟨rfl, hb⟩; have k0 := cell_later hb R0.out; have k1 := cell_later hb R1.out; have k2 := cell_later hb R2.out; have k3 := cell_later hb R3.out; have k4 := cell_later hb K0.out; have k5 := cell_later hb K1.out; have HB1 := hid (grew HBX.out hb); have v1 := VX.out.later hb VX.out.lt; have z1 := ZX.out.later hb ZX.out.lt; have hlt := v1.lt; obtain ⟨v10, v11, v12, v13, v14⟩ := v1.cells; obtain ⟨f10, f11, f12, f13, f14⟩ := v1.free; have VV := hid v1; have ZZ := hid z1; clear v1 z1 hb r0 r1 r2 r3 q0' q1'))
          go_roundw
          case rel =>
            have ec := CLS.out
            have hst : ∀ (u : World) (x : Value), u.heap.size = u.heap.size := fun _ _ => rfl
            refine ⟨k + 1, by omega, by go_num, ?_, ?_, ?_, ?_, ?_, ?_, ?_⟩
            · exact (cell_set_other (by omega)).trans k0
            · exact (cell_set_other (by omega)).trans k1
            · exact (cell_set_other (by omega)).trans k2
            · exact (cell_set_other (by omega)).trans k3
            · have := VB.set0 (x := (n0 : Int) + 1) VV.out
              rw [cnt_yes (q := (ux, uy)) (p := (p0, p1)) (c := 0) hkl (by rw [HXY.out]; exact ec), cnt_no (q := (ux, uy)) (p := (p0, p1)) (c := 0) (d := 1) hkl (by rw [HXY.out]; exact ec) (by omega), cnt_no (q := (ux, uy)) (p := (p0, p1)) (c := 0) (d := 2) hkl (by rw [HXY.out]; exact ec) (by omega), cnt_no (q := (ux, uy)) (p := (p0, p1)) (c := 0) (d := 3) hkl (by rw [HXY.out]; exact ec) (by omega), cnt_no (q := (ux, uy)) (p := (p0, p1)) (c := 0) (d := 4) hkl (by rw [HXY.out]; exact ec) (by omega), HN0.out, HN1.out, HN2.out, HN3.out, HN4.out]
              rw [show (((n0 + 1 : Nat)) : Int) = (n0 : Int) + 1 from by omega]
              exact this
            · exact VB.other ZZ.out (by omega)
            · exact below_set (HB1.out) (by omega)
          case measure => simp [intOf]; omega
        · have ey2 : (uy == q1) = false := by simpa using ey
          have NE := hid (show ¬ (ux, uy) = (q0, q1) from fun e => ey (congrArg Prod.snd e))
          subst ex
          clear ey
          by_cases h1s : sn = 1
          · subst h1s
            have CLS := hid (show clsN (ux, q1) (p0, p1) (ux, uy) = 1 by unfold clsN; rw [if_neg NE.out, if_pos HSN.out])
            go_wp2_with (first | (go_at_call 66; refine (sideOfImpl_c _ _ _ _ _ _ _ (cell_later HBX.out C0.out)).mono ?_; rw [hsn]; rintro e w1 ⟨rfl, hb⟩; have k0 := cell_later hb R0.out; have k1 := cell_later hb R1.out; have k2 := cell_later hb R2.out; have k3 := cell_later hb R3.out; have k4 := cell_later hb K0.out; have k5 := cell_later hb K1.out; have HB1 := hid (grew HBX.out hb); have v1 := VX.out.later hb VX.out.lt; have z1 := ZX.out.later hb ZX.out.lt; have hlt := v1.lt; obtain ⟨v10, v11, v12, v13, v14⟩ := v1.cells; obtain ⟨f10, f11, f12, f13, f14⟩ := v1.free; have VV := hid v1; have ZZ := hid z1; clear v1 z1 hb r0 r1 r2 r3 q0' q1'))
            go_roundw
            case rel =>
              have ec := CLS.out
              have hst : ∀ (u : World) (x : Value), u.heap.size = u.heap.size := fun _ _ => rfl
              refine ⟨k + 1, by omega, by go_num, ?_, ?_, ?_, ?_, ?_, ?_, ?_⟩
              · exact (cell_set_other (by omega)).trans k0
              · exact (cell_set_other (by omega)).trans k1
              · exact (cell_set_other (by omega)).trans k2
              · exact (cell_set_other (by omega)).trans k3
              · have := VB.set1 (x := (n1 : Int) + 1) VV.out
                rw [cnt_no (q := (ux, q1)) (p := (p0, p1)) (c := 1) (d := 0) hkl (by rw [HXY.out]; exact ec) (by omega), cnt_yes (q := (ux, q1)) (p := (p0, p1)) (c := 1) hkl (by rw [HXY.out]; exact ec), cnt_no (q := (ux, q1)) (p := (p0, p1)) (c := 1) (d := 2) hkl (by rw [HXY.out]; exact ec) (by omega), cnt_no (q := (ux, q1)) (p := (p0, p1)) (c := 1) (d := 3) hkl (by rw [HXY.out]; exact ec) (by omega), cnt_no (q := (ux, q1)) (p := (p0, p1)) (c := 1) (d := 4) hkl (by rw [HXY.out]; exact ec) (by omega), HN0.out, HN1.out, HN2.out, HN3.out, HN4.out]
                rw [show (((n1 + 1 : Nat)) : Int) = (n1 : Int) + 1 from by omega]
                exact this
              · exact VB.other ZZ.out (by omega)
              · exact below_set (HB1.out) (by omega)
            case measure => simp [intOf]; omega
          · by_cases h2s : sn = -1
            · subst h2s
              have CLS := hid (show clsN (ux, q1) (p0, p1) (ux, uy) = 2 by unfold clsN; rw [if_neg NE.out, HSN.out]; simp)
              go_wp2_with (first | (go_at_call 66; refine (sideOfImpl_c _ _ _ _ _ _ _ (cell_later HBX.out C0.out)).mono ?_; rw [hsn]; rintro e w1 ⟨rfl, hb⟩; have k0 := cell_later hb R0.out; have k1 := cell_later hb R1.out; have k2 := cell_later hb R2.out; have k3 := cell_later hb R3.out; have k4 := cell_later hb K0.out; have k5 := cell_later hb K1.out; have HB1 := hid (grew HBX.out hb); have v1 := VX.out.later hb VX.out.lt; have z1 := ZX.out.later hb ZX.out.lt; have hlt := v1.lt; obtain ⟨v10, v11, v12, v13, v14⟩ := v1.cells; obtain ⟨f10, f11, f12, f13, f14⟩ := v1.free; have VV := hid v1; have ZZ := hid z1; clear v1 z1 hb r0 r1 r2 r3 q0' q1'))
              go_roundw
              case rel =>
                have ec := CLS.out
                have hst : ∀ (u : World) (x : Value), u.heap.size = u.heap.size := fun _ _ => rfl
                refine ⟨k + 1, by omega, by go_num, ?_, ?_, ?_, ?_, ?_, ?_, ?_⟩
                · exact (cell_set_other (by omega)).trans k0
                · exact (cell_set_other (by omega)).trans k1
                · exact (cell_set_other (by omega)).trans k2
                · exact (cell_set_other (by omega)).trans k3
                · have := VB.set2 (x := (n2 : Int) + 1) VV.out
                  rw [cnt_no (q := (ux, q1)) (p := (p0, p1)) (c := 2) (d := 0) hkl (by rw [HXY.out]; exact ec) (by omega), cnt_no (q := (ux, q1)) (p := (p0, p1)) (c := 2) (d := 1) hkl (by rw [HXY.out]; exact ec) (by omega), cnt_yes (q := (ux, q1)) (p := (p0, p1)) (c := 2) hkl (by rw [HXY.out]; exact ec), cnt_no (q := (ux, q1)) (p := (p0, p1)) (c := 2) (d := 3) hkl (by rw [HXY.out]; exact ec) (by omega), cnt_no (q := (ux, q1)) (p := (p0, p1)) (c := 2) (d := 4) hkl (by rw [HXY.out]; exact ec) (by omega), HN0.out, HN1.out, HN2.out, HN3.out, HN4.out]
                  rw [show (((n2 + 1 : Nat)) : Int) = (n2 : Int) + 1 from by omega]
                  exact this
                · exact VB.other ZZ.out (by omega)
                · exact below_set (HB1.out) (by omega)
              case measure => simp [intOf]; omega
            · have CL4 := hid (show clsN (ux, q1) (p0, p1) (ux, uy) = if lessB ux q1 ux uy = lessB ux q1 p0 p1 then 3 else 4 by unfold clsN; rw [if_neg NE.out, HSN.out, if_neg h1s, if_neg h2s])
              cases hL1 : lessB ux q1 ux uy
              all_goals cases hL2 : lessB ux q1 p0 p1
              · have CLS := hid (show clsN (ux, q1) (p0, p1) (ux, uy) = 3 by rw [CL4.out, hL1, hL2]; rfl)
                go_upto_region 13 with (first | (go_at_call 66; refine (sideOfImpl_c _ _ _ _ _ _ _ (cell_later HBX.out C0.out)).mono ?_; rw [hsn]; rintro e w1 ⟨rfl, hb⟩; have k0 := cell_later hb R0.out; have k1 := cell_later hb R1.out; have k2 := cell_later hb R2.out; have k3 := cell_later hb R3.out; have k4 := cell_later hb K0.out; have k5 := cell_later hb K1.out; have HB1 := hid (grew HBX.out hb); have v1 := VX.out.later hb VX.out.lt; have z1 := ZX.out.later hb ZX.out.lt; have hlt := v1.lt; obtain ⟨v10, v11, v12, v13, v14⟩ := v1.cells; obtain ⟨f10, f11, f12, f13, f14⟩ := v1.free; have VV := hid v1; have ZZ := hid z1; clear v1 z1 hb r0 r1 r2 r3 q0' q1'))
                refine wp_region_held_drew (S := (fun u => Below w1.heap.size w1 u)) (by kernel_rfl) ?_ (fun hHeld => ?_)
                · exact (Below.refl _ _).drew
                refine wpAnyH_take (i := 0) (oi := { dst := some 52, op := Op.load 30 (Operand.tmp 4), type := 30, pos := "l9_layers.go:132", after := #[], guard := none }) (v := ?v2yx0u1) rfl (by kernel_rfl) (by kernel_rfl) (by kernel_rfl) (fun _ _ _ h => h) (Or.inl ⟨by rfl, ?hy2yx0u1⟩) (by with_reducible assumption) ?rest2yx0u1
                case hy2yx0u1 => (intro wS hSw; (try dsimp only at hSw); have z0 := cell_later hSw k0; have z1 := cell_later hSw k1; have z2 := cell_later hSw k2; have z3 := cell_later hSw k3; have z4 := cell_later hSw k4; have z5 := cell_later hSw k5; clear hSw; go_simp; try with_reducible rfl)
                case' rest2yx0u1 => (try simp only [Act.put, List.setIfInBounds_toArray, List.set_cons_zero, List.set_cons_succ])
                refine wpAnyH_take (i := 1) (oi := { dst := some 53, op := Op.load 30 (Operand.tmp 9), type := 30, pos := "l9_layers.go:132", after := #[], guard := none }) (v := ?v3yx1u2) rfl (by kernel_rfl) (by kernel_rfl) (by kernel_rfl) (fun _ _ _ h => h) (Or.inl ⟨by rfl, ?hy3yx1u2⟩) (by with_reducible assumption) ?rest3yx1u2
                case hy3yx1u2 => (intro wS hSw; (try dsimp only at hSw); have z0 := cell_later hSw k0; have z1 := cell_later hSw k1; have z2 := cell_later hSw k2; have z3 := cell_later hSw k3; have z4 := cell_later hSw k4; have z5 := cell_later hSw k5; clear hSw; go_simp; try with_reducible rfl)
                case' rest3yx1u2 => (try simp only [Act.put, List.setIfInBounds_toArray, List.set_cons_zero, List.set_cons_succ])
                refine wpAnyH_take (i := 3) (oi := { dst := some 55, op := Op.load 30 (Operand.tmp 4), type := 30, pos := "l9_layers.go:132", after := #[], guard := none }) (v := ?v4yx3u3) rfl (by kernel_rfl) (by kernel_rfl) (by kernel_rfl) (fun _ _ _ h => h) (Or.inl ⟨by rfl, ?hy4yx3u3⟩) (by with_reducible assumption) ?rest4yx3u3
                case hy4yx3u3 => (intro wS hSw; (try dsimp only at hSw); have z0 := cell_later hSw k0; have z1 := cell_later hSw k1; have z2 := cell_later hSw k2; have z3 := cell_later hSw k3; have z4 := cell_later hSw k4; have z5 := cell_later hSw k5; clear hSw; go_simp; try with_reducible rfl)
                case' rest4yx3u3 => (try simp only [Act.put, List.setIfInBounds_toArray, List.set_cons_zero, List.set_cons_succ])
                refine wpAnyH_take (i := 4) (oi := { dst := some 56, op := Op.load 30 (Operand.tmp 5), type := 30, pos := "l9_layers.go:132", after := #[], guard := none }) (v := ?v5yx4u4) rfl (by kernel_rfl) (by kernel_rfl) (by kernel_rfl) (fun _ _ _ h => h) (Or.inl ⟨by rfl, ?hy5yx4u4⟩) (by with_reducible assumption) ?rest5yx4u4
                case hy5yx4u4 => (intro wS hSw; (try dsimp only at hSw); have z0 := cell_later hSw k0; have z1 := cell_later hSw k1; have z2 := cell_later hSw k2; have z3 := cell_later hSw k3; have z4 := cell_later hSw k4; have z5 := cell_later hSw k5; clear hSw; go_simp; try with_reducible rfl)
                case' rest5yx4u4 => (try simp only [Act.put, List.setIfInBounds_toArray, List.set_cons_zero, List.set_cons_succ])
                refine wpAnyH_ready (rs := [2]) (by kernel_rfl) (by simp) ?_
                refine AllReadyH.cons (o := { dst := some 54, op := Op.call { callee := Callee.value (Operand.func 67), args := #[Operand.tmp 52, Operand.tmp 53], argTypes := #[30, 30] }, type := 4, pos := "l9_layers.go:132", after := #[{ on := 0, ground := Ground.data }, { on := 1, ground := Ground.data }], guard := none }) rfl (fun K hK => ?_) AllReadyH.nil
                go_simp
                refine (lessImpl_c _ _ _ _ _).mono ?_
                rintro e u2 ⟨rfl, hbc2⟩
                go_wp2_with fail
                refine hK.out _ _ ?_ (fun hHeld => ?_)
                · exact grew (by with_reducible assumption) hbc2
                clear hK K
                try simp only [Act.put, List.setIfInBounds_toArray, List.set_cons_zero, List.set_cons_succ]
                refine wpAnyH_ready (rs := [5]) (by kernel_rfl) (by simp) ?_
                refine AllReadyH.cons (o := { dst := some 57, op := Op.call { callee := Callee.value (Operand.func 67), args := #[Operand.tmp 55, Operand.tmp 56], argTypes := #[30, 30] }, type := 4, pos := "l9_layers.go:132", after := #[{ on := 3, ground := Ground.data }, { on := 4, ground := Ground.data }, { on := 2, ground := Ground.chain }], guard := none }) rfl (fun K hK => ?_) AllReadyH.nil
                go_simp
                refine (lessImpl_c _ _ _ _ _).mono ?_
                rintro e u5 ⟨rfl, hbc5⟩
                go_wp2_with fail
                refine hK.out _ _ ?_ (fun hHeld => ?_)
                · exact grew (by with_reducible assumption) hbc5
                clear hK K
                try simp only [Act.put, List.setIfInBounds_toArray, List.set_cons_zero, List.set_cons_succ]
                refine wpAnyH_take (i := 6) (oi := { dst := some 58, op := Op.binOp BinOp.eql 4 (Operand.tmp 54) (Operand.tmp 57) 4, type := 4, pos := "l9_layers.go:132", after := #[{ on := 2, ground := Ground.data }, { on := 5, ground := Ground.data }], guard := none }) (v := ?v6yx6u5) rfl (by kernel_rfl) (by kernel_rfl) (by kernel_rfl) (fun _ _ _ h => h) (Or.inl ⟨by rfl, ?hy6yx6u5⟩) (by with_reducible assumption) ?rest6yx6u5
                case hy6yx6u5 => (intro wS hSw; (try dsimp only at hSw); have z0 := cell_later hSw k0; have z1 := cell_later hSw k1; have z2 := cell_later hSw k2; have z3 := cell_later hSw k3; have z4 := cell_later hSw k4; have z5 := cell_later hSw k5; clear hSw; go_simp; try with_reducible rfl)
                case' rest6yx6u5 => (try simp only [Act.put, List.setIfInBounds_toArray, List.set_cons_zero, List.set_cons_succ])
                refine wpAnyH_take (i := 7) (oi := { dst := some 51, op := Op.assign (Operand.tmp 58), type := 4, pos := "l9_layers.go:132", after := #[{ on := 6, ground := Ground.data }, { on := 5, ground := Ground.chain }], guard := none }) (v := ?v7yx7u6) rfl (by kernel_rfl) (by kernel_rfl) (by kernel_rfl) (fun _ _ _ h => h) (Or.inl ⟨by rfl, ?hy7yx7u6⟩) (by with_reducible assumption) ?rest7yx7u6
                case hy7yx7u6 => (intro wS hSw; (try dsimp only at hSw); have z0 := cell_later hSw k0; have z1 := cell_later hSw k1; have z2 := cell_later hSw k2; have z3 := cell_later hSw k3; have z4 := cell_later hSw k4; have z5 := cell_later hSw k5; clear hSw; go_simp; try with_reducible rfl)
                case' rest7yx7u6 => (try simp only [Act.put, List.setIfInBounds_toArray, List.set_cons_zero, List.set_cons_succ])
                refine wpAnyH_done (by kernel_rfl) ?_ _
                have hbS : Below w1.heap.size w1 _ := (by with_reducible assumption)
                obtain ⟨g10, g11, g12, g13, g14⟩ := (VV.out.later hbS VV.out.lt).cells
                obtain ⟨f20, f21, f22, f23, f24⟩ := (VV.out.later hbS VV.out.lt).free
                have hszS := hbS.size
                go_wp2
                go_roundw
                case rel =>
                  have ec := CLS.out
                  have hst : ∀ (u : World) (x : Value), u.heap.size = u.heap.size := fun _ _ => rfl
                  refine ⟨k + 1, by omega, by go_num, ?_, ?_, ?_, ?_, ?_, ?_, ?_⟩
                  · exact (cell_set_other (by omega)).trans (cell_later hbS k0)
                  · exact (cell_set_other (by omega)).trans (cell_later hbS k1)
                  · exact (cell_set_other (by omega)).trans (cell_later hbS k2)
                  · exact (cell_set_other (by omega)).trans (cell_later hbS k3)
                  · have := VB.set3 (x := (n3 : Int) + 1) (VV.out.later hbS VV.out.lt)
                    rw [cnt_no (q := (ux, q1)) (p := (p0, p1)) (c := 3) (d := 0) hkl (by rw [HXY.out]; exact ec) (by omega), cnt_no (q := (ux, q1)) (p := (p0, p1)) (c := 3) (d := 1) hkl (by rw [HXY.out]; exact ec) (by omega), cnt_no (q := (ux, q1)) (p := (p0, p1)) (c := 3) (d := 2) hkl (by rw [HXY.out]; exact ec) (by omega), cnt_yes (q := (ux, q1)) (p := (p0, p1)) (c := 3) hkl (by rw [HXY.out]; exact ec), cnt_no (q := (ux, q1)) (p := (p0, p1)) (c := 3) (d := 4) hkl (by rw [HXY.out]; exact ec) (by omega), HN0.out, HN1.out, HN2.out, HN3.out, HN4.out]
                    rw [show (((n3 + 1 : Nat)) : Int) = (n3 : Int) + 1 from by omega]
                    exact this
                  · exact VB.other (ZZ.out.later hbS ZZ.out.lt) (by omega)
                  · exact below_set (grew HB1.out hbS) (by omega)
                case measure => simp [intOf]; omega
              · have CLS := hid (show clsN (ux, q1) (p0, p1) (ux, uy) = 4 by rw [CL4.out, hL1, hL2]; rfl)
                go_upto_region 13 with (first | (go_at_call 66; refine (sideOfImpl_c _ _ _ _ _ _ _ (cell_later HBX.out C0.out)).mono ?_; rw [hsn]; rintro e w1 ⟨rfl, hb⟩; have k0 := cell_later hb R0.out; have k1 := cell_later hb R1.out; have k2 := cell_later hb R2.out; have k3 := cell_later hb R3.out; have k4 := cell_later hb K0.out; have k5 := cell_later hb K1.out; have HB1 := hid (grew HBX.out hb); have v1 := VX.out.later hb VX.out.lt; have z1 := ZX.out.later hb ZX.out.lt; have hlt := v1.lt; obtain ⟨v10, v11, v12, v13, v14⟩ := v1.cells; obtain ⟨f10, f11, f12, f13, f14⟩ := v1.free; have VV := hid v1; have ZZ := hid z1; clear v1 z1 hb r0 r1 r2 r3 q0' q1'))
                refine wp_region_held_drew (S := (fun u => Below w1.heap.size w1 u)) (by kernel_rfl) ?_ (fun hHeld => ?_)
                · exact (Below.refl _ _).drew
                refine wpAnyH_take (i := 0) (oi := { dst := some 52, op := Op.load 30 (Operand.tmp 4), type := 30, pos := "l9_layers.go:132", after := #[], guard := none }) (v := ?v2yx0u7) rfl (by kernel_rfl) (by kernel_rfl) (by kernel_rfl) (fun _ _ _ h => h) (Or.inl ⟨by rfl, ?hy2yx0u7⟩) (by with_reducible assumption) ?rest2yx0u7
                case hy2yx0u7 => (intro wS hSw; (try dsimp only at hSw); have z0 := cell_later hSw k0; have z1 := cell_later hSw k1; have z2 := cell_later hSw k2; have z3 := cell_later hSw k3; have z4 := cell_later hSw k4; have z5 := cell_later hSw k5; clear hSw; go_simp; try with_reducible rfl)
                case' rest2yx0u7 => (try simp only [Act.put, List.setIfInBounds_toArray, List.set_cons_zero, List.set_cons_succ])
                refine wpAnyH_take (i := 1) (oi := { dst := some 53, op := Op.load 30 (Operand.tmp 9), type := 30, pos := "l9_layers.go:132", after := #[], guard := none }) (v := ?v3yx1u8) rfl (by kernel_rfl) (by kernel_rfl) (by kernel_rfl) (fun _ _ _ h => h) (Or.inl ⟨by rfl, ?hy3yx1u8⟩) (by with_reducible assumption) ?rest3yx1u8
                case hy3yx1u8 => (intro wS hSw; (try dsimp only at hSw); have z0 := cell_later hSw k0; have z1 := cell_later hSw k1; have z2 := cell_later hSw k2; have z3 := cell_later hSw k3; have z4 := cell_later hSw k4; have z5 := cell_later hSw k5; clear hSw; go_simp; try with_reducible rfl)
                case' rest3yx1u8 => (try simp only [Act.put, List.setIfInBounds_toArray, List.set_cons_zero, List.set_cons_succ])
                refine wpAnyH_take (i := 3) (oi := { dst := some 55, op := Op.load 30 (Operand.tmp 4), type := 30, pos := "l9_layers.go:132", after := #[], guard := none }) (v := ?v4yx3u9) rfl (by kernel_rfl) (by kernel_rfl) (by kernel_rfl) (fun _ _ _ h => h) (Or.inl ⟨by rfl, ?hy4yx3u9⟩) (by with_reducible assumption) ?rest4yx3u9
                case hy4yx3u9 => (intro wS hSw; (try dsimp only at hSw); have z0 := cell_later hSw k0; have z1 := cell_later hSw k1; have z2 := cell_later hSw k2; have z3 := cell_later hSw k3; have z4 := cell_later hSw k4; have z5 := cell_later hSw k5; clear hSw; go_simp; try with_reducible rfl)
                case' rest4yx3u9 => (try simp only [Act.put, List.setIfInBounds_toArray, List.set_cons_zero, List.set_cons_succ])
                refine wpAnyH_take (i := 4) (oi := { dst := some 56, op := Op.load 30 (Operand.tmp 5), type := 30, pos := "l9_layers.go:132", after := #[], guard := none }) (v := ?v5yx4u10) rfl (by kernel_rfl) (by kernel_rfl) (by kernel_rfl) (fun _ _ _ h => h) (Or.inl ⟨by rfl, ?hy5yx4u10⟩) (by with_reducible assumption) ?rest5yx4u10
                case hy5yx4u10 => (intro wS hSw; (try dsimp only at hSw); have z0 := cell_later hSw k0; have z1 := cell_later hSw k1; have z2 := cell_later hSw k2; have z3 := cell_later hSw k3; have z4 := cell_later hSw k4; have z5 := cell_later hSw k5; clear hSw; go_simp; try with_reducible rfl)
                case' rest5yx4u10 => (try simp only [Act.put, List.setIfInBounds_toArray, List.set_cons_zero, List.set_cons_succ])
                refine wpAnyH_ready (rs := [2]) (by kernel_rfl) (by simp) ?_
                refine AllReadyH.cons (o := { dst := some 54, op := Op.call { callee := Callee.value (Operand.func 67), args := #[Operand.tmp 52, Operand.tmp 53], argTypes := #[30, 30] }, type := 4, pos := "l9_layers.go:132", after := #[{ on := 0, ground := Ground.data }, { on := 1, ground := Ground.data }], guard := none }) rfl (fun K hK => ?_) AllReadyH.nil
                go_simp
                refine (lessImpl_c _ _ _ _ _).mono ?_
                rintro e u2 ⟨rfl, hbc2⟩
                go_wp2_with fail
                refine hK.out _ _ ?_ (fun hHeld => ?_)
                · exact grew (by with_reducible assumption) hbc2
                clear hK K
                try simp only [Act.put, List.setIfInBounds_toArray, List.set_cons_zero, List.set_cons_succ]
                refine wpAnyH_ready (rs := [5]) (by kernel_rfl) (by simp) ?_
                refine AllReadyH.cons (o := { dst := some 57, op := Op.call { callee := Callee.value (Operand.func 67), args := #[Operand.tmp 55, Operand.tmp 56], argTypes := #[30, 30] }, type := 4, pos := "l9_layers.go:132", after := #[{ on := 3, ground := Ground.data }, { on := 4, ground := Ground.data }, { on := 2, ground := Ground.chain }], guard := none }) rfl (fun K hK => ?_) AllReadyH.nil
                go_simp
                refine (lessImpl_c _ _ _ _ _).mono ?_
                rintro e u5 ⟨rfl, hbc5⟩
                go_wp2_with fail
                refine hK.out _ _ ?_ (fun hHeld => ?_)
                · exact grew (by with_reducible assumption) hbc5
                clear hK K
                try simp only [Act.put, List.setIfInBounds_toArray, List.set_cons_zero, List.set_cons_succ]
                refine wpAnyH_take (i := 6) (oi := { dst := some 58, op := Op.binOp BinOp.eql 4 (Operand.tmp 54) (Operand.tmp 57) 4, type := 4, pos := "l9_layers.go:132", after := #[{ on := 2, ground := Ground.data }, { on := 5, ground := Ground.data }], guard := none }) (v := ?v6yx6u11) rfl (by kernel_rfl) (by kernel_rfl) (by kernel_rfl) (fun _ _ _ h => h) (Or.inl ⟨by rfl, ?hy6yx6u11⟩) (by with_reducible assumption) ?rest6yx6u11
                case hy6yx6u11 => (intro wS hSw; (try dsimp only at hSw); have z0 := cell_later hSw k0; have z1 := cell_later hSw k1; have z2 := cell_later hSw k2; have z3 := cell_later hSw k3; have z4 := cell_later hSw k4; have z5 := cell_later hSw k5; clear hSw; go_simp; try with_reducible rfl)
                case' rest6yx6u11 => (try simp only [Act.put, List.setIfInBounds_toArray, List.set_cons_zero, List.set_cons_succ])
                refine wpAnyH_take (i := 7) (oi := { dst := some 51, op := Op.assign (Operand.tmp 58), type := 4, pos := "l9_layers.go:132", after := #[{ on := 6, ground := Ground.data }, { on := 5, ground := Ground.chain }], guard := none }) (v := ?v7yx7u12) rfl (by kernel_rfl) (by kernel_rfl) (by kernel_rfl) (fun _ _ _ h => h) (Or.inl ⟨by rfl, ?hy7yx7u12⟩) (by with_reducible assumption) ?rest7yx7u12
                case hy7yx7u12 => (intro wS hSw; (try dsimp only at hSw); have z0 := cell_later hSw k0; have z1 := cell_later hSw k1; have z2 := cell_later hSw k2; have z3 := cell_later hSw k3; have z4 := cell_later hSw k4; have z5 := cell_later hSw k5; clear hSw; go_simp; try with_reducible rfl)
                case' rest7yx7u12 => (try simp only [Act.put, List.setIfInBounds_toArray, List.set_cons_zero, List.set_cons_succ])
                refine wpAnyH_done (by kernel_rfl) ?_ _
                have hbS : Below w1.heap.size w1 _ := (by with_reducible assumption)
                obtain ⟨g10, g11, g12, g13, g14⟩ := (VV.out.later hbS VV.out.lt).cells
                obtain ⟨f20, f21, f22, f23, f24⟩ := (VV.out.later hbS VV.out.lt).free
                have hszS := hbS.size
                go_wp2
                go_roundw
                case rel =>
                  have ec := CLS.out
                  have hst : ∀ (u : World) (x : Value), u.heap.size = u.heap.size := fun _ _ => rfl
                  refine ⟨k + 1, by omega, by go_num, ?_, ?_, ?_, ?_, ?_, ?_, ?_⟩
                  · exact (cell_set_other (by omega)).trans (cell_later hbS k0)
                  · exact (cell_set_other (by omega)).trans (cell_later hbS k1)
                  · exact (cell_set_other (by omega)).trans (cell_later hbS k2)
                  · exact (cell_set_other (by omega)).trans (cell_later hbS k3)
                  · have := VB.set4 (x := (n4 : Int) + 1) (VV.out.later hbS VV.out.lt)
                    rw [cnt_no (q := (ux, q1)) (p := (p0, p1)) (c := 4) (d := 0) hkl (by rw [HXY.out]; exact ec) (by omega), cnt_no (q := (ux, q1)) (p := (p0, p1)) (c := 4) (d := 1) hkl (by rw [HXY.out]; exact ec) (by omega), cnt_no (q := (ux, q1)) (p := (p0, p1)) (c := 4) (d := 2) hkl (by rw [HXY.out]; exact ec) (by omega), cnt_no (q := (ux, q1)) (p := (p0, p1)) (c := 4) (d := 3) hkl (by rw [HXY.out]; exact ec) (by omega), cnt_yes (q := (ux, q1)) (p := (p0, p1)) (c := 4) hkl (by rw [HXY.out]; exact ec), HN0.out, HN1.out, HN2.out, HN3.out, HN4.out]
                    rw [show (((n4 + 1 : Nat)) : Int) = (n4 : Int) + 1 from by omega]
                    exact this
                  · exact VB.other (ZZ.out.later hbS ZZ.out.lt) (by omega)
                  · exact below_set (grew HB1.out hbS) (by omega)
                case measure => simp [intOf]; omega
              · have CLS := hid (show clsN (ux, q1) (p0, p1) (ux, uy) = 4 by rw [CL4.out, hL1, hL2]; rfl)
                go_upto_region 13 with (first | (go_at_call 66; refine (sideOfImpl_c _ _ _ _ _ _ _ (cell_later HBX.out C0.out)).mono ?_; rw [hsn]; rintro e w1 ⟨rfl, hb⟩; have k0 := cell_later hb R0.out; have k1 := cell_later hb R1.out; have k2 := cell_later hb R2.out; have k3 := cell_later hb R3.out; have k4 := cell_later hb K0.out; have k5 := cell_later hb K1.out; have HB1 := hid (grew HBX.out hb); have v1 := VX.out.later hb VX.out.lt; have z1 := ZX.out.later hb ZX.out.lt; have hlt := v1.lt; obtain ⟨v10, v11, v12, v13, v14⟩ := v1.cells; obtain ⟨f10, f11, f12, f13, f14⟩ := v1.free; have VV := hid v1; have ZZ := hid z1; clear v1 z1 hb r0 r1 r2 r3 q0' q1'))
                refine wp_region_held_drew (S := (fun u => Below w1.heap.size w1 u)) (by kernel_rfl) ?_ (fun hHeld => ?_)
                · exact (Below.refl _ _).drew
                refine wpAnyH_take (i := 0) (oi := { dst := some 52, op := Op.load 30 (Operand.tmp 4), type := 30, pos := "l9_layers.go:132", after := #[], guard := none }) (v := ?v2yx0u13) rfl (by kernel_rfl) (by kernel_rfl) (by kernel_rfl) (fun _ _ _ h => h) (Or.inl ⟨by rfl, ?hy2yx0u13⟩) (by with_reducible assumption) ?rest2yx0u13
                case hy2yx0u13 => (intro wS hSw; (try dsimp only at hSw); have z0 := cell_later hSw k0; have z1 := cell_later hSw k1; have z2 := cell_later hSw k2; have z3 := cell_later hSw k3; have z4 := cell_later hSw k4; have z5 := cell_later hSw k5; clear hSw; go_simp; try with_reducible rfl)
                case' rest2yx0u13 => (try simp only [Act.put, List.setIfInBounds_toArray, List.set_cons_zero, List.set_cons_succ])
                refine wpAnyH_take (i := 1) (oi := { dst := some 53, op := Op.load 30 (Operand.tmp 9), type := 30, pos := "l9_layers.go:132", after := #[], guard := none }) (v := ?v3yx1u14) rfl (by kernel_rfl) (by kernel_rfl) (by kernel_rfl) (fun _ _ _ h => h) (Or.inl ⟨by rfl, ?hy3yx1u14⟩) (by with_reducible assumption) ?rest3yx1u14
                case hy3yx1u14 => (intro wS hSw; (try dsimp only at hSw); have z0 := cell_later hSw k0; have z1 := cell_later hSw k1; have z2 := cell_later hSw k2; have z3 := cell_later hSw k3; have z4 := cell_later hSw k4; have z5 := cell_later hSw k5; clear hSw; go_simp; try with_reducible rfl)
                case' rest3yx1u14 => (try simp only [Act.put, List.setIfInBounds_toArray, List.set_cons_zero, List.set_cons_succ])
                refine wpAnyH_take (i := 3) (oi := { dst := some 55, op := Op.load 30 (Operand.tmp 4), type := 30, pos := "l9_layers.go:132", after := #[], guard := none }) (v := ?v4yx3u15) rfl (by kernel_rfl) (by kernel_rfl) (by kernel_rfl) (fun _ _ _ h => h) (Or.inl ⟨by rfl, ?hy4yx3u15⟩) (by with_reducible assumption) ?rest4yx3u15
                case hy4yx3u15 => (intro wS hSw; (try dsimp only at hSw); have z0 := cell_later hSw k0; have z1 := cell_later hSw k1; have z2 := cell_later hSw k2; have z3 := cell_later hSw k3; have z4 := cell_later hSw k4; have z5 := cell_later hSw k5; clear hSw; go_simp; try with_reducible rfl)
                case' rest4yx3u15 => (try simp only [Act.put, List.setIfInBounds_toArray, List.set_cons_zero, List.set_cons_succ])
                refine wpAnyH_take (i := 4) (oi := { dst := some 56, op := Op.load 30 (Operand.tmp 5), type := 30, pos := "l9_layers.go:132", after := #[], guard := none }) (v := ?v5yx4u16) rfl (by kernel_rfl) (by kernel_rfl) (by kernel_rfl) (fun _ _ _ h => h) (Or.inl ⟨by rfl, ?hy5yx4u16⟩) (by with_reducible assumption) ?rest5yx4u16
                case hy5yx4u16 => (intro wS hSw; (try dsimp only at hSw); have z0 := cell_later hSw k0; have z1 := cell_later hSw k1; have z2 := cell_later hSw k2; have z3 := cell_later hSw k3; have z4 := cell_later hSw k4; have z5 := cell_later hSw k5; clear hSw; go_simp; try with_reducible rfl)
                case' rest5yx4u16 => (try simp only [Act.put, List.setIfInBounds_toArray, List.set_cons_zero, List.set_cons_succ])
                refine wpAnyH_ready (rs := [2]) (by kernel_rfl) (by simp) ?_
                refine AllReadyH.cons (o := { dst := some 54, op := Op.call { callee := Callee.value (Operand.func 67), args := #[Operand.tmp 52, Operand.tmp 53], argTypes := #[30, 30] }, type := 4, pos := "l9_layers.go:132", after := #[{ on := 0, ground := Ground.data }, { on := 1, ground := Ground.data }], guard := none }) rfl (fun K hK => ?_) AllReadyH.nil
                go_simp
                refine (lessImpl_c _ _ _ _ _).mono ?_
                rintro e u2 ⟨rfl, hbc2⟩
                go_wp2_with fail
                refine hK.out _ _ ?_ (fun hHeld => ?_)
                · exact grew (by with_reducible assumption) hbc2
                clear hK K
                try simp only [Act.put, List.setIfInBounds_toArray, List.set_cons_zero, List.set_cons_succ]
                refine wpAnyH_ready (rs := [5]) (by kernel_rfl) (by simp) ?_
                refine AllReadyH.cons (o := { dst := some 57, op := Op.call { callee := Callee.value (Operand.func 67), args := #[Operand.tmp 55, Operand.tmp 56], argTypes := #[30, 30] }, type := 4, pos := "l9_layers.go:132", after := #[{ on := 3, ground := Ground.data }, { on := 4, ground := Ground.data }, { on := 2, ground := Ground.chain }], guard := none }) rfl (fun K hK => ?_) AllReadyH.nil
                go_simp
                refine (lessImpl_c _ _ _ _ _).mono ?_
                rintro e u5 ⟨rfl, hbc5⟩
                go_wp2_with fail
                refine hK.out _ _ ?_ (fun hHeld => ?_)
                · exact grew (by with_reducible assumption) hbc5
                clear hK K
                try simp only [Act.put, List.setIfInBounds_toArray, List.set_cons_zero, List.set_cons_succ]
                refine wpAnyH_take (i := 6) (oi := { dst := some 58, op := Op.binOp BinOp.eql 4 (Operand.tmp 54) (Operand.tmp 57) 4, type := 4, pos := "l9_layers.go:132", after := #[{ on := 2, ground := Ground.data }, { on := 5, ground := Ground.data }], guard := none }) (v := ?v6yx6u17) rfl (by kernel_rfl) (by kernel_rfl) (by kernel_rfl) (fun _ _ _ h => h) (Or.inl ⟨by rfl, ?hy6yx6u17⟩) (by with_reducible assumption) ?rest6yx6u17
                case hy6yx6u17 => (intro wS hSw; (try dsimp only at hSw); have z0 := cell_later hSw k0; have z1 := cell_later hSw k1; have z2 := cell_later hSw k2; have z3 := cell_later hSw k3; have z4 := cell_later hSw k4; have z5 := cell_later hSw k5; clear hSw; go_simp; try with_reducible rfl)
                case' rest6yx6u17 => (try simp only [Act.put, List.setIfInBounds_toArray, List.set_cons_zero, List.set_cons_succ])
                refine wpAnyH_take (i := 7) (oi := { dst := some 51, op := Op.assign (Operand.tmp 58), type := 4, pos := "l9_layers.go:132", after := #[{ on := 6, ground := Ground.data }, { on := 5, ground := Ground.chain }], guard := none }) (v := ?v7yx7u18) rfl (by kernel_rfl) (by kernel_rfl) (by kernel_rfl) (fun _ _ _ h => h) (Or.inl ⟨by rfl, ?hy7yx7u18⟩) (by with_reducible assumption) ?rest7yx7u18
                case hy7yx7u18 => (intro wS hSw; (try dsimp only at hSw); have z0 := cell_later hSw k0; have z1 := cell_later hSw k1; have z2 := cell_later hSw k2; have z3 := cell_later hSw k3; have z4 := cell_later hSw k4; have z5 := cell_later hSw k5; clear hSw; go_simp; try with_reducible rfl)
                case' rest7yx7u18 => (try simp only [Act.put, List.setIfInBounds_toArray, List.set_cons_zero, List.set_cons_succ])
                refine wpAnyH_done (by kernel_rfl) ?_ _
                have hbS : Below w1.heap.size w1 _ := (by with_reducible assumption)
                obtain ⟨g10, g11, g12, g13, g14⟩ := (VV.out.later hbS VV.out.lt).cells
                obtain ⟨f20, f21, f22, f23, f24⟩ := (VV.out.later hbS VV.out.lt).free
                have hszS := hbS.size
                go_wp2
                go_roundw
                case rel =>
                  have ec := CLS.out
                  have hst : ∀ (u : World) (x : Value), u.heap.size = u.heap.size := fun _ _ => rfl
                  refine ⟨k + 1, by omega, by go_num, ?_, ?_, ?_, ?_, ?_, ?_, ?_⟩
                  · exact (cell_set_other (by omega)).trans (cell_later hbS k0)
                  · exact (cell_set_other (by omega)).trans (cell_later hbS k1)
                  · exact (cell_set_other (by omega)).trans (cell_later hbS k2)
                  · exact (cell_set_other (by omega)).trans (cell_later hbS k3)
                  · have := VB.set4 (x := (n4 : Int) + 1) (VV.out.later hbS VV.out.lt)
                    rw [cnt_no (q := (ux, q1)) (p := (p0, p1)) (c := 4) (d := 0) hkl (by rw [HXY.out]; exact ec) (by omega), cnt_no (q := (ux, q1)) (p := (p0, p1)) (c := 4) (d := 1) hkl (by rw [HXY.out]; exact ec) (by omega), cnt_no (q := (ux, q1)) (p := (p0, p1)) (c := 4) (d := 2) hkl (by rw [HXY.out]; exact ec) (by omega), cnt_no (q := (ux, q1)) (p := (p0, p1)) (c := 4) (d := 3) hkl (by rw [HXY.out]; exact ec) (by omega), cnt_yes (q := (ux, q1)) (p := (p0, p1)) (c := 4) hkl (by rw [HXY.out]; exact ec), HN0.out, HN1.out, HN2.out, HN3.out, HN4.out]
                    rw [show (((n4 + 1 : Nat)) : Int) = (n4 : Int) + 1 from by omega]
                    exact this
                  · exact VB.other (ZZ.out.later hbS ZZ.out.lt) (by omega)
                  · exact below_set (grew HB1.out hbS) (by omega)
                case measure => simp [intOf]; omega
              · have CLS := hid (show clsN (ux, q1) (p0, p1) (ux, uy) = 3 by rw [CL4.out, hL1, hL2]; rfl)
                go_upto_region 13 with (first | (go_at_call 66; refine (sideOfImpl_c _ _ _ _ _ _ _ (cell_later HBX.out C0.out)).mono ?_; rw [hsn]; rintro e w1 ⟨rfl, hb⟩; have k0 := cell_later hb R0.out; have k1 := cell_later hb R1.out; have k2 := cell_later hb R2.out; have k3 := cell_later hb R3.out; have k4 := cell_later hb K0.out; have k5 := cell_later hb K1.out; have HB1 := hid (grew HBX.out hb); have v1 := VX.out.later hb VX.out.lt; have z1 := ZX.out.later hb ZX.out.lt; have hlt := v1.lt; obtain ⟨v10, v11, v12, v13, v14⟩ := v1.cells; obtain ⟨f10, f11, f12, f13, f14⟩ := v1.free; have VV := hid v1; have ZZ := hid z1; clear v1 z1 hb r0 r1 r2 r3 q0' q1'))
                refine wp_region_held_drew (S := (fun u => Below w1.heap.size w1 u)) (by kernel_rfl) ?_ (fun hHeld => ?_)
                · exact (Below.refl _ _).drew
                refine wpAnyH_take (i := 0) (oi := { dst := some 52, op := Op.load 30 (Operand.tmp 4), type := 30, pos := "l9_layers.go:132", after := #[], guard := none }) (v := ?v2yx0u19) rfl (by kernel_rfl) (by kernel_rfl) (by kernel_rfl) (fun _ _ _ h => h) (Or.inl ⟨by rfl, ?hy2yx0u19⟩) (by with_reducible assumption) ?rest2yx0u19
                case hy2yx0u19 => (intro wS hSw; (try dsimp only at hSw); have z0 := cell_later hSw k0; have z1 := cell_later hSw k1; have z2 := cell_later hSw k2; have z3 := cell_later hSw k3; have z4 := cell_later hSw k4; have z5 := cell_later hSw k5; clear hSw; go_simp; try with_reducible rfl)
                case' rest2yx0u19 => (try simp only [Act.put, List.setIfInBounds_toArray, List.set_cons_zero, List.set_cons_succ])
                refine wpAnyH_take (i := 1) (oi := { dst := some 53, op := Op.load 30 (Operand.tmp 9), type := 30, pos := "l9_layers.go:132", after := #[], guard := none }) (v := ?v3yx1u20) rfl (by kernel_rfl) (by kernel_rfl) (by kernel_rfl) (fun _ _ _ h => h) (Or.inl ⟨by rfl, ?hy3yx1u20⟩) (by with_reducible assumption) ?rest3yx1u20
                case hy3yx1u20 => (intro wS hSw; (try dsimp only at hSw); have z0 := cell_later hSw k0; have z1 := cell_later hSw k1; have z2 := cell_later hSw k2; have z3 := cell_later hSw k3; have z4 := cell_later hSw k4; have z5 := cell_later hSw k5; clear hSw; go_simp; try with_reducible rfl)
                case' rest3yx1u20 => (try simp only [Act.put, List.setIfInBounds_toArray, List.set_cons_zero, List.set_cons_succ])
                refine wpAnyH_take (i := 3) (oi := { dst := some 55, op := Op.load 30 (Operand.tmp 4), type := 30, pos := "l9_layers.go:132", after := #[], guard := none }) (v := ?v4yx3u21) rfl (by kernel_rfl) (by kernel_rfl) (by kernel_rfl) (fun _ _ _ h => h) (Or.inl ⟨by rfl, ?hy4yx3u21⟩) (by with_reducible assumption) ?rest4yx3u21
                case hy4yx3u21 => (intro wS hSw; (try dsimp only at hSw); have z0 := cell_later hSw k0; have z1 := cell_later hSw k1; have z2 := cell_later hSw k2; have z3 := cell_later hSw k3; have z4 := cell_later hSw k4; have z5 := cell_later hSw k5; clear hSw; go_simp; try with_reducible rfl)
                case' rest4yx3u21 => (try simp only [Act.put, List.setIfInBounds_toArray, List.set_cons_zero, List.set_cons_succ])
                refine wpAnyH_take (i := 4) (oi := { dst := some 56, op := Op.load 30 (Operand.tmp 5), type := 30, pos := "l9_layers.go:132", after := #[], guard := none }) (v := ?v5yx4u22) rfl (by kernel_rfl) (by kernel_rfl) (by kernel_rfl) (fun _ _ _ h => h) (Or.inl ⟨by rfl, ?hy5yx4u22⟩) (by with_reducible assumption) ?rest5yx4u22
                case hy5yx4u22 => (intro wS hSw; (try dsimp only at hSw); have z0 := cell_later hSw k0; have z1 := cell_later hSw k1; have z2 := cell_later hSw k2; have z3 := cell_later hSw k3; have z4 := cell_later hSw k4; have z5 := cell_later hSw k5; clear hSw; go_simp; try with_reducible rfl)
                case' rest5yx4u22 => (try simp only [Act.put, List.setIfInBounds_toArray, List.set_cons_zero, List.set_cons_succ])
                refine wpAnyH_ready (rs := [2]) (by kernel_rfl) (by simp) ?_
                refine AllReadyH.cons (o := { dst := some 54, op := Op.call { callee := Callee.value (Operand.func 67), args := #[Operand.tmp 52, Operand.tmp 53], argTypes := #[30, 30] }, type := 4, pos := "l9_layers.go:132", after := #[{ on := 0, ground := Ground.data }, { on := 1, ground := Ground.data }], guard := none }) rfl (fun K hK => ?_) AllReadyH.nil
                go_simp
                refine (lessImpl_c _ _ _ _ _).mono ?_
                rintro e u2 ⟨rfl, hbc2⟩
                go_wp2_with fail
                refine hK.out _ _ ?_ (fun hHeld => ?_)
                · exact grew (by with_reducible assumption) hbc2
                clear hK K
                try simp only [Act.put, List.setIfInBounds_toArray, List.set_cons_zero, List.set_cons_succ]
                refine wpAnyH_ready (rs := [5]) (by kernel_rfl) (by simp) ?_
                refine AllReadyH.cons (o := { dst := some 57, op := Op.call { callee := Callee.value (Operand.func 67), args := #[Operand.tmp 55, Operand.tmp 56], argTypes := #[30, 30] }, type := 4, pos := "l9_layers.go:132", after := #[{ on := 3, ground := Ground.data }, { on := 4, ground := Ground.data }, { on := 2, ground := Ground.chain }], guard := none }) rfl (fun K hK => ?_) AllReadyH.nil
                go_simp
                refine (lessImpl_c _ _ _ _ _).mono ?_
                rintro e u5 ⟨rfl, hbc5⟩
                go_wp2_with fail
                refine hK.out _ _ ?_ (fun hHeld => ?_)
                · exact grew (by with_reducible assumption) hbc5
                clear hK K
                try simp only [Act.put, List.setIfInBounds_toArray, List.set_cons_zero, List.set_cons_succ]
                refine wpAnyH_take (i := 6) (oi := { dst := some 58, op := Op.binOp BinOp.eql 4 (Operand.tmp 54) (Operand.tmp 57) 4, type := 4, pos := "l9_layers.go:132", after := #[{ on := 2, ground := Ground.data }, { on := 5, ground := Ground.data }], guard := none }) (v := ?v6yx6u23) rfl (by kernel_rfl) (by kernel_rfl) (by kernel_rfl) (fun _ _ _ h => h) (Or.inl ⟨by rfl, ?hy6yx6u23⟩) (by with_reducible assumption) ?rest6yx6u23
                case hy6yx6u23 => (intro wS hSw; (try dsimp only at hSw); have z0 := cell_later hSw k0; have z1 := cell_later hSw k1; have z2 := cell_later hSw k2; have z3 := cell_later hSw k3; have z4 := cell_later hSw k4; have z5 := cell_later hSw k5; clear hSw; go_simp; try with_reducible rfl)
                case' rest6yx6u23 => (try simp only [Act.put, List.setIfInBounds_toArray, List.set_cons_zero, List.set_cons_succ])
                refine wpAnyH_take (i := 7) (oi := { dst := some 51, op := Op.assign (Operand.tmp 58), type := 4, pos := "l9_layers.go:132", after := #[{ on := 6, ground := Ground.data }, { on := 5, ground := Ground.chain }], guard := none }) (v := ?v7yx7u24) rfl (by kernel_rfl) (by kernel_rfl) (by kernel_rfl) (fun _ _ _ h => h) (Or.inl ⟨by rfl, ?hy7yx7u24⟩) (by with_reducible assumption) ?rest7yx7u24
                case hy7yx7u24 => (intro wS hSw; (try dsimp only at hSw); have z0 := cell_later hSw k0; have z1 := cell_later hSw k1; have z2 := cell_later hSw k2; have z3 := cell_later hSw k3; have z4 := cell_later hSw k4; have z5 := cell_later hSw k5; clear hSw; go_simp; try with_reducible rfl)
                case' rest7yx7u24 => (try simp only [Act.put, List.setIfInBounds_toArray, List.set_cons_zero, List.set_cons_succ])
                refine wpAnyH_done (by kernel_rfl) ?_ _
                have hbS : Below w1.heap.size w1 _ := (by with_reducible assumption)
                obtain ⟨g10, g11, g12, g13, g14⟩ := (VV.out.later hbS VV.out.lt).cells
                obtain ⟨f20, f21, f22, f23, f24⟩ := (VV.out.later hbS VV.out.lt).free
                have hszS := hbS.size
                go_wp2
                go_roundw
                case rel =>
                  have ec := CLS.out
                  have hst : ∀ (u : World) (x : Value), u.heap.size = u.heap.size := fun _ _ => rfl
                  refine ⟨k + 1, by omega, by go_num, ?_, ?_, ?_, ?_, ?_, ?_, ?_⟩
                  · exact (cell_set_other (by omega)).trans (cell_later hbS k0)
                  · exact (cell_set_other (by omega)).trans (cell_later hbS k1)
                  · exact (cell_set_other (by omega)).trans (cell_later hbS k2)
                  · exact (cell_set_other (by omega)).trans (cell_later hbS k3)
                  · have := VB.set3 (x := (n3 : Int) + 1) (VV.out.later hbS VV.out.lt)
                    rw [cnt_no (q := (ux, q1)) (p := (p0, p1)) (c := 3) (d := 0) hkl (by rw [HXY.out]; exact ec) (by omega), cnt_no (q := (ux, q1)) (p := (p0, p1)) (c := 3) (d := 1) hkl (by rw [HXY.out]; exact ec) (by omega), cnt_no (q := (ux, q1)) (p := (p0, p1)) (c := 3) (d := 2) hkl (by rw [HXY.out]; exact ec) (by omega), cnt_yes (q := (ux, q1)) (p := (p0, p1)) (c := 3) hkl (by rw [HXY.out]; exact ec), cnt_no (q := (ux, q1)) (p := (p0, p1)) (c := 3) (d := 4) hkl (by rw [HXY.out]; exact ec) (by omega), HN0.out, HN1.out, HN2.out, HN3.out, HN4.out]
                    rw [show (((n3 + 1 : Nat)) : Int) = (n3 : Int) + 1 from by omega]
                    exact this
                  · exact VB.other (ZZ.out.later hbS ZZ.out.lt) (by omega)
                  · exact below_set (grew HB1.out hbS) (by omega)
                case measure => simp [intOf]; omega
      · have ex2 : (ux == q0) = false := by simpa using ex
        have NE := hid (show ¬ (ux, uy) = (q0, q1) from fun e => ex (congrArg Prod.fst e))
        clear ex
        by_cases h1s : sn = 1
        · subst h1s
          have CLS := hid (show clsN (q0, q1) (p0, p1) (ux, uy) = 1 by unfold clsN; rw [if_neg NE.out, if_pos HSN.out])
          go_wp2_with (first | (go_at_call 66; refine (sideOfImpl_c _ _ _ _ _ _ _ (cell_later HBX.out C0.out)).mono ?_; rw [hsn]; rintro e w1 ⟨rfl, hb⟩; have k0 := cell_later hb R0.out; have k1 := cell_later hb R1.out; have k2 := cell_later hb R2.out; have k3 := cell_later hb R3.out; have k4 := cell_later hb K0.out; have k5 := cell_later hb K1.out; have HB1 := hid (grew HBX.out hb); have v1 := VX.out.later hb VX.out.lt; have z1 := ZX.out.later hb ZX.out.lt; have hlt := v1.lt; obtain ⟨v10, v11, v12, v13, v14⟩ := v1.cells; obtain ⟨f10, f11, f12, f13, f14⟩ := v1.free; have VV := hid v1; have ZZ := hid z1; clear v1 z1 hb r0 r1 r2 r3 q0' q1'))
          go_roundw
          case rel =>
            have ec := CLS.out
            have hst : ∀ (u : World) (x : Value), u.heap.size = u.heap.size := fun _ _ => rfl
            refine ⟨k + 1, by omega, by go_num, ?_, ?_, ?_, ?_, ?_, ?_, ?_⟩
            · exact (cell_set_other (by omega)).trans k0
            · exact (cell_set_other (by omega)).trans k1
            · exact (cell_set_other (by omega)).trans k2
            · exact (cell_set_other (by omega)).trans k3
            · have := VB.set1 (x := (n1 : Int) + 1) VV.out
              rw [cnt_no (q := (q0, q1)) (p := (p0, p1)) (c := 1) (d := 0) hkl (by rw [HXY.out]; exact ec) (by omega), cnt_yes (q := (q0, q1)) (p := (p0, p1)) (c := 1) hkl (by rw [HXY.out]; exact ec), cnt_no (q := (q0, q1)) (p := (p0, p1)) (c := 1) (d := 2) hkl (by rw [HXY.out]; exact ec) (by omega), cnt_no (q := (q0, q1)) (p := (p0, p1)) (c := 1) (d := 3) hkl (by rw [HXY.out]; exact ec) (by omega), cnt_no (q := (q0, q1)) (p := (p0, p1)) (c := 1) (d := 4) hkl (by rw [HXY.out]; exact ec) (by omega), HN0.out, HN1.out, HN2.out, HN3.out, HN4.out]
              rw [show (((n1 + 1 : Nat)) : Int) = (n1 : Int) + 1 from by omega]
              exact this
            · exact VB.other ZZ.out (by omega)
            · exact below_set (HB1.out) (by omega)
          case measure => simp [intOf]; omega
        · by_cases h2s : sn = -1
          · subst h2s
            have CLS := hid (show clsN (q0, q1) (p0, p1) (ux, uy) = 2 by unfold clsN; rw [if_neg NE.out, HSN.out]; simp)
            go_wp2_with (first | (go_at_call 66; refine (sideOfImpl_c _ _ _ _ _ _ _ (cell_later HBX.out C0.out)).mono ?_; rw [hsn]; rintro e w1 ⟨rfl, hb⟩; have k0 := cell_later hb R0.out; have k1 := cell_later hb R1.out; have k2 := cell_later hb R2.out; have k3 := cell_later hb R3.out; have k4 := cell_later hb K0.out; have k5 := cell_later hb K1.out; have HB1 := hid (grew HBX.out hb); have v1 := VX.out.later hb VX.out.lt; have z1 := ZX.out.later hb ZX.out.lt; have hlt := v1.lt; obtain ⟨v10, v11, v12, v13, v14⟩ := v1.cells; obtain ⟨f10, f11, f12, f13, f14⟩ := v1.free; have VV := hid v1; have ZZ := hid z1; clear v1 z1 hb r0 r1 r2 r3 q0' q1'))
            go_roundw
            case rel =>
              have ec := CLS.out
              have hst : ∀ (u : World) (x : Value), u.heap.size = u.heap.size := fun _ _ => rfl
              refine ⟨k + 1, by omega, by go_num, ?_, ?_, ?_, ?_, ?_, ?_, ?_⟩
              · exact (cell_set_other (by omega)).trans k0
              · exact (cell_set_other (by omega)).trans k1
              · exact (cell_set_other (by omega)).trans k2
              · exact (cell_set_other (by omega)).trans k3
              · have := VB.set2 (x := (n2 : Int) + 1) VV.out
                rw [cnt_no (q := (q0, q1)) (p := (p0, p1)) (c := 2) (d := 0) hkl (by rw [HXY.out]; exact ec) (by omega), cnt_no (q := (q0, q1)) (p := (p0, p1)) (c := 2) (d := 1) hkl (by rw [HXY.out]; exact ec) (by omega), cnt_yes (q := (q0, q1)) (p := (p0, p1)) (c := 2) hkl (by rw [HXY.out]; exact ec), cnt_no (q := (q0, q1)) (p := (p0, p1)) (c := 2) (d := 3) hkl (by rw [HXY.out]; exact ec) (by omega), cnt_no (q := (q0, q1)) (p := (p0, p1)) (c := 2) (d := 4) hkl (by rw [HXY.out]; exact ec) (by omega), HN0.out, HN1.out, HN2.out, HN3.out, HN4.out]
                rw [show (((n2 + 1 : Nat)) : Int) = (n2 : Int) + 1 from by omega]
                exact this
              · exact VB.other ZZ.out (by omega)
              · exact below_set (HB1.out) (by omega)
            case measure => simp [intOf]; omega
          · have CL4 := hid (show clsN (q0, q1) (p0, p1) (ux, uy) = if lessB q0 q1 ux uy = lessB q0 q1 p0 p1 then 3 else 4 by unfold clsN; rw [if_neg NE.out, HSN.out, if_neg h1s, if_neg h2s])
            cases hL1 : lessB q0 q1 ux uy
            all_goals cases hL2 : lessB q0 q1 p0 p1
            · have CLS := hid (show clsN (q0, q1) (p0, p1) (ux, uy) = 3 by rw [CL4.out, hL1, hL2]; rfl)
              go_upto_region 13 with (first | (go_at_call 66; refine (sideOfImpl_c _ _ _ _ _ _ _ (cell_later HBX.out C0.out)).mono ?_; rw [hsn]; rintro e w1 ⟨rfl, hb⟩; have k0 := cell_later hb R0.out; have k1 := cell_later hb R1.out; have k2 := cell_later hb R2.out; have k3 := cell_later hb R3.out; have k4 := cell_later hb K0.out; have k5 := cell_later hb K1.out; have HB1 := hid (grew HBX.out hb); have v1 := VX.out.later hb VX.out.lt; have z1 := ZX.out.later hb ZX.out.lt; have hlt := v1.lt; obtain ⟨v10, v11, v12, v13, v14⟩ := v1.cells; obtain ⟨f10, f11, f12, f13, f14⟩ := v1.free; have VV := hid v1; have ZZ := hid z1; clear v1 z1 hb r0 r1 r2 r3 q0' q1'))
              refine wp_region_held_drew (S := (fun u => Below w1.heap.size w1 u)) (by kernel_rfl) ?_ (fun hHeld => ?_)
              · exact (Below.refl _ _).drew
              refine wpAnyH_take (i := 0) (oi := { dst := some 52, op := Op.load 30 (Operand.tmp 4), type := 30, pos := "l9_layers.go:132", after := #[], guard := none }) (v := ?v2yx0u25) rfl (by kernel_rfl) (by kernel_rfl) (by kernel_rfl) (fun _ _ _ h => h) (Or.inl ⟨by rfl, ?hy2yx0u25⟩) (by with_reducible assumption) ?rest2yx0u25
              case hy2yx0u25 => (intro wS hSw; (try dsimp only at hSw); have z0 := cell_later hSw k0; have z1 := cell_later hSw k1; have z2 := cell_later hSw k2; have z3 := cell_later hSw k3; have z4 := cell_later hSw k4; have z5 := cell_later hSw k5; clear hSw; go_simp; try with_reducible rfl)
              case' rest2yx0u25 => (try simp only [Act.put, List.setIfInBounds_toArray, List.set_cons_zero, List.set_cons_succ])
              refine wpAnyH_take (i := 1) (oi := { dst := some 53, op := Op.load 30 (Operand.tmp 9), type := 30, pos := "l9_layers.go:132", after := #[], guard := none }) (v := ?v3yx1u26) rfl (by kernel_rfl) (by kernel_rfl) (by kernel_rfl) (fun _ _ _ h => h) (Or.inl ⟨by rfl, ?hy3yx1u26⟩) (by with_reducible assumption) ?rest3yx1u26
              case hy3yx1u26 => (intro wS hSw; (try dsimp only at hSw); have z0 := cell_later hSw k0; have z1 := cell_later hSw k1; have z2 := cell_later hSw k2; have z3 := cell_later hSw k3; have z4 := cell_later hSw k4; have z5 := cell_later hSw k5; clear hSw; go_simp; try with_reducible rfl)
              case' rest3yx1u26 => (try simp only [Act.put, List.setIfInBounds_toArray, List.set_cons_zero, List.set_cons_succ])
              refine wpAnyH_take (i := 3) (oi := { dst := some 55, op := Op.load 30 (Operand.tmp 4), type := 30, pos := "l9_layers.go:132", after := #[], guard := none }) (v := ?v4yx3u27) rfl (by kernel_rfl) (by kernel_rfl) (by kernel_rfl) (fun _ _ _ h => h) (Or.inl ⟨by rfl, ?hy4yx3u27⟩) (by with_reducible assumption) ?rest4yx3u27
              case hy4yx3u27 => (intro wS hSw; (try dsimp only at hSw); have z0 := cell_later hSw k0; have z1 := cell_later hSw k1; have z2 := cell_later hSw k2; have z3 := cell_later hSw k3; have z4 := cell_later hSw k4; have z5 := cell_later hSw k5; clear hSw; go_simp; try with_reducible rfl)
              case' rest4yx3u27 => (try simp only [Act.put, List.setIfInBounds_toArray, List.set_cons_zero, List.set_cons_succ])
              refine wpAnyH_take (i := 4) (oi := { dst := some 56, op := Op.load 30 (Operand.tmp 5), type := 30, pos := "l9_layers.go:132", after := #[], guard := none }) (v := ?v5yx4u28) rfl (by kernel_rfl) (by kernel_rfl) (by kernel_rfl) (fun _ _ _ h => h) (Or.inl ⟨by rfl, ?hy5yx4u28⟩) (by with_reducible assumption) ?rest5yx4u28
              case hy5yx4u28 => (intro wS hSw; (try dsimp only at hSw); have z0 := cell_later hSw k0; have z1 := cell_later hSw k1; have z2 := cell_later hSw k2; have z3 := cell_later hSw k3; have z4 := cell_later hSw k4; have z5 := cell_later hSw k5; clear hSw; go_simp; try with_reducible rfl)
              case' rest5yx4u28 => (try simp only [Act.put, List.setIfInBounds_toArray, List.set_cons_zero, List.set_cons_succ])
              refine wpAnyH_ready (rs := [2]) (by kernel_rfl) (by simp) ?_
              refine AllReadyH.cons (o := { dst := some 54, op := Op.call { callee := Callee.value (Operand.func 67), args := #[Operand.tmp 52, Operand.tmp 53], argTypes := #[30, 30] }, type := 4, pos := "l9_layers.go:132", after := #[{ on := 0, ground := Ground.data }, { on := 1, ground := Ground.data }], guard := none }) rfl (fun K hK => ?_) AllReadyH.nil
              go_simp
              refine (lessImpl_c _ _ _ _ _).mono ?_
              rintro e u2 ⟨rfl, hbc2⟩
              go_wp2_with fail
              refine hK.out _ _ ?_ (fun hHeld => ?_)
              · exact grew (by with_reducible assumption) hbc2
              clear hK K
              try simp only [Act.put, List.setIfInBounds_toArray, List.set_cons_zero, List.set_cons_succ]
              refine wpAnyH_ready (rs := [5]) (by kernel_rfl) (by simp) ?_
              refine AllReadyH.cons (o := { dst := some 57, op := Op.call { callee := Callee.value (Operand.func 67), args := #[Operand.tmp 55, Operand.tmp 56], argTypes := #[30, 30] }, type := 4, pos := "l9_layers.go:132", after := #[{ on := 3, ground := Ground.data }, { on := 4, ground := Ground.data }, { on := 2, ground := Ground.chain }], guard := none }) rfl (fun K hK => ?_) AllReadyH.nil
              go_simp
              refine (lessImpl_c _ _ _ _ _).mono ?_
              rintro e u5 ⟨rfl, hbc5⟩
              go_wp2_with fail
              refine hK.out _ _ ?_ (fun hHeld => ?_)
              · exact grew (by with_reducible assumption) hbc5
              clear hK K
              try simp only [Act.put, List.setIfInBounds_toArray, List.set_cons_zero, List.set_cons_succ]
              refine wpAnyH_take (i := 6) (oi := { dst := some 58, op := Op.binOp BinOp.eql 4 (Operand.tmp 54) (Operand.tmp 57) 4, type := 4, pos := "l9_layers.go:132", after := #[{ on := 2, ground := Ground.data }, { on := 5, ground := Ground.data }], guard := none }) (v := ?v6yx6u29) rfl (by kernel_rfl) (by kernel_rfl) (by kernel_rfl) (fun _ _ _ h => h) (Or.inl ⟨by rfl, ?hy6yx6u29⟩) (by with_reducible assumption) ?rest6yx6u29
              case hy6yx6u29 => (intro wS hSw; (try dsimp only at hSw); have z0 := cell_later hSw k0; have z1 := cell_later hSw k1; have z2 := cell_later hSw k2; have z3 := cell_later hSw k3; have z4 := cell_later hSw k4; have z5 := cell_later hSw k5; clear hSw; go_simp; try with_reducible rfl)
              case' rest6yx6u29 => (try simp only [Act.put, List.setIfInBounds_toArray, List.set_cons_zero, List.set_cons_succ])
              refine wpAnyH_take (i := 7) (oi := { dst := some 51, op := Op.assign (Operand.tmp 58), type := 4, pos := "l9_layers.go:132", after := #[{ on := 6, ground := Ground.data }, { on := 5, ground := Ground.chain }], guard := none }) (v := ?v7yx7u30) rfl (by kernel_rfl) (by kernel_rfl) (by kernel_rfl) (fun _ _ _ h => h) (Or.inl ⟨by rfl, ?hy7yx7u30⟩) (by with_reducible assumption) ?rest7yx7u30
              case hy7yx7u30 => (intro wS hSw; (try dsimp only at hSw); have z0 := cell_later hSw k0; have z1 := cell_later hSw k1; have z2 := cell_later hSw k2; have z3 := cell_later hSw k3; have z4 := cell_later hSw k4; have z5 := cell_later hSw k5; clear hSw; go_simp; try with_reducible rfl)
              case' rest7yx7u30 => (try simp only [Act.put, List.setIfInBounds_toArray, List.set_cons_zero, List.set_cons_succ])
              refine wpAnyH_done (by kernel_rfl) ?_ _
              have hbS : Below w1.heap.size w1 _ := (by with_reducible assumption)
              obtain ⟨g10, g11, g12, g13, g14⟩ := (VV.out.later hbS VV.out.lt).cells
              obtain ⟨f20, f21, f22, f23, f24⟩ := (VV.out.later hbS VV.out.lt).free
              have hszS := hbS.size
              go_wp2
              go_roundw
              case rel =>
                have ec := CLS.out
                have hst : ∀ (u : World) (x : Value), u.heap.size = u.heap.size := fun _ _ => rfl
                refine ⟨k + 1, by omega, by go_num, ?_, ?_, ?_, ?_, ?_, ?_, ?_⟩
                · exact (cell_set_other (by omega)).trans (cell_later hbS k0)
                · exact (cell_set_other (by omega)).trans (cell_later hbS k1)
                · exact (cell_set_other (by omega)).trans (cell_later hbS k2)
                · exact (cell_set_other (by omega)).trans (cell_later hbS k3)
                · have := VB.set3 (x := (n3 : Int) + 1) (VV.out.later hbS VV.out.lt)
                  rw [cnt_no (q := (q0, q1)) (p := (p0, p1)) (c := 3) (d := 0) hkl (by rw [HXY.out]; exact ec) (by omega), cnt_no (q := (q0, q1)) (p := (p0, p1)) (c := 3) (d := 1) hkl (by rw [HXY.out]; exact ec) (by omega), cnt_no (q := (q0, q1)) (p := (p0, p1)) (c := 3) (d := 2) hkl (by rw [HXY.out]; exact ec) (by omega), cnt_yes (q := (q0, q1)) (p := (p0, p1)) (c := 3) hkl (by rw [HXY.out]; exact ec), cnt_no (q := (q0, q1)) (p := (p0, p1)) (c := 3) (d := 4) hkl (by rw [HXY.out]; exact ec) (by omega), HN0.out, HN1.out, HN2.out, HN3.out, HN4.out]
                  rw [show (((n3 + 1 : Nat)) : Int) = (n3 : Int) + 1 from by omega]
                  exact this
                · exact VB.other (ZZ.out.later hbS ZZ.out.lt) (by omega)
                · exact below_set (grew HB1.out hbS) (by omega)
              case measure => simp [intOf]; omega
            · have CLS := hid (show clsN (q0, q1) (p0, p1) (ux, uy) = 4 by rw [CL4.out, hL1, hL2]; rfl)
              go_upto_region 13 with (first | (go_at_call 66; refine (sideOfImpl_c _ _ _ _ _ _ _ (cell_later HBX.out C0.out)).mono ?_; rw [hsn]; rintro e w1 ⟨rfl, hb⟩; have k0 := cell_later hb R0.out; have k1 := cell_later hb R1.out; have k2 := cell_later hb R2.out; have k3 := cell_later hb R3.out; have k4 := cell_later hb K0.out; have k5 := cell_later hb K1.out; have HB1 := hid (grew HBX.out hb); have v1 := VX.out.later hb VX.out.lt; have z1 := ZX.out.later hb ZX.out.lt; have hlt := v1.lt; obtain ⟨v10, v11, v12, v13, v14⟩ := v1.cells; obtain ⟨f10, f11, f12, f13, f14⟩ := v1.free; have VV := hid v1; have ZZ := hid z1; clear v1 z1 hb r0 r1 r2 r3 q0' q1'))
              refine wp_region_held_drew (S := (fun u => Below w1.heap.size w1 u)) (by kernel_rfl) ?_ (fun hHeld => ?_)
              · exact (Below.refl _ _).drew
              refine wpAnyH_take (i := 0) (oi := { dst := some 52, op := Op.load 30 (Operand.tmp 4), type := 30, pos := "l9_layers.go:132", after := #[], guard := none }) (v := ?v2yx0u31) rfl (by kernel_rfl) (by kernel_rfl) (by kernel_rfl) (fun _ _ _ h => h) (Or.inl ⟨by rfl, ?hy2yx0u31⟩) (by with_reducible assumption) ?rest2yx0u31
              case hy2yx0u31 => (intro wS hSw; (try dsimp only at hSw); have z0 := cell_later hSw k0; have z1 := cell_later hSw k1; have z2 := cell_later hSw k2; have z3 := cell_later hSw k3; have z4 := cell_later hSw k4; have z5 := cell_later hSw k5; clear hSw; go_simp; try with_reducible rfl)
              case' rest2yx0u31 => (try simp only [Act.put, List.setIfInBounds_toArray, List.set_cons_zero, List.set_cons_succ])
              refine wpAnyH_take (i := 1) (oi := { dst := some 53, op := Op.load 30 (Operand.tmp 9), type := 30, pos := "l9_layers.go:132", after := #[], guard := none }) (v := ?v3yx1u32) rfl (by kernel_rfl) (by kernel_rfl) (by kernel_rfl) (fun _ _ _ h => h) (Or.inl ⟨by rfl, ?hy3yx1u32⟩) (by with_reducible assumption) ?rest3yx1u32
              case hy3yx1u32 => (intro wS hSw; (try dsimp only at hSw); have z0 := cell_later hSw k0; have z1 := cell_later hSw k1; have z2 := cell_later hSw k2; have z3 := cell_later hSw k3; have z4 := cell_later hSw k4; have z5 := cell_later hSw k5; clear hSw; go_simp; try with_reducible rfl)
              case' rest3yx1u32 => (try simp only [Act.put, List.setIfInBounds_toArray, List.set_cons_zero, List.set_cons_succ])
              refine wpAnyH_take (i := 3) (oi := { dst := some 55, op := Op.load 30 (Operand.tmp 4), type := 30, pos := "l9_layers.go:132", after := #[], guard := none }) (v := ?v4yx3u33) rfl (by kernel_rfl) (by kernel_rfl) (by kernel_rfl) (fun _ _ _ h => h) (Or.inl ⟨by rfl, ?hy4yx3u33⟩) (by with_reducible assumption) ?rest4yx3u33
              case hy4yx3u33 => (intro wS hSw; (try dsimp only at hSw); have z0 := cell_later hSw k0; have z1 := cell_later hSw k1; have z2 := cell_later hSw k2; have z3 := cell_later hSw k3; have z4 := cell_later hSw k4; have z5 := cell_later hSw k5; clear hSw; go_simp; try with_reducible rfl)
              case' rest4yx3u33 => (try simp only [Act.put, List.setIfInBounds_toArray, List.set_cons_zero, List.set_cons_succ])
              refine wpAnyH_take (i := 4) (oi := { dst := some 56, op := Op.load 30 (Operand.tmp 5), type := 30, pos := "l9_layers.go:132", after := #[], guard := none }) (v := ?v5yx4u34) rfl (by kernel_rfl) (by kernel_rfl) (by kernel_rfl) (fun _ _ _ h => h) (Or.inl ⟨by rfl, ?hy5yx4u34⟩) (by with_reducible assumption) ?rest5yx4u34
              case hy5yx4u34 => (intro wS hSw; (try dsimp only at hSw); have z0 := cell_later hSw k0; have z1 := cell_later hSw k1; have z2 := cell_later hSw k2; have z3 := cell_later hSw k3; have z4 := cell_later hSw k4; have z5 := cell_later hSw k5; clear hSw; go_simp; try with_reducible rfl)
              case' rest5yx4u34 => (try simp only [Act.put, List.setIfInBounds_toArray, List.set_cons_zero, List.set_cons_succ])
              refine wpAnyH_ready (rs := [2]) (by kernel_rfl) (by simp) ?_
              refine AllReadyH.cons (o := { dst := some 54, op := Op.call { callee := Callee.value (Operand.func 67), args := #[Operand.tmp 52, Operand.tmp 53], argTypes := #[30, 30] }, type := 4, pos := "l9_layers.go:132", after := #[{ on := 0, ground := Ground.data }, { on := 1, ground := Ground.data }], guard := none }) rfl (fun K hK => ?_) AllReadyH.nil
              go_simp
              refine (lessImpl_c _ _ _ _ _).mono ?_
              rintro e u2 ⟨rfl, hbc2⟩
              go_wp2_with fail
              refine hK.out _ _ ?_ (fun hHeld => ?_)
              · exact grew (by with_reducible assumption) hbc2
              clear hK K
              try simp only [Act.put, List.setIfInBounds_toArray, List.set_cons_zero, List.set_cons_succ]
              refine wpAnyH_ready (rs := [5]) (by kernel_rfl) (by simp) ?_
              refine AllReadyH.cons (o := { dst := some 57, op := Op.call { callee := Callee.value (Operand.func 67), args := #[Operand.tmp 55, Operand.tmp 56], argTypes := #[30, 30] }, type := 4, pos := "l9_layers.go:132", after := #[{ on := 3, ground := Ground.data }, { on := 4, ground := Ground.data }, { on := 2, ground := Ground.chain }], guard := none }) rfl (fun K hK => ?_) AllReadyH.nil
              go_simp
              refine (lessImpl_c _ _ _ _ _).mono ?_
              rintro e u5 ⟨rfl, hbc5⟩
              go_wp2_with fail
              refine hK.out _ _ ?_ (fun hHeld => ?_)
              · exact grew (by with_reducible assumption) hbc5
              clear hK K
              try simp only [Act.put, List.setIfInBounds_toArray, List.set_cons_zero, List.set_cons_succ]
              refine wpAnyH_take (i := 6) (oi := { dst := some 58, op := Op.binOp BinOp.eql 4 (Operand.tmp 54) (Operand.tmp 57) 4, type := 4, pos := "l9_layers.go:132", after := #[{ on := 2, ground := Ground.data }, { on := 5, ground := Ground.data }], guard := none }) (v := ?v6yx6u35) rfl (by kernel_rfl) (by kernel_rfl) (by kernel_rfl) (fun _ _ _ h => h) (Or.inl ⟨by rfl, ?hy6yx6u35⟩) (by with_reducible assumption) ?rest6yx6u35
              case hy6yx6u35 => (intro wS hSw; (try dsimp only at hSw); have z0 := cell_later hSw k0; have z1 := cell_later hSw k1; have z2 := cell_later hSw k2; have z3 := cell_later hSw k3; have z4 := cell_later hSw k4; have z5 := cell_later hSw k5; clear hSw; go_simp; try with_reducible rfl)
              case' rest6yx6u35 => (try simp only [Act.put, List.setIfInBounds_toArray, List.set_cons_zero, List.set_cons_succ])
              refine wpAnyH_take (i := 7) (oi := { dst := some 51, op := Op.assign (Operand.tmp 58), type := 4, pos := "l9_layers.go:132", after := #[{ on := 6, ground := Ground.data }, { on := 5, ground := Ground.chain }], guard := none }) (v := ?v7yx7u36) rfl (by kernel_rfl) (by kernel_rfl) (by kernel_rfl) (fun _ _ _ h => h) (Or.inl ⟨by rfl, ?hy7yx7u36⟩) (by with_reducible assumption) ?rest7yx7u36
              case hy7yx7u36 => (intro wS hSw; (try dsimp only at hSw); have z0 := cell_later hSw k0; have z1 := cell_later hSw k1; have z2 := cell_later hSw k2; have z3 := cell_later hSw k3; have z4 := cell_later hSw k4; have z5 := cell_later hSw k5; clear hSw; go_simp; try with_reducible rfl)
              case' rest7yx7u36 => (try simp only [Act.put, List.setIfInBounds_toArray, List.set_cons_zero, List.set_cons_succ])
              refine wpAnyH_done (by kernel_rfl) ?_ _
              have hbS : Below w1.heap.size w1 _ := (by with_reducible assumption)
              obtain ⟨g10, g11, g12, g13, g14⟩ := (VV.out.later hbS VV.out.lt).cells
              obtain ⟨f20, f21, f22, f23, f24⟩ := (VV.out.later hbS VV.out.lt).free
              have hszS := hbS.size
              go_wp2
              go_roundw
              case rel =>
                have ec := CLS.out
                have hst : ∀ (u : World) (x : Value), u.heap.size = u.heap.size := fun _ _ => rfl
                refine ⟨k + 1, by omega, by go_num, ?_, ?_, ?_, ?_, ?_, ?_, ?_⟩
                · exact (cell_set_other (by omega)).trans (cell_later hbS k0)
                · exact (cell_set_other (by omega)).trans (cell_later hbS k1)
                · exact (cell_set_other (by omega)).trans (cell_later hbS k2)
                · exact (cell_set_other (by omega)).trans (cell_later hbS k3)
                · have := VB.set4 (x := (n4 : Int) + 1) (VV.out.later hbS VV.out.lt)
                  rw [cnt_no (q := (q0, q1)) (p := (p0, p1)) (c := 4) (d := 0) hkl (by rw [HXY.out]; exact ec) (by omega), cnt_no (q := (q0, q1)) (p := (p0, p1)) (c := 4) (d := 1) hkl (by rw [HXY.out]; exact ec) (by omega), cnt_no (q := (q0, q1)) (p := (p0, p1)) (c := 4) (d := 2) hkl (by rw [HXY.out]; exact ec) (by omega), cnt_no (q := (q0, q1)) (p := (p0, p1)) (c := 4) (d := 3) hkl (by rw [HXY.out]; exact ec) (by omega), cnt_yes (q := (q0, q1)) (p := (p0, p1)) (c := 4) hkl (by rw [HXY.out]; exact ec), HN0.out, HN1.out, HN2.out, HN3.out, HN4.out]
                  rw [show (((n4 + 1 : Nat)) : Int) = (n4 : Int) + 1 from by omega]
                  exact this
                · exact VB.other (ZZ.out.later hbS ZZ.out.lt) (by omega)
                · exact below_set (grew HB1.out hbS) (by omega)
              case measure => simp [intOf]; omega
            · have CLS := hid (show clsN (q0, q1) (p0, p1) (ux, uy) = 4 by rw [CL4.out, hL1, hL2]; rfl)
              go_upto_region 13 with (first | (go_at_call 66; refine (sideOfImpl_c _ _ _ _ _ _ _ (cell_later HBX.out C0.out)).mono ?_; rw [hsn]; rintro e w1 ⟨rfl, hb⟩; have k0 := cell_later hb R0.out; have k1 := cell_later hb R1.out; have k2 := cell_later hb R2.out; have k3 := cell_later hb R3.out; have k4 := cell_later hb K0.out; have k5 := cell_later hb K1.out; have HB1 := hid (grew HBX.out hb); have v1 := VX.out.later hb VX.out.lt; have z1 := ZX.out.later hb ZX.out.lt; have hlt := v1.lt; obtain ⟨v10, v11, v12, v13, v14⟩ := v1.cells; obtain ⟨f10, f11, f12, f13, f14⟩ := v1.free; have VV := hid v1; have ZZ := hid z1; clear v1 z1 hb r0 r1 r2 r3 q0' q1'))
              refine wp_region_held_drew (S := (fun u => Below w1.heap.size w1 u)) (by kernel_rfl) ?_ (fun hHeld => ?_)
              · exact (Below.refl _ _).drew
              refine wpAnyH_take (i := 0) (oi := { dst := some 52, op := Op.load 30 (Operand.tmp 4), type := 30, pos := "l9_layers.go:132", after := #[], guard := none }) (v := ?v2yx0u37) rfl (by kernel_rfl) (by kernel_rfl) (by kernel_rfl) (fun _ _ _ h => h) (Or.inl ⟨by rfl, ?hy2yx0u37⟩) (by with_reducible assumption) ?rest2yx0u37
              case hy2yx0u37 => (intro wS hSw; (try dsimp only at hSw); have z0 := cell_later hSw k0; have z1 := cell_later hSw k1; have z2 := cell_later hSw k2; have z3 := cell_later hSw k3; have z4 := cell_later hSw k4; have z5 := cell_later hSw k5; clear hSw; go_simp; try with_reducible rfl)
              case' rest2yx0u37 => (try simp only [Act.put, List.setIfInBounds_toArray, List.set_cons_zero, List.set_cons_succ])
              refine wpAnyH_take (i := 1) (oi := { dst := some 53, op := Op.load 30 (Operand.tmp 9), type := 30, pos := "l9_layers.go:132", after := #[], guard := none }) (v := ?v3yx1u38) rfl (by kernel_rfl) (by kernel_rfl) (by kernel_rfl) (fun _ _ _ h => h) (Or.inl ⟨by rfl, ?hy3yx1u38⟩) (by with_reducible assumption) ?rest3yx1u38
              case hy3yx1u38 => (intro wS hSw; (try dsimp only at hSw); have z0 := cell_later hSw k0; have z1 := cell_later hSw k1; have z2 := cell_later hSw k2; have z3 := cell_later hSw k3; have z4 := cell_later hSw k4; have z5 := cell_later hSw k5; clear hSw; go_simp; try with_reducible rfl)
              case' rest3yx1u38 => (try simp only [Act.put, List.setIfInBounds_toArray, List.set_cons_zero, List.set_cons_succ])
              refine wpAnyH_take (i := 3) (oi := { dst := some 55, op := Op.load 30 (Operand.tmp 4), type := 30, pos := "l9_layers.go:132", after := #[], guard := none }) (v := ?v4yx3u39) rfl (by kernel_rfl) (by kernel_rfl) (by kernel_rfl) (fun _ _ _ h => h) (Or.inl ⟨by rfl, ?hy4yx3u39⟩) (by with_reducible assumption) ?rest4yx3u39
              case hy4yx3u39 => (intro wS hSw; (try dsimp only at hSw); have z0 := cell_later hSw k0; have z1 := cell_later hSw k1; have z2 := cell_later hSw k2; have z3 := cell_later hSw k3; have z4 := cell_later hSw k4; have z5 := cell_later hSw k5; clear hSw; go_simp; try with_reducible rfl)
              case' rest4yx3u39 => (try simp only [Act.put, List.setIfInBounds_toArray, List.set_cons_zero, List.set_cons_succ])
              refine wpAnyH_take (i := 4) (oi := { dst := some 56, op := Op.load 30 (Operand.tmp 5), type := 30, pos := "l9_layers.go:132", after := #[], guard := none }) (v := ?v5yx4u40) rfl (by kernel_rfl) (by kernel_rfl) (by kernel_rfl) (fun _ _ _ h => h) (Or.inl ⟨by rfl, ?hy5yx4u40⟩) (by with_reducible assumption) ?rest5yx4u40
              case hy5yx4u40 => (intro wS hSw; (try dsimp only at hSw); have z0 := cell_later hSw k0; have z1 := cell_later hSw k1; have z2 := cell_later hSw k2; have z3 := cell_later hSw k3; have z4 := cell_later hSw k4; have z5 := cell_later hSw k5; clear hSw; go_simp; try with_reducible rfl)
              case' rest5yx4u40 => (try simp only [Act.put, List.setIfInBounds_toArray, List.set_cons_zero, List.set_cons_succ])
              refine wpAnyH_ready (rs := [2]) (by kernel_rfl) (by simp) ?_
              refine AllReadyH.cons (o := { dst := some 54, op := Op.call { callee := Callee.value (Operand.func 67), args := #[Operand.tmp 52, Operand.tmp 53], argTypes := #[30, 30] }, type := 4, pos := "l9_layers.go:132", after := #[{ on := 0, ground := Ground.data }, { on := 1, ground := Ground.data }], guard := none }) rfl (fun K hK => ?_) AllReadyH.nil
              go_simp
              refine (lessImpl_c _ _ _ _ _).mono ?_
              rintro e u2 ⟨rfl, hbc2⟩
              go_wp2_with fail
              refine hK.out _ _ ?_ (fun hHeld => ?_)
              · exact grew (by with_reducible assumption) hbc2
              clear hK K
              try simp only [Act.put, List.setIfInBounds_toArray, List.set_cons_zero, List.set_cons_succ]
              refine wpAnyH_ready (rs := [5]) (by kernel_rfl) (by simp) ?_
              refine AllReadyH.cons (o := { dst := some 57, op := Op.call { callee := Callee.value (Operand.func 67), args := #[Operand.tmp 55, Operand.tmp 56], argTypes := #[30, 30] }, type := 4, pos := "l9_layers.go:132", after := #[{ on := 3, ground := Ground.data }, { on := 4, ground := Ground.data }, { on := 2, ground := Ground.chain }], guard := none }) rfl (fun K hK => ?_) AllReadyH.nil
              go_simp
              refine (lessImpl_c _ _ _ _ _).mono ?_
              rintro e u5 ⟨rfl, hbc5⟩
              go_wp2_with fail
              refine hK.out _ _ ?_ (fun hHeld => ?_)
              · exact grew (by with_reducible assumption) hbc5
              clear hK K
              try simp only [Act.put, List.setIfInBounds_toArray, List.set_cons_zero, List.set_cons_succ]
              refine wpAnyH_take (i := 6) (oi := { dst := some 58, op := Op.binOp BinOp.eql 4 (Operand.tmp 54) (Operand.tmp 57) 4, type := 4, pos := "l9_layers.go:132", after := #[{ on := 2, ground := Ground.data }, { on := 5, ground := Ground.data }], guard := none }) (v := ?v6yx6u41) rfl (by kernel_rfl) (by kernel_rfl) (by kernel_rfl) (fun _ _ _ h => h) (Or.inl ⟨by rfl, ?hy6yx6u41⟩) (by with_reducible assumption) ?rest6yx6u41
              case hy6yx6u41 => (intro wS hSw; (try dsimp only at hSw); have z0 := cell_later hSw k0; have z1 := cell_later hSw k1; have z2 := cell_later hSw k2; have z3 := cell_later hSw k3; have z4 := cell_later hSw k4; have z5 := cell_later hSw k5; clear hSw; go_simp; try with_reducible rfl)
              case' rest6yx6u41 => (try simp only [Act.put, List.setIfInBounds_toArray, List.set_cons_zero, List.set_cons_succ])
              refine wpAnyH_take (i := 7) (oi := { dst := some 51, op := Op.assign (Operand.tmp 58), type := 4, pos := "l9_layers.go:132", after := #[{ on := 6, ground := Ground.data }, { on := 5, ground := Ground.chain }], guard := none }) (v := ?v7yx7u42) rfl (by kernel_rfl) (by kernel_rfl) (by kernel_rfl) (fun _ _ _ h => h) (Or.inl ⟨by rfl, ?hy7yx7u42⟩) (by with_reducible assumption) ?rest7yx7u42
              case hy7yx7u42 => (intro wS hSw; (try dsimp only at hSw); have z0 := cell_later hSw k0; have z1 := cell_later hSw k1; have z2 := cell_later hSw k2; have z3 := cell_later hSw k3; have z4 := cell_later hSw k4; have z5 := cell_later hSw k5; clear hSw; go_simp; try with_reducible rfl)
              case' rest7yx7u42 => (try simp only [Act.put, List.setIfInBounds_toArray, List.set_cons_zero, List.set_cons_succ])
              refine wpAnyH_done (by kernel_rfl) ?_ _
              have hbS : Below w1.heap.size w1 _ := (by with_reducible assumption)
              obtain ⟨g10, g11, g12, g13, g14⟩ := (VV.out.later hbS VV.out.lt).cells
              obtain ⟨f20, f21, f22, f23, f24⟩ := (VV.out.later hbS VV.out.lt).free
              have hszS := hbS.size
              go_wp2
              go_roundw
              case rel =>
                have ec := CLS.out
                have hst : ∀ (u : World) (x : Value), u.heap.size = u.heap.size := fun _ _ => rfl
                refine ⟨k + 1, by omega, by go_num, ?_, ?_, ?_, ?_, ?_, ?_, ?_⟩
                · exact (cell_set_other (by omega)).trans (cell_later hbS k0)
                · exact (cell_set_other (by omega)).trans (cell_later hbS k1)
                · exact (cell_set_other (by omega)).trans (cell_later hbS k2)
                · exact (cell_set_other (by omega)).trans (cell_later hbS k3)
                · have := VB.set4 (x := (n4 : Int) + 1) (VV.out.later hbS VV.out.lt)
                  rw [cnt_no (q := (q0, q1)) (p := (p0, p1)) (c := 4) (d := 0) hkl (by rw [HXY.out]; exact ec) (by omega), cnt_no (q := (q0, q1)) (p := (p0, p1)) (c := 4) (d := 1) hkl (by rw [HXY.out]; exact ec) (by omega), cnt_no (q := (q0, q1)) (p := (p0, p1)) (c := 4) (d := 2) hkl (by rw [HXY.out]; exact ec) (by omega), cnt_no (q := (q0, q1)) (p := (p0, p1)) (c := 4) (d := 3) hkl (by rw [HXY.out]; exact ec) (by omega), cnt_yes (q := (q0, q1)) (p := (p0, p1)) (c := 4) hkl (by rw [HXY.out]; exact ec), HN0.out, HN1.out, HN2.out, HN3.out, HN4.out]
                  rw [show (((n4 + 1 : Nat)) : Int) = (n4 : Int) + 1 from by omega]
                  exact this
                · exact VB.other (ZZ.out.later hbS ZZ.out.lt) (by omega)
                · exact below_set (grew HB1.out hbS) (by omega)
              case measure => simp [intOf]; omega
            · have CLS := hid (show clsN (q0, q1) (p0, p1) (ux, uy) = 3 by rw [CL4.out, hL1, hL2]; rfl)
              go_upto_region 13 with (first | (go_at_call 66; refine (sideOfImpl_c _ _ _ _ _ _ _ (cell_later HBX.out C0.out)).mono ?_; rw [hsn]; rintro e w1 ⟨rfl, hb⟩; have k0 := cell_later hb R0.out; have k1 := cell_later hb R1.out; have k2 := cell_later hb R2.out; have k3 := cell_later hb R3.out; have k4 := cell_later hb K0.out; have k5 := cell_later hb K1.out; have HB1 := hid (grew HBX.out hb); have v1 := VX.out.later hb VX.out.lt; have z1 := ZX.out.later hb ZX.out.lt; have hlt := v1.lt; obtain ⟨v10, v11, v12, v13, v14⟩ := v1.cells; obtain ⟨f10, f11, f12, f13, f14⟩ := v1.free; have VV := hid v1; have ZZ := hid z1; clear v1 z1 hb r0 r1 r2 r3 q0' q1'))
              refine wp_region_held_drew (S := (fun u => Below w1.heap.size w1 u)) (by kernel_rfl) ?_ (fun hHeld => ?_)
              · exact (Below.refl _ _).drew
              refine wpAnyH_take (i := 0) (oi := { dst := some 52, op := Op.load 30 (Operand.tmp 4), type := 30, pos := "l9_layers.go:132", after := #[], guard := none }) (v := ?v2yx0u43) rfl (by kernel_rfl) (by kernel_rfl) (by kernel_rfl) (fun _ _ _ h => h) (Or.inl ⟨by rfl, ?hy2yx0u43⟩) (by with_reducible assumption) ?rest2yx0u43
              case hy2yx0u43 => (intro wS hSw; (try dsimp only at hSw); have z0 := cell_later hSw k0; have z1 := cell_later hSw k1; have z2 := cell_later hSw k2; have z3 := cell_later hSw k3; have z4 := cell_later hSw k4; have z5 := cell_later hSw k5; clear hSw; go_simp; try with_reducible rfl)
              case' rest2yx0u43 => (try simp only [Act.put, List.setIfInBounds_toArray, List.set_cons_zero, List.set_cons_succ])
              refine wpAnyH_take (i := 1) (oi := { dst := some 53, op := Op.load 30 (Operand.tmp 9), type := 30, pos := "l9_layers.go:132", after := #[], guard := none }) (v := ?v3yx1u44) rfl (by kernel_rfl) (by kernel_rfl) (by kernel_rfl) (fun _ _ _ h => h) (Or.inl ⟨by rfl, ?hy3yx1u44⟩) (by with_reducible assumption) ?rest3yx1u44
              case hy3yx1u44 => (intro wS hSw; (try dsimp only at hSw); have z0 := cell_later hSw k0; have z1 := cell_later hSw k1; have z2 := cell_later hSw k2; have z3 := cell_later hSw k3; have z4 := cell_later hSw k4; have z5 := cell_later hSw k5; clear hSw; go_simp; try with_reducible rfl)
              case' rest3yx1u44 => (try simp only [Act.put, List.setIfInBounds_toArray, List.set_cons_zero, List.set_cons_succ])
              refine wpAnyH_take (i := 3) (oi := { dst := some 55, op := Op.load 30 (Operand.tmp 4), type := 30, pos := "l9_layers.go:132", after := #[], guard := none }) (v := ?v4yx3u45) rfl (by kernel_rfl) (by kernel_rfl) (by kernel_rfl) (fun _ _ _ h => h) (Or.inl ⟨by rfl, ?hy4yx3u45⟩) (by with_reducible assumption) ?rest4yx3u45
              case hy4yx3u45 => (intro wS hSw; (try dsimp only at hSw); have z0 := cell_later hSw k0; have z1 := cell_later hSw k1; have z2 := cell_later hSw k2; have z3 := cell_later hSw k3; have z4 := cell_later hSw k4; have z5 := cell_later hSw k5; clear hSw; go_simp; try with_reducible rfl)
              case' rest4yx3u45 => (try simp only [Act.put, List.setIfInBounds_toArray, List.set_cons_zero, List.set_cons_succ])
              refine wpAnyH_take (i := 4) (oi := { dst := some 56, op := Op.load 30 (Operand.tmp 5), type := 30, pos := "l9_layers.go:132", after := #[], guard := none }) (v := ?v5yx4u46) rfl (by kernel_rfl) (by kernel_rfl) (by kernel_rfl) (fun _ _ _ h => h) (Or.inl ⟨by rfl, ?hy5yx4u46⟩) (by with_reducible assumption) ?rest5yx4u46
              case hy5yx4u46 => (intro wS hSw; (try dsimp only at hSw); have z0 := cell_later hSw k0; have z1 := cell_later hSw k1; have z2 := cell_later hSw k2; have z3 := cell_later hSw k3; have z4 := cell_later hSw k4; have z5 := cell_later hSw k5; clear hSw; go_simp; try with_reducible rfl)
              case' rest5yx4u46 => (try simp only [Act.put, List.setIfInBounds_toArray, List.set_cons_zero, List.set_cons_succ])
              refine wpAnyH_ready (rs := [2]) (by kernel_rfl) (by simp) ?_
              refine AllReadyH.cons (o := { dst := some 54, op := Op.call { callee := Callee.value (Operand.func 67), args := #[Operand.tmp 52, Operand.tmp 53], argTypes := #[30, 30] }, type := 4, pos := "l9_layers.go:132", after := #[{ on := 0, ground := Ground.data }, { on := 1, ground := Ground.data }], guard := none }) rfl (fun K hK => ?_) AllReadyH.nil
              go_simp
              refine (lessImpl_c _ _ _ _ _).mono ?_
              rintro e u2 ⟨rfl, hbc2⟩
              go_wp2_with fail
              refine hK.out _ _ ?_ (fun hHeld => ?_)
              · exact grew (by with_reducible assumption) hbc2
              clear hK K
              try simp only [Act.put, List.setIfInBounds_toArray, List.set_cons_zero, List.set_cons_succ]
              refine wpAnyH_ready (rs := [5]) (by kernel_rfl) (by simp) ?_
              refine AllReadyH.cons (o := { dst := some 57, op := Op.call { callee := Callee.value (Operand.func 67), args := #[Operand.tmp 55, Operand.tmp 56], argTypes := #[30, 30] }, type := 4, pos := "l9_layers.go:132", after := #[{ on := 3, ground := Ground.data }, { on := 4, ground := Ground.data }, { on := 2, ground := Ground.chain }], guard := none }) rfl (fun K hK => ?_) AllReadyH.nil
              go_simp
              refine (lessImpl_c _ _ _ _ _).mono ?_
              rintro e u5 ⟨rfl, hbc5⟩
              go_wp2_with fail
              refine hK.out _ _ ?_ (fun hHeld => ?_)
              · exact grew (by with_reducible assumption) hbc5
              clear hK K
              try simp only [Act.put, List.setIfInBounds_toArray, List.set_cons_zero, List.set_cons_succ]
              refine wpAnyH_take (i := 6) (oi := { dst := some 58, op := Op.binOp BinOp.eql 4 (Operand.tmp 54) (Operand.tmp 57) 4, type := 4, pos := "l9_layers.go:132", after := #[{ on := 2, ground := Ground.data }, { on := 5, ground := Ground.data }], guard := none }) (v := ?v6yx6u47) rfl (by kernel_rfl) (by kernel_rfl) (by kernel_rfl) (fun _ _ _ h => h) (Or.inl ⟨by rfl, ?hy6yx6u47⟩) (by with_reducible assumption) ?rest6yx6u47
              case hy6yx6u47 => (intro wS hSw; (try dsimp only at hSw); have z0 := cell_later hSw k0; have z1 := cell_later hSw k1; have z2 := cell_later hSw k2; have z3 := cell_later hSw k3; have z4 := cell_later hSw k4; have z5 := cell_later hSw k5; clear hSw; go_simp; try with_reducible rfl)
              case' rest6yx6u47 => (try simp only [Act.put, List.setIfInBounds_toArray, List.set_cons_zero, List.set_cons_succ])
              refine wpAnyH_take (i := 7) (oi := { dst := some 51, op := Op.assign (Operand.tmp 58), type := 4, pos := "l9_layers.go:132", after := #[{ on := 6, ground := Ground.data }, { on := 5, ground := Ground.chain }], guard := none }) (v := ?v7yx7u48) rfl (by kernel_rfl) (by kernel_rfl) (by kernel_rfl) (fun _ _ _ h => h) (Or.inl ⟨by rfl, ?hy7yx7u48⟩) (by with_reducible assumption) ?rest7yx7u48
              case hy7yx7u48 => (intro wS hSw; (try dsimp only at hSw); have z0 := cell_later hSw k0; have z1 := cell_later hSw k1; have z2 := cell_later hSw k2; have z3 := cell_later hSw k3; have z4 := cell_later hSw k4; have z5 := cell_later hSw k5; clear hSw; go_simp; try with_reducible rfl)
              case' rest7yx7u48 => (try simp only [Act.put, List.setIfInBounds_toArray, List.set_cons_zero, List.set_cons_succ])
              refine wpAnyH_done (by kernel_rfl) ?_ _
              have hbS : Below w1.heap.size w1 _ := (by with_reducible assumption)
              obtain ⟨g10, g11, g12, g13, g14⟩ := (VV.out.later hbS VV.out.lt).cells
              obtain ⟨f20, f21, f22, f23, f24⟩ := (VV.out.later hbS VV.out.lt).free
              have hszS := hbS.size
              go_wp2
              go_roundw
              case rel =>
                have ec := CLS.out
                have hst : ∀ (u : World) (x : Value), u.heap.size = u.heap.size := fun _ _ => rfl
                refine ⟨k + 1, by omega, by go_num, ?_, ?_, ?_, ?_, ?_, ?_, ?_⟩
                · exact (cell_set_other (by omega)).trans (cell_later hbS k0)
                · exact (cell_set_other (by omega)).trans (cell_later hbS k1)
                · exact (cell_set_other (by omega)).trans (cell_later hbS k2)
                · exact (cell_set_other (by omega)).trans (cell_later hbS k3)
                · have := VB.set3 (x := (n3 : Int) + 1) (VV.out.later hbS VV.out.lt)
                  rw [cnt_no (q := (q0, q1)) (p := (p0, p1)) (c := 3) (d := 0) hkl (by rw [HXY.out]; exact ec) (by omega), cnt_no (q := (q0, q1)) (p := (p0, p1)) (c := 3) (d := 1) hkl (by rw [HXY.out]; exact ec) (by omega), cnt_no (q := (q0, q1)) (p := (p0, p1)) (c := 3) (d := 2) hkl (by rw [HXY.out]; exact ec) (by omega), cnt_yes (q := (q0, q1)) (p := (p0, p1)) (c := 3) hkl (by rw [HXY.out]; exact ec), cnt_no (q := (q0, q1)) (p := (p0, p1)) (c := 3) (d := 4) hkl (by rw [HXY.out]; exact ec) (by omega), HN0.out, HN1.out, HN2.out, HN3.out, HN4.out]
                  rw [show (((n3 + 1 : Nat)) : Int) = (n3 : Int) + 1 from by omega]
                  exact this
                · exact VB.other (ZZ.out.later hbS ZZ.out.lt) (by omega)
                · exact below_set (grew HB1.out hbS) (by omega)
              case measure => simp [intOf]; omega
    · obtain rfl : k = l.length := by omega
      rw [List.take_length] at hV
      obtain ⟨v0, v1, v2, v3, v4⟩ := hV.cells
      obtain ⟨f0, f1, f2, f3, f4⟩ := hZ.free
      obtain ⟨z0, z1, z2, z3, z4⟩ := hZ.cells
      have hlt := hV.lt
      have E := (((((hZ.set0 (x := (cnt l (q0, q1) (p0, p1) 0 : Nat))).set1 (x := (cnt l (q0, q1) (p0, p1) 1 : Nat))).set2 (x := (cnt l (q0, q1) (p0, p1) 2 : Nat))).set3 (x := (cnt l (q0, q1) (p0, p1) 3 : Nat))).set4 (x := (cnt l (q0, q1) (p0, p1) 4 : Nat)))
      have HB5 := hid (below_set (b := w.heap.size + 1 + 1) (j := 4) (v := .int .i64 (cnt l (q0, q1) (p0, p1) 4 : Nat)) (below_set (b := w.heap.size + 1 + 1) (j := 3) (v := .int .i64 (cnt l (q0, q1) (p0, p1) 3 : Nat)) (below_set (b := w.heap.size + 1 + 1) (j := 2) (v := .int .i64 (cnt l (q0, q1) (p0, p1) 2 : Nat)) (below_set (b := w.heap.size + 1 + 1) (j := 1) (v := .int .i64 (cnt l (q0, q1) (p0, p1) 1 : Nat)) (below_set (b := w.heap.size + 1 + 1) (j := 0) (v := .int .i64 (cnt l (q0, q1) (p0, p1) 0 : Nat)) hbw (by omega)) (by omega)) (by omega)) (by omega)) (by omega))
      obtain ⟨e0, e1, e2, e3, e4⟩ := E.cells
      clear E
      have EE := hid (And.intro e0 (And.intro e1 (And.intro e2 (And.intro e3 e4))))
      clear e0 e1 e2 e3 e4
      go_wp2
      obtain ⟨e0, e1, e2, e3, e4⟩ := EE.out
      have HB6 := HB5.out
      generalize ((((wr.setCell _ _).setCell _ _).setCell _ _).setCell _ _).setCell _ _ = W5 at *
      (try simp only [Exit.inBlock, Exit.then])
      refine bodyPost_ret (v := .agg #[.int .i64 (cnt l (q0, q1) (p0, p1) 0 : Nat), .int .i64 (cnt l (q0, q1) (p0, p1) 1 : Nat), .int .i64 (cnt l (q0, q1) (p0, p1) 2 : Nat), .int .i64 (cnt l (q0, q1) (p0, p1) 3 : Nat), .int .i64 (cnt l (q0, q1) (p0, p1) 4 : Nat)]) (by simp [results, Tryd.results41, go_sem, e0, e1, e2, e3, e4]) rfl ?_
      exact ⟨rfl, HB6⟩
end Go.Proofs.YtoefllklngnmeaaDoor
