/-
  Which point is next round a set, in the program (a contract for the walks).
  Conditions: as each theorem states them.
-/
import Derived.Test.YtcghpepkphphbaaGreatDoorHBeyond
namespace Go.Proofs.YtcghpepkphphbaaGreatDoor
open Go.RowKit Go.Shelf
set_option linter.unusedVariables false
set_option maxRecDepth 8000
theorem istep_tl {a b p : Int × Int} (h : tlB a p b = true) : istep a b p = p := by unfold istep; rw [if_pos (.inr (.inl h))]
theorem istep_by {a b p : Int × Int} (h : byB a b p = true) : istep a b p = p := by unfold istep; rw [if_pos (.inr (.inr h))]
theorem istep_no {a b p : Int × Int} (h0 : b ≠ a) (h : tlB a p b = false) (k : byB a b p = false) : istep a b p = b := by
  unfold istep
  rw [if_neg]
  rintro (e | e | e)
  · exact h0 e
  · rw [h] at e; cases e
  · rw [k] at e; cases e
theorem istep_at {a p : Int × Int} : istep a a p = p := by unfold istep; rw [if_pos (.inl rfl)]
theorem fold_take {f : Int × Int → Int × Int → Int × Int} {l : List (Int × Int)} {k : Nat} {b : Int × Int} (h : k < l.length) : (l.take (k + 1)).foldl f b = f ((l.take k).foldl f b) (px l k, py l k) := by
  rw [pt_take h, List.foldl_append]; rfl
set_option maxHeartbeats 1000000 in
theorem nextRound_c (l : List (Int × Int)) (cx_ cy_ : Int) (a : Option Addr) (len cap : Nat) (w : World) (hl : l.length = len) (h1 : len ≤ 1048576) (hA : At w.heap.size a l w) (c0 : w.cell? ⟨0, 0, none⟩ = some (.int .i64 1000000)) :
    Calls Tryz.prog 53 #[.slice a len cap, .agg #[.int .i64 cx_, .int .i64 cy_]] w fun e w' => e = .returned (.agg #[.int .i64 (nxI l (cx_, cy_)).1, .int .i64 (nxI l (cx_, cy_)).2]) ∧ Below w.heap.size w w' := by
  subst hl
  have hz : 0 < w.heap.size := World.block_lt_of_cell? w _ c0
  have HA := hid hA
  have C0 := hid c0
  clear hA c0
  go_enter Tryz.func53, Tryz.ntmps53
  go_wp2
  have G3 := BoxP.later (BoxP.later (BoxP.new w cx_ cy_) ((Below.refl _ _).alloc (Nat.le_refl _) (.cells #[.int .i64 0, .int .i64 0] 33))) ((Below.refl _ _).alloc (Nat.le_refl _) (.cells #[.int .i64 cx_, .int .i64 cy_] 33))
  have G4 := BoxP.later (BoxP.new (w.alloc (.cells #[.int .i64 cx_, .int .i64 cy_] 33)) 0 0) ((Below.refl _ _).alloc (Nat.le_refl _) (.cells #[.int .i64 cx_, .int .i64 cy_] 33))
  have G5 := BoxP.new ((w.alloc (.cells #[.int .i64 cx_, .int .i64 cy_] 33)).alloc (.cells #[.int .i64 0, .int .i64 0] 33)) cx_ cy_
  simp only [World.size_alloc] at G4 G5
  have hb0 : Below w.heap.size w (((w.alloc (.cells #[.int .i64 cx_, .int .i64 cy_] 33)).alloc (.cells #[.int .i64 0, .int .i64 0] 33)).alloc (.cells #[.int .i64 cx_, .int .i64 cy_] 33)) := by go_grown
  go_loopw [11] (fun i wr => ∃ (k : Nat) (best : Int × Int), k ≤ l.length ∧ i = .int .i64 k ∧ best = (l.take k).foldl (istep (cx_, cy_)) (cx_, cy_) ∧ BoxP wr w.heap.size (cx_, cy_) ∧ BoxP wr (w.heap.size + 1) (0, 0) ∧ BoxP wr (w.heap.size + 2) best ∧ Below w.heap.size w wr) (fun i _ => l.length - (intOf i).toNat)
  case atStart => exact ⟨0, (cx_, cy_), Nat.zero_le _, rfl, rfl, G3, G4, G5, hb0⟩
  case round =>
    clear G3 G4 G5 hb0
    obtain ⟨k, ⟨bx, b_y⟩, hk, rfl, hbest, K3, K4, K5, hbw⟩ := hrel
    have HB := hid hbest.symm
    clear hbest
    by_cases hkl : k < l.length
    · obtain ⟨b, off, rfl, hbN, g0, g1⟩ := HA.out k hkl
      have q0 := (hbw.cell (p := ⟨b, off + k * 2, none⟩) hbN).trans g0
      have q1 := (hbw.cell (p := ⟨b, off + k * 2 + 1, none⟩) hbN).trans g1
      have HS := hid (fold_take (f := istep (cx_, cy_)) (b := (cx_, cy_)) hkl)
      clear g0 g1
      obtain ⟨x, hx⟩ : ∃ x, px l k = x := ⟨_, rfl⟩
      obtain ⟨y, hy⟩ : ∃ y, py l k = y := ⟨_, rfl⟩
      rw [hx, hy] at HS
      rw [hx] at q0
      rw [hy] at q1
      clear hx hy
      go_upto_region 5 with fail
      have K7 := BoxP.new wr x y
      have hb7 : Below wr.heap.size wr (wr.alloc (.cells #[.int .i64 x, .int .i64 y] 33)) := by go_grown
      replace K3 := K3.later hb7
      replace K4 := K4.later hb7
      replace K5 := K5.later hb7
      replace hbw := grew hbw hb7
      generalize wr.heap.size = B7 at K7 ⊢
      clear q0 q1 hb7
      generalize wr.alloc (.cells #[.int .i64 x, .int .i64 y] 33) = wp at K3 K4 K5 K7 hbw ⊢
      have c3x := K3.c0
      have c3y := K3.c1
      have c5x := K5.c0
      have c5y := K5.c1
      have c7x := K7.c0
      have c7y := K7.c1
      have f0 := K5.f 0
      have f1 := K5.f 1
      clear K7
      by_cases e0 : bx = cx_
      · by_cases e1 : b_y = cy_
        · subst e0 e1
          go_wp2
          go_roundw
          case rel => exact ⟨k + 1, (x, y), by omega, by go_num, by rw [HS.out, HB.out]; exact (istep_at).symm, (K3.other (by omega) _).other (by omega) _, (K4.other (by omega) _).other (by omega) _, K5.set _ _, (hbw.setCell (p := ⟨w.heap.size + 2, 0, none⟩) (by show w.heap.size ≤ w.heap.size + 2; omega) _).setCell (p := ⟨w.heap.size + 2, 1, none⟩) (by show w.heap.size ≤ w.heap.size + 2; omega) _⟩
          case measure => simp [intOf]; omega
        · have hne : ((bx, b_y) : Int × Int) ≠ (cx_, cy_) := fun e => e1 (congrArg Prod.snd e)
          have HN := hid hne
          have y1 : (b_y == cy_) = false := by simpa using e1
          subst e0
          clear e1 hne
          cases hT : tlB (bx, cy_) (x, y) (bx, b_y)
          · cases hB : byB (bx, cy_) (bx, b_y) (x, y)
            · go_wp2_with (first | (go_at_call 61; refine (turnsLeft_c _ _ _ _ _ _ _ (cell_later hbw C0.out)).mono ?_; rw [hT]; rintro e w1 ⟨rfl, hb⟩; replace hbw := grew hbw hb; replace K3 := K3.later hb; replace K4 := K4.later hb; replace K5 := K5.later hb; replace c3x := cell_later hb c3x; replace c3y := cell_later hb c3y; replace c5x := cell_later hb c5x; replace c5y := cell_later hb c5y; replace c7x := cell_later hb c7x; replace c7y := cell_later hb c7y; replace f0 := K5.f 0; replace f1 := K5.f 1; clear hb) | (go_at_call 70; refine (isBeyond_c _ _ _ _ _ _ _ (cell_later hbw C0.out)).mono ?_; rw [hB]; rintro e w1 ⟨rfl, hb⟩; replace hbw := grew hbw hb; replace K3 := K3.later hb; replace K4 := K4.later hb; replace K5 := K5.later hb; replace c3x := cell_later hb c3x; replace c3y := cell_later hb c3y; replace c5x := cell_later hb c5x; replace c5y := cell_later hb c5y; replace c7x := cell_later hb c7x; replace c7y := cell_later hb c7y; replace f0 := K5.f 0; replace f1 := K5.f 1; clear hb))
              go_roundw
              case rel => exact ⟨k + 1, (bx, b_y), by omega, by go_num, by rw [HS.out, HB.out]; exact (istep_no HN.out hT hB).symm, K3, K4, K5, hbw⟩
              case measure => simp [intOf]; omega
            · go_wp2_with (first | (go_at_call 61; refine (turnsLeft_c _ _ _ _ _ _ _ (cell_later hbw C0.out)).mono ?_; rw [hT]; rintro e w1 ⟨rfl, hb⟩; replace hbw := grew hbw hb; replace K3 := K3.later hb; replace K4 := K4.later hb; replace K5 := K5.later hb; replace c3x := cell_later hb c3x; replace c3y := cell_later hb c3y; replace c5x := cell_later hb c5x; replace c5y := cell_later hb c5y; replace c7x := cell_later hb c7x; replace c7y := cell_later hb c7y; replace f0 := K5.f 0; replace f1 := K5.f 1; clear hb) | (go_at_call 70; refine (isBeyond_c _ _ _ _ _ _ _ (cell_later hbw C0.out)).mono ?_; rw [hB]; rintro e w1 ⟨rfl, hb⟩; replace hbw := grew hbw hb; replace K3 := K3.later hb; replace K4 := K4.later hb; replace K5 := K5.later hb; replace c3x := cell_later hb c3x; replace c3y := cell_later hb c3y; replace c5x := cell_later hb c5x; replace c5y := cell_later hb c5y; replace c7x := cell_later hb c7x; replace c7y := cell_later hb c7y; replace f0 := K5.f 0; replace f1 := K5.f 1; clear hb))
              go_roundw
              case rel => exact ⟨k + 1, (x, y), by omega, by go_num, by rw [HS.out, HB.out]; exact (istep_by hB).symm, (K3.other (by omega) _).other (by omega) _, (K4.other (by omega) _).other (by omega) _, K5.set _ _, (hbw.setCell (p := ⟨w.heap.size + 2, 0, none⟩) (by show w.heap.size ≤ w.heap.size + 2; omega) _).setCell (p := ⟨w.heap.size + 2, 1, none⟩) (by show w.heap.size ≤ w.heap.size + 2; omega) _⟩
              case measure => simp [intOf]; omega
          · go_wp2_with (first | (go_at_call 61; refine (turnsLeft_c _ _ _ _ _ _ _ (cell_later hbw C0.out)).mono ?_; rw [hT]; rintro e w1 ⟨rfl, hb⟩; replace hbw := grew hbw hb; replace K3 := K3.later hb; replace K4 := K4.later hb; replace K5 := K5.later hb; replace c3x := cell_later hb c3x; replace c3y := cell_later hb c3y; replace c5x := cell_later hb c5x; replace c5y := cell_later hb c5y; replace c7x := cell_later hb c7x; replace c7y := cell_later hb c7y; replace f0 := K5.f 0; replace f1 := K5.f 1; clear hb))
            go_roundw
            case rel => exact ⟨k + 1, (x, y), by omega, by go_num, by rw [HS.out, HB.out]; exact (istep_tl hT).symm, (K3.other (by omega) _).other (by omega) _, (K4.other (by omega) _).other (by omega) _, K5.set _ _, (hbw.setCell (p := ⟨w.heap.size + 2, 0, none⟩) (by show w.heap.size ≤ w.heap.size + 2; omega) _).setCell (p := ⟨w.heap.size + 2, 1, none⟩) (by show w.heap.size ≤ w.heap.size + 2; omega) _⟩
            case measure => simp [intOf]; omega
      · have hne : ((bx, b_y) : Int × Int) ≠ (cx_, cy_) := fun e => e0 (congrArg Prod.fst e)
        have HN := hid hne
        have y0 : (bx == cx_) = false := by simpa using e0
        clear e0 hne
        cases hT : tlB (cx_, cy_) (x, y) (bx, b_y)
        · cases hB : byB (cx_, cy_) (bx, b_y) (x, y)
          · go_wp2_with (first | (go_at_call 61; refine (turnsLeft_c _ _ _ _ _ _ _ (cell_later hbw C0.out)).mono ?_; rw [hT]; rintro e w1 ⟨rfl, hb⟩; replace hbw := grew hbw hb; replace K3 := K3.later hb; replace K4 := K4.later hb; replace K5 := K5.later hb; replace c3x := cell_later hb c3x; replace c3y := cell_later hb c3y; replace c5x := cell_later hb c5x; replace c5y := cell_later hb c5y; replace c7x := cell_later hb c7x; replace c7y := cell_later hb c7y; replace f0 := K5.f 0; replace f1 := K5.f 1; clear hb) | (go_at_call 70; refine (isBeyond_c _ _ _ _ _ _ _ (cell_later hbw C0.out)).mono ?_; rw [hB]; rintro e w1 ⟨rfl, hb⟩; replace hbw := grew hbw hb; replace K3 := K3.later hb; replace K4 := K4.later hb; replace K5 := K5.later hb; replace c3x := cell_later hb c3x; replace c3y := cell_later hb c3y; replace c5x := cell_later hb c5x; replace c5y := cell_later hb c5y; replace c7x := cell_later hb c7x; replace c7y := cell_later hb c7y; replace f0 := K5.f 0; replace f1 := K5.f 1; clear hb))
            go_roundw
            case rel => exact ⟨k + 1, (bx, b_y), by omega, by go_num, by rw [HS.out, HB.out]; exact (istep_no HN.out hT hB).symm, K3, K4, K5, hbw⟩
            case measure => simp [intOf]; omega
          · go_wp2_with (first | (go_at_call 61; refine (turnsLeft_c _ _ _ _ _ _ _ (cell_later hbw C0.out)).mono ?_; rw [hT]; rintro e w1 ⟨rfl, hb⟩; replace hbw := grew hbw hb; replace K3 := K3.later hb; replace K4 := K4.later hb; replace K5 := K5.later hb; replace c3x := cell_later hb c3x; replace c3y := cell_later hb c3y; replace c5x := cell_later hb c5x; replace c5y := cell_later hb c5y; replace c7x := cell_later hb c7x; replace c7y := cell_later hb c7y; replace f0 := K5.f 0; replace f1 := K5.f 1; clear hb) | (go_at_call 70; refine (isBeyond_c _ _ _ _ _ _ _ (cell_later hbw C0.out)).mono ?_; rw [hB]; rintro e w1 ⟨rfl, hb⟩; replace hbw := grew hbw hb; replace K3 := K3.later hb; replace K4 := K4.later hb; replace K5 := K5.later hb; replace c3x := cell_later hb c3x; replace c3y := cell_later hb c3y; replace c5x := cell_later hb c5x; replace c5y := cell_later hb c5y; replace c7x := cell_later hb c7x; replace c7y := cell_later hb c7y; replace f0 := K5.f 0; replace f1 := K5.f 1; clear hb))
            go_roundw
            case rel => exact ⟨k + 1, (x, y), by omega, by go_num, by rw [HS.out, HB.out]; exact (istep_by hB).symm, (K3.other (by omega) _).other (by omega) _, (K4.other (by omega) _).other (by omega) _, K5.set _ _, (hbw.setCell (p := ⟨w.heap.size + 2, 0, none⟩) (by show w.heap.size ≤ w.heap.size + 2; omega) _).setCell (p := ⟨w.heap.size + 2, 1, none⟩) (by show w.heap.size ≤ w.heap.size + 2; omega) _⟩
            case measure => simp [intOf]; omega
        · go_wp2_with (first | (go_at_call 61; refine (turnsLeft_c _ _ _ _ _ _ _ (cell_later hbw C0.out)).mono ?_; rw [hT]; rintro e w1 ⟨rfl, hb⟩; replace hbw := grew hbw hb; replace K3 := K3.later hb; replace K4 := K4.later hb; replace K5 := K5.later hb; replace c3x := cell_later hb c3x; replace c3y := cell_later hb c3y; replace c5x := cell_later hb c5x; replace c5y := cell_later hb c5y; replace c7x := cell_later hb c7x; replace c7y := cell_later hb c7y; replace f0 := K5.f 0; replace f1 := K5.f 1; clear hb))
          go_roundw
          case rel => exact ⟨k + 1, (x, y), by omega, by go_num, by rw [HS.out, HB.out]; exact (istep_tl hT).symm, (K3.other (by omega) _).other (by omega) _, (K4.other (by omega) _).other (by omega) _, K5.set _ _, (hbw.setCell (p := ⟨w.heap.size + 2, 0, none⟩) (by show w.heap.size ≤ w.heap.size + 2; omega) _).setCell (p := ⟨w.heap.size + 2, 1, none⟩) (by show w.heap.size ≤ w.heap.size + 2; omega) _⟩
          case measure => simp [intOf]; omega
    · obtain rfl : k = l.length := by omega
      have c5x := K5.c0
      have c5y := K5.c1
      have c4x := K4.c0
      have c4y := K4.c1
      have f40 := K4.f 0
      have f41 := K4.f 1
      have HE : Hid ((bx, b_y) = nxI l (cx_, cy_)) := by have := HB.out; rw [List.take_length] at this; exact this.symm
      have HW : Hid (BoxP ((wr.setCell ⟨w.heap.size + 1, 0, none⟩ (.int .i64 bx)).setCell ⟨w.heap.size + 1, 1, none⟩ (.int .i64 b_y)) (w.heap.size + 1) (bx, b_y)) := K4.set _ _
      have hbz := (hbw.setCell (p := ⟨w.heap.size + 1, 0, none⟩) (by show w.heap.size ≤ w.heap.size + 1; omega) (.int .i64 bx)).setCell (p := ⟨w.heap.size + 1, 1, none⟩) (by show w.heap.size ≤ w.heap.size + 1; omega) (.int .i64 b_y)
      go_wp2
      have r0 := HW.out.c0
      have r1 := HW.out.c1
      generalize (wr.setCell ⟨w.heap.size + 1, 0, none⟩ (.int .i64 bx)).setCell ⟨w.heap.size + 1, 1, none⟩ (.int .i64 b_y) = wz at r0 r1 hbz ⊢
      refine bodyPost_ret (v := .agg #[.int .i64 bx, .int .i64 b_y]) (by simp [results, Tryz.results53, go_sem, r0, r1]) rfl ?_
      exact ⟨by rw [← HE.out], hbz⟩
end Go.Proofs.YtcghpepkphphbaaGreatDoor
