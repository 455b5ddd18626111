/-
  What is farthest in a direction, and to a side: the specification's searches (contracts for the walks).
  Conditions: as each theorem states them.
-/
import Derived.Test.YtegmlemejmahiaaDoorFar6
namespace Go.Proofs.YtegmlemejmahiaaDoor
open Go.RowKit Go.Shelf
set_option linter.unusedVariables false
set_option maxRecDepth 8000
theorem score_c (dx dy x y : Int) (w : World) : Calls Tryd.prog 42 #[.agg #[.int .i64 dx, .int .i64 dy], .agg #[.int .i64 x, .int .i64 y]] w fun e w' => e = .returned (.int .i64 (scW (dx, dy) (x, y))) ∧ Below w.heap.size w w' := by
  go_enter Tryd.func42, Tryd.ntmps42
  go_wp2
  go_ret
  exact ⟨rfl, by go_grown⟩
theorem far5_c (ax ay bx b_y x y : Int) (w : World) : Calls Tryd.prog 72 #[.agg #[.int .i64 ax, .int .i64 ay], .agg #[.int .i64 bx, .int .i64 b_y], .agg #[.int .i64 x, .int .i64 y]] w fun e w' => e = .returned (.bool (farB (ax, ay) (bx, b_y) (x, y))) ∧ Below w.heap.size w w' := by
  go_enter Tryd.func72, Tryd.ntmps72
  go_wp2_with (go_at_call 98; refine (dot_c _ _ _ _ _ _ _).mono ?_; rintro e w' ⟨rfl, hb⟩)
  go_ret
  exact ⟨ret_bool (by unfold farB; simp <;> rfl), (by go_grown : Below w.heap.size w _).trans (hb.mono (by go_size))⟩
set_option maxHeartbeats 4000000 in
theorem extreme_c (l : List (Int × Int)) (dx dy : Int) (a : Option Addr) (len cap : Nat) (w : World) (hl : l.length = len) (h1 : len ≤ 1048576) (h0 : 0 < len) (hA : At w.heap.size a l w) :
    Calls Tryd.prog 37 #[.slice a len cap, .agg #[.int .i64 dx, .int .i64 dy]] w fun e w' => e = .returned (.agg #[.int .i64 (farOf (exB (dx, dy)) l).1, .int .i64 (farOf (exB (dx, dy)) l).2]) ∧ Below w.heap.size w w' := by
  subst hl
  have HA := hid hA
  clear hA
  obtain ⟨b0, off0, rfl, hbN0, g00, g01⟩ := HA.out 0 h0
  obtain ⟨sx, hsx⟩ : ∃ x, px l 0 = x := ⟨_, rfl⟩
  obtain ⟨sy, hsy⟩ : ∃ x, py l 0 = x := ⟨_, rfl⟩
  have HS0 := hid (show Go.Proofs.YtegmlemejmahiaaDoor.pt l 0 = (sx, sy) by show (px l 0, py l 0) = _; rw [hsx, hsy])
  rw [hsx] at g00
  rw [hsy] at g01
  clear hsx hsy
  simp only [Nat.zero_mul, Nat.add_zero] at g00 g01
  have q00 := cell_later (show Below w.heap.size w ((w.alloc (.cells #[.int .i64 dx, .int .i64 dy] 26)).alloc (.cells #[.int .i64 0, .int .i64 0] 26)) by go_grown) g00
  have q01 := cell_later (show Below w.heap.size w ((w.alloc (.cells #[.int .i64 dx, .int .i64 dy] 26)).alloc (.cells #[.int .i64 0, .int .i64 0] 26)) by go_grown) g01
  have hw0 : (0 : Int) < (l.length : Int) := by omega
  go_enter Tryd.func37, Tryd.ntmps37
  go_wp2
  have G2 := BoxP.later (BoxP.later (BoxP.new w dx dy) ((Below.refl _ _).alloc (Nat.le_refl _) (.cells #[.int .i64 0, .int .i64 0] 26))) ((Below.refl _ _).alloc (Nat.le_refl _) (.cells #[.int .i64 sx, .int .i64 sy] 26))
  have G4 := BoxP.later (BoxP.new (w.alloc (.cells #[.int .i64 dx, .int .i64 dy] 26)) 0 0) ((Below.refl _ _).alloc (Nat.le_refl _) (.cells #[.int .i64 sx, .int .i64 sy] 26))
  have G5 := BoxP.new ((w.alloc (.cells #[.int .i64 dx, .int .i64 dy] 26)).alloc (.cells #[.int .i64 0, .int .i64 0] 26)) sx sy
  simp only [World.size_alloc] at G4 G5
  have hb0 : Below w.heap.size w (((w.alloc (.cells #[.int .i64 dx, .int .i64 dy] 26)).alloc (.cells #[.int .i64 0, .int .i64 0] 26)).alloc (.cells #[.int .i64 sx, .int .i64 sy] 26)) := by go_grown
  clear g00 g01 q00 q01
  go_loopw [14] (fun i wr => ∃ (k : Nat) (best : Int × Int), k ≤ l.length ∧ i = .int .i64 k ∧ best = (l.take k).foldl (farStep (exB (dx, dy))) (sx, sy) ∧ BoxP wr w.heap.size (dx, dy) ∧ BoxP wr (w.heap.size + 1) (0, 0) ∧ BoxP wr (w.heap.size + 2) best ∧ Below w.heap.size w wr) (fun i _ => l.length - (intOf i).toNat)
  case atStart => exact ⟨0, (sx, sy), Nat.zero_le _, rfl, rfl, G2, G4, G5, hb0⟩
  case round =>
    clear G2 G4 G5 hb0
    obtain ⟨k, ⟨bx, b_y⟩, hk, rfl, hbest, K2, K4, K5, hbw⟩ := hrel
    have HB := hid hbest.symm
    clear hbest
    by_cases hkl : k < l.length
    · have HY := hid (fun e => fold_far_yes (f := exB (dx, dy)) (b := (sx, sy)) hkl e)
      have HN := hid (fun e => fold_far_no (f := exB (dx, dy)) (b := (sx, sy)) hkl e)
      rw [HB.out] at HY HN
      obtain ⟨b, off, e0, hbN, g0, g1⟩ := HA.out k hkl
      cases e0
      have q0 := (hbw.cell (p := ⟨b0, off0 + k * 2, none⟩) hbN).trans g0
      have q1 := (hbw.cell (p := ⟨b0, off0 + k * 2 + 1, none⟩) hbN).trans g1
      clear g0 g1
      obtain ⟨x, hx⟩ : ∃ x, px l k = x := ⟨_, rfl⟩
      obtain ⟨y, hy⟩ : ∃ y, py l k = y := ⟨_, rfl⟩
      rw [hx, hy] at HY HN
      rw [hx] at q0
      rw [hy] at q1
      clear hx hy
      have hi0 : (0 : Int) ≤ (k : Int) := by omega
      have hi1 : (k : Int) < (l.length : Int) := by omega
      obtain ⟨n, hn⟩ : ∃ n, wrap64 (scW (dx, dy) (x, y) - scW (dx, dy) (bx, b_y)) = n := ⟨_, rfl⟩
      have HF := hid (show exB (dx, dy) (x, y) (bx, b_y) = (decide (0 < n) || (decide (n = 0) && lessB x y bx b_y)) by unfold exB scD lt2; rw [hn])
      go_upto_region 5 with fail
      have K7 := BoxP.new wr x y
      have hb7 : Below wr.heap.size wr (wr.alloc (.cells #[.int .i64 x, .int .i64 y] 26)) := by go_grown
      replace K2 := K2.later hb7
      replace K4 := K4.later hb7
      replace K5 := K5.later hb7
      replace hbw := grew hbw hb7
      generalize wr.heap.size = B7 at K7 ⊢
      clear q0 q1 hb7
      generalize wr.alloc (.cells #[.int .i64 x, .int .i64 y] 26) = wp at *
      have c2x := K2.c0
      have c2y := K2.c1
      have c5x := K5.c0
      have c5y := K5.c1
      have c7x := K7.c0
      have c7y := K7.c1
      clear K7
      cases hL : lessB x y bx b_y
      all_goals rcases (show 0 < n ∨ n = 0 ∨ n < 0 by omega) with hc | hc | hc
      all_goals rw [hL] at HF
      all_goals (try (have hc2 : (n == 0) = false := by simp; omega))
      all_goals go_region_held3 (fun u => u.cell? ⟨w.heap.size, 0, none⟩ = some (.int .i64 dx) ∧ u.cell? ⟨w.heap.size, 1, none⟩ = some (.int .i64 dy) ∧ u.cell? ⟨w.heap.size + 2, 0, none⟩ = some (.int .i64 bx) ∧ u.cell? ⟨w.heap.size + 2, 1, none⟩ = some (.int .i64 b_y) ∧ u.cell? ⟨B7, 0, none⟩ = some (.int .i64 x) ∧ u.cell? ⟨B7, 1, none⟩ = some (.int .i64 y) ∧ Below wp.heap.size wp u) (first | exact keepS6 (by with_reducible assumption) (by with_reducible assumption) | exact startS6 (Below.refl _ _).drew c2x c2y c5x c5y c7x c7y (Below.refl _ _)) (first | (go_at_call 42; refine (score_c _ _ _ _ _).mono ?_; rintro e w' ⟨rfl, hb⟩))
      all_goals rename _ ∧ _ => hS
      all_goals clear c2x c2y c5x c5y c7x c7y
      all_goals obtain ⟨c2x, c2y, c5x, c5y, c7x, c7y, hbu⟩ := hS
      all_goals replace hbw := grew hbw hbu
      all_goals replace K2 := K2.later hbu
      all_goals replace K4 := K4.later hbu
      all_goals replace K5 := K5.later hbu
      all_goals clear hbu
      all_goals have f0 := K5.f 0
      all_goals have f1 := K5.f 1
      all_goals (try subst hc)
      all_goals go_wp2_with (go_at_call 64; refine (lessSpec_c _ _ _ _ _).mono ?_; rw [hL]; rintro e w1 ⟨rfl, hb⟩; replace hbw := grew hbw hb; replace K2 := K2.later hb; replace K4 := K4.later hb; replace K5 := K5.later hb; replace c5x := cell_later hb c5x; replace c5y := cell_later hb c5y; replace c7x := cell_later hb c7x; replace c7y := cell_later hb c7y; replace f0 := K5.f 0; replace f1 := K5.f 1; clear hb)
      all_goals go_roundw
      all_goals first
        | (case measure => simp [intOf]; omega)
        | exact ⟨k + 1, (x, y), by omega, by go_num, (HY.out (HF.out.trans (by simp <;> omega))).symm, (K2.other (by omega) _).other (by omega) _, (K4.other (by omega) _).other (by omega) _, K5.set _ _, (hbw.setCell (p := ⟨w.heap.size + 2, 0, none⟩) (by show w.heap.size ≤ w.heap.size + 2; omega) _).setCell (p := ⟨w.heap.size + 2, 1, none⟩) (by show w.heap.size ≤ w.heap.size + 2; omega) _⟩
        | exact ⟨k + 1, (bx, b_y), by omega, by go_num, (HN.out (HF.out.trans (by simp <;> omega))).symm, K2, K4, K5, hbw⟩
    · obtain rfl : k = l.length := by omega
      have c5x := K5.c0
      have c5y := K5.c1
      have c4x := K4.c0
      have c4y := K4.c1
      have f40 := K4.f 0
      have f41 := K4.f 1
      have HE : Hid ((bx, b_y) = farOf (exB (dx, dy)) l) := by have := HB.out; rw [List.take_length] at this; unfold farOf; rw [HS0.out]; exact this.symm
      have HW : Hid (BoxP ((wr.setCell ⟨w.heap.size + 1, 0, none⟩ (.int .i64 bx)).setCell ⟨w.heap.size + 1, 1, none⟩ (.int .i64 b_y)) (w.heap.size + 1) (bx, b_y)) := K4.set _ _
      have hbz := (hbw.setCell (p := ⟨w.heap.size + 1, 0, none⟩) (by show w.heap.size ≤ w.heap.size + 1; omega) (.int .i64 bx)).setCell (p := ⟨w.heap.size + 1, 1, none⟩) (by show w.heap.size ≤ w.heap.size + 1; omega) (.int .i64 b_y)
      go_wp2
      have r0 := HW.out.c0
      have r1 := HW.out.c1
      generalize (wr.setCell ⟨w.heap.size + 1, 0, none⟩ (.int .i64 bx)).setCell ⟨w.heap.size + 1, 1, none⟩ (.int .i64 b_y) = wz at r0 r1 hbz ⊢
      refine bodyPost_ret (v := .agg #[.int .i64 bx, .int .i64 b_y]) (by simp [results, Tryd.results37, go_sem, r0, r1]) rfl ?_
      exact ⟨by rw [← HE.out], hbz⟩
/-- The specification's word for it: none on that side. -/
theorem ssd_eq (qx qy ux uy x y : Int) : ssd (qx, qy) (ux, uy) (x, y) = sg (crossW qx qy ux uy x y) := rfl
set_option maxHeartbeats 4000000 in
theorem free_c (l : List (Int × Int)) (dx dy ux uy s : Int) (a : Option Addr) (len cap : Nat) (w : World) (hl : l.length = len) (h1 : len ≤ 1048576) (hA : At w.heap.size a l w) :
    Calls Tryd.prog 59 #[.slice a len cap, .agg #[.int .i64 dx, .int .i64 dy], .agg #[.int .i64 ux, .int .i64 uy], .int .i64 s] w fun e w' => e = .returned (.bool (frB l (dx, dy) s (ux, uy))) ∧ Below w.heap.size w w' := by
  subst hl
  have HA := hid hA
  clear hA
  go_enter Tryd.func59, Tryd.ntmps59
  go_wp2
  have G2 := BoxP.later (BoxP.new w dx dy) ((Below.refl _ _).alloc (Nat.le_refl _) (.cells #[.int .i64 ux, .int .i64 uy] 26))
  have G4 := BoxP.new (w.alloc (.cells #[.int .i64 dx, .int .i64 dy] 26)) ux uy
  simp only [World.size_alloc] at G4
  have hb0 : Below w.heap.size w ((w.alloc (.cells #[.int .i64 dx, .int .i64 dy] 26)).alloc (.cells #[.int .i64 ux, .int .i64 uy] 26)) := by go_grown
  go_loopw [13] (fun i wr => ∃ k : Nat, k ≤ l.length ∧ i = .int .i64 k ∧ YesTo (frT l (dx, dy) s (ux, uy)) k ∧ BoxP wr w.heap.size (dx, dy) ∧ BoxP wr (w.heap.size + 1) (ux, uy) ∧ Below w.heap.size w wr) (fun i _ => l.length - (intOf i).toNat)
  case atStart => exact ⟨0, Nat.zero_le _, rfl, fun i hi => absurd hi (Nat.not_lt_zero _), G2, G4, hb0⟩
  case round =>
    clear G2 G4 hb0
    obtain ⟨k, hk, rfl, hC, K2, K4, hbw⟩ := hrel
    have HC := hid hC
    clear hC
    by_cases hkl : k < l.length
    · obtain ⟨b, off, rfl, hbN, g0, g1⟩ := HA.out k hkl
      have q0 := (hbw.cell (p := ⟨b, off + k * 2, none⟩) hbN).trans g0
      have q1 := (hbw.cell (p := ⟨b, off + k * 2 + 1, none⟩) hbN).trans g1
      clear g0 g1
      obtain ⟨x, hx⟩ : ∃ x, px l k = x := ⟨_, rfl⟩
      obtain ⟨y, hy⟩ : ∃ y, py l k = y := ⟨_, rfl⟩
      obtain ⟨v, hv⟩ : ∃ v, sg (crossW dx dy ux uy x y) = v := ⟨_, rfl⟩
      have HT := hid (show frT l (dx, dy) s (ux, uy) k = !decide (v = s) by unfold frT; rw [hx, hy, ssd_eq, hv])
      rw [hx] at q0
      rw [hy] at q1
      clear hx hy
      have hi0 : (0 : Int) ≤ (k : Int) := by omega
      have hi1 : (k : Int) < (l.length : Int) := by omega
      go_upto_region 4 with fail
      have K7 := BoxP.new wr x y
      have hb7 : Below wr.heap.size wr (wr.alloc (.cells #[.int .i64 x, .int .i64 y] 26)) := by go_grown
      replace K2 := K2.later hb7
      replace K4 := K4.later hb7
      replace hbw := grew hbw hb7
      generalize wr.heap.size = B7 at K7 ⊢
      clear q0 q1 hb7
      generalize wr.alloc (.cells #[.int .i64 x, .int .i64 y] 26) = wp at *
      have c2x := K2.c0
      have c2y := K2.c1
      have c4x := K4.c0
      have c4y := K4.c1
      have c7x := K7.c0
      have c7y := K7.c1
      clear K7
      by_cases hE : v = s
      · subst hE
        go_wp2_with (go_at_call 79; refine (side_c _ _ _ _ _ _ _).mono ?_; rw [hv]; rintro e w1 ⟨rfl, hb⟩; replace hbw := grew hbw hb; replace K2 := K2.later hb; replace K4 := K4.later hb; clear hb)
        go_ret
        exact ⟨ret_bool (by unfold frB; rw [allT_no hkl (HT.out.trans (by simp))]), hbw⟩
      · have hE2 : (v == s) = false := by simpa using hE
        go_wp2_with (go_at_call 79; refine (side_c _ _ _ _ _ _ _).mono ?_; rw [hv]; rintro e w1 ⟨rfl, hb⟩; replace hbw := grew hbw hb; replace K2 := K2.later hb; replace K4 := K4.later hb; clear hb)
        go_roundw
        case rel => exact ⟨k + 1, by omega, by go_num, HC.out.succ (HT.out.trans (by simp [hE])), K2, K4, hbw⟩
        case measure => simp [intOf]; omega
    · obtain rfl : k = l.length := by omega
      go_wp2
      go_ret
      exact ⟨ret_bool (by unfold frB; rw [allT_iff.2 HC.out]), hbw⟩
theorem fr_take {fr : Int × Int → Bool} {nr : Int × Int → Int × Int → Bool} {l : List (Int × Int)} {k : Nat} {b : (Int × Int) × Bool} (h : k < l.length) : (l.take (k + 1)).foldl (frStep fr nr) b = frStep fr nr ((l.take k).foldl (frStep fr nr) b) (px l k, py l k) := by
  rw [pt_take h, List.foldl_append]; rfl
set_option maxHeartbeats 4000000 in
theorem tangent_c (l : List (Int × Int)) (dx dy s : Int) (a : Option Addr) (len cap : Nat) (w : World) (hl : l.length = len) (h1 : len ≤ 1048576) (h0 : 0 < len) (hA : At w.heap.size a l w) :
    Calls Tryd.prog 44 #[.slice a len cap, .agg #[.int .i64 dx, .int .i64 dy], .int .i64 s] w fun e w' => e = .returned (.agg #[.int .i64 (frOf (frB l (dx, dy) s) (farB (dx, dy)) l).1.1, .int .i64 (frOf (frB l (dx, dy) s) (farB (dx, dy)) l).1.2]) ∧ Below w.heap.size w w' := by
  subst hl
  have HA := hid hA
  clear hA
  obtain ⟨b0, off0, rfl, hbN0, g00, g01⟩ := HA.out 0 h0
  obtain ⟨sx, hsx⟩ : ∃ x, px l 0 = x := ⟨_, rfl⟩
  obtain ⟨sy, hsy⟩ : ∃ x, py l 0 = x := ⟨_, rfl⟩
  have HS0 := hid (show Go.Proofs.YtegmlemejmahiaaDoor.pt l 0 = (sx, sy) by show (px l 0, py l 0) = _; rw [hsx, hsy])
  rw [hsx] at g00
  rw [hsy] at g01
  clear hsx hsy
  simp only [Nat.zero_mul, Nat.add_zero] at g00 g01
  have q00 := cell_later (show Below w.heap.size w ((w.alloc (.cells #[.int .i64 dx, .int .i64 dy] 26)).alloc (.cells #[.int .i64 0, .int .i64 0] 26)) by go_grown) g00
  have q01 := cell_later (show Below w.heap.size w ((w.alloc (.cells #[.int .i64 dx, .int .i64 dy] 26)).alloc (.cells #[.int .i64 0, .int .i64 0] 26)) by go_grown) g01
  have hw0 : (0 : Int) < (l.length : Int) := by omega
  go_enter Tryd.func44, Tryd.ntmps44
  go_wp2
  have G2 := BoxP.later (BoxP.later (BoxP.new w dx dy) ((Below.refl _ _).alloc (Nat.le_refl _) (.cells #[.int .i64 0, .int .i64 0] 26))) ((Below.refl _ _).alloc (Nat.le_refl _) (.cells #[.int .i64 sx, .int .i64 sy] 26))
  have G4 := BoxP.later (BoxP.new (w.alloc (.cells #[.int .i64 dx, .int .i64 dy] 26)) 0 0) ((Below.refl _ _).alloc (Nat.le_refl _) (.cells #[.int .i64 sx, .int .i64 sy] 26))
  have G5 := BoxP.new ((w.alloc (.cells #[.int .i64 dx, .int .i64 dy] 26)).alloc (.cells #[.int .i64 0, .int .i64 0] 26)) sx sy
  simp only [World.size_alloc] at G4 G5
  have hb0 : Below w.heap.size w (((w.alloc (.cells #[.int .i64 dx, .int .i64 dy] 26)).alloc (.cells #[.int .i64 0, .int .i64 0] 26)).alloc (.cells #[.int .i64 sx, .int .i64 sy] 26)) := by go_grown
  clear g00 g01 q00 q01
  go_loopw [8, 16] (fun o i wr => ∃ (k : Nat) (best : Int × Int) (some : Bool), k ≤ l.length ∧ i = .int .i64 k ∧ o = .bool some ∧ (best, some) = (l.take k).foldl (frStep (frB l (dx, dy) s) (farB (dx, dy))) ((sx, sy), false) ∧ BoxP wr w.heap.size (dx, dy) ∧ BoxP wr (w.heap.size + 1) (0, 0) ∧ BoxP wr (w.heap.size + 2) best ∧ Below w.heap.size w wr) (fun _ i _ => l.length - (intOf i).toNat)
  case atStart => exact ⟨0, (sx, sy), false, Nat.zero_le _, rfl, rfl, rfl, G2, G4, G5, hb0⟩
  case round =>
    clear G2 G4 G5 hb0
    obtain ⟨k, ⟨bx, b_y⟩, some, hk, rfl, rfl, hbest, K2, K4, K5, hbw⟩ := hrel
    have HB := hid hbest.symm
    clear hbest
    by_cases hkl : k < l.length
    · have HX := hid (fr_take (fr := frB l (dx, dy) s) (nr := farB (dx, dy)) (b := ((sx, sy), false)) hkl)
      rw [HB.out] at HX
      obtain ⟨b, off, e0, hbN, g0, g1⟩ := HA.out k hkl
      cases e0
      have q0 := (hbw.cell (p := ⟨b0, off0 + k * 2, none⟩) hbN).trans g0
      have q1 := (hbw.cell (p := ⟨b0, off0 + k * 2 + 1, none⟩) hbN).trans g1
      clear g0 g1
      obtain ⟨x, hx⟩ : ∃ x, px l k = x := ⟨_, rfl⟩
      obtain ⟨y, hy⟩ : ∃ y, py l k = y := ⟨_, rfl⟩
      rw [hx, hy] at HX
      rw [hx] at q0
      rw [hy] at q1
      clear hx hy
      have hi0 : (0 : Int) ≤ (k : Int) := by omega
      have hi1 : (k : Int) < (l.length : Int) := by omega
      go_upto_region 6 with fail
      have K7 := BoxP.new wr x y
      have hb7 : Below wr.heap.size wr (wr.alloc (.cells #[.int .i64 x, .int .i64 y] 26)) := by go_grown
      replace K2 := K2.later hb7
      replace K4 := K4.later hb7
      replace K5 := K5.later hb7
      replace hbw := grew hbw hb7
      generalize wr.heap.size = B7 at K7 ⊢
      clear q0 q1 hb7
      generalize wr.alloc (.cells #[.int .i64 x, .int .i64 y] 26) = wp at *
      have c2x := K2.c0
      have c2y := K2.c1
      have c5x := K5.c0
      have c5y := K5.c1
      have c7x := K7.c0
      have c7y := K7.c1
      have f0 := K5.f 0
      have f1 := K5.f 1
      clear K7
      cases hF : frB l (dx, dy) s (x, y)
      · have HR := hid (HX.out.trans (frStep_no (by rw [hF]; rfl)))
        cases some
        all_goals go_wp2_with (first | (go_at_call 59; refine (free_c l _ _ _ _ _ _ _ _ _ rfl h1 ((HA.out.later hbw).mono hbw.size)).mono ?_; rw [hF]; rintro e w1 ⟨rfl, hb⟩; replace hbw := grew hbw hb; replace K2 := K2.later hb; replace K4 := K4.later hb; replace K5 := K5.later hb; replace c2x := cell_later hb c2x; replace c2y := cell_later hb c2y; replace c5x := cell_later hb c5x; replace c5y := cell_later hb c5y; replace c7x := cell_later hb c7x; replace c7y := cell_later hb c7y; replace f0 := K5.f 0; replace f1 := K5.f 1; clear hb) | (go_at_call 72; refine (far5_c _ _ _ _ _ _ _).mono ?_; rw [hN]; rintro e w1 ⟨rfl, hb⟩; replace hbw := grew hbw hb; replace K2 := K2.later hb; replace K4 := K4.later hb; replace K5 := K5.later hb; replace c2x := cell_later hb c2x; replace c2y := cell_later hb c2y; replace c5x := cell_later hb c5x; replace c5y := cell_later hb c5y; replace c7x := cell_later hb c7x; replace c7y := cell_later hb c7y; replace f0 := K5.f 0; replace f1 := K5.f 1; clear hb))
        all_goals go_roundw
        all_goals first
          | (case measure => simp [intOf]; omega)
          | exact ⟨k + 1, (bx, b_y), _, by omega, by go_num, rfl, HR.out.symm, K2, K4, K5, hbw⟩
      · cases some
        · have HR := hid (HX.out.trans (frStep_yes (by rw [hF]; rfl)))
          go_wp2_with (first | (go_at_call 59; refine (free_c l _ _ _ _ _ _ _ _ _ rfl h1 ((HA.out.later hbw).mono hbw.size)).mono ?_; rw [hF]; rintro e w1 ⟨rfl, hb⟩; replace hbw := grew hbw hb; replace K2 := K2.later hb; replace K4 := K4.later hb; replace K5 := K5.later hb; replace c2x := cell_later hb c2x; replace c2y := cell_later hb c2y; replace c5x := cell_later hb c5x; replace c5y := cell_later hb c5y; replace c7x := cell_later hb c7x; replace c7y := cell_later hb c7y; replace f0 := K5.f 0; replace f1 := K5.f 1; clear hb) | (go_at_call 72; refine (far5_c _ _ _ _ _ _ _).mono ?_; rw [hN]; rintro e w1 ⟨rfl, hb⟩; replace hbw := grew hbw hb; replace K2 := K2.later hb; replace K4 := K4.later hb; replace K5 := K5.later hb; replace c2x := cell_later hb c2x; replace c2y := cell_later hb c2y; replace c5x := cell_later hb c5x; replace c5y := cell_later hb c5y; replace c7x := cell_later hb c7x; replace c7y := cell_later hb c7y; replace f0 := K5.f 0; replace f1 := K5.f 1; clear hb))
          go_roundw
          case rel => exact ⟨k + 1, (x, y), true, by omega, by go_num, rfl, HR.out.symm, (K2.other (by omega) _).other (by omega) _, (K4.other (by omega) _).other (by omega) _, K5.set _ _, (hbw.setCell (p := ⟨w.heap.size + 2, 0, none⟩) (by show w.heap.size ≤ w.heap.size + 2; omega) _).setCell (p := ⟨w.heap.size + 2, 1, none⟩) (by show w.heap.size ≤ w.heap.size + 2; omega) _⟩
          case measure => simp [intOf]; omega
        · cases hN : farB (dx, dy) (x, y) (bx, b_y)
          · have HR := hid (HX.out.trans (frStep_no (by rw [hF]; show (true && (false || farB (dx, dy) (x, y) (bx, b_y))) = false; rw [hN]; rfl)))
            go_wp2_with (first | (go_at_call 59; refine (free_c l _ _ _ _ _ _ _ _ _ rfl h1 ((HA.out.later hbw).mono hbw.size)).mono ?_; rw [hF]; rintro e w1 ⟨rfl, hb⟩; replace hbw := grew hbw hb; replace K2 := K2.later hb; replace K4 := K4.later hb; replace K5 := K5.later hb; replace c2x := cell_later hb c2x; replace c2y := cell_later hb c2y; replace c5x := cell_later hb c5x; replace c5y := cell_later hb c5y; replace c7x := cell_later hb c7x; replace c7y := cell_later hb c7y; replace f0 := K5.f 0; replace f1 := K5.f 1; clear hb) | (go_at_call 72; refine (far5_c _ _ _ _ _ _ _).mono ?_; rw [hN]; rintro e w1 ⟨rfl, hb⟩; replace hbw := grew hbw hb; replace K2 := K2.later hb; replace K4 := K4.later hb; replace K5 := K5.later hb; replace c2x := cell_later hb c2x; replace c2y := cell_later hb c2y; replace c5x := cell_later hb c5x; replace c5y := cell_later hb c5y; replace c7x := cell_later hb c7x; replace c7y := cell_later hb c7y; replace f0 := K5.f 0; replace f1 := K5.f 1; clear hb))
            go_roundw
            case rel => exact ⟨k + 1, (bx, b_y), true, by omega, by go_num, rfl, HR.out.symm, K2, K4, K5, hbw⟩
            case measure => simp [intOf]; omega
          · have HR := hid (HX.out.trans (frStep_yes (by rw [hF]; show (true && (false || farB (dx, dy) (x, y) (bx, b_y))) = true; rw [hN]; rfl)))
            go_wp2_with (first | (go_at_call 59; refine (free_c l _ _ _ _ _ _ _ _ _ rfl h1 ((HA.out.later hbw).mono hbw.size)).mono ?_; rw [hF]; rintro e w1 ⟨rfl, hb⟩; replace hbw := grew hbw hb; replace K2 := K2.later hb; replace K4 := K4.later hb; replace K5 := K5.later hb; replace c2x := cell_later hb c2x; replace c2y := cell_later hb c2y; replace c5x := cell_later hb c5x; replace c5y := cell_later hb c5y; replace c7x := cell_later hb c7x; replace c7y := cell_later hb c7y; replace f0 := K5.f 0; replace f1 := K5.f 1; clear hb) | (go_at_call 72; refine (far5_c _ _ _ _ _ _ _).mono ?_; rw [hN]; rintro e w1 ⟨rfl, hb⟩; replace hbw := grew hbw hb; replace K2 := K2.later hb; replace K4 := K4.later hb; replace K5 := K5.later hb; replace c2x := cell_later hb c2x; replace c2y := cell_later hb c2y; replace c5x := cell_later hb c5x; replace c5y := cell_later hb c5y; replace c7x := cell_later hb c7x; replace c7y := cell_later hb c7y; replace f0 := K5.f 0; replace f1 := K5.f 1; clear hb))
            go_roundw
            case rel => exact ⟨k + 1, (x, y), true, by omega, by go_num, rfl, HR.out.symm, (K2.other (by omega) _).other (by omega) _, (K4.other (by omega) _).other (by omega) _, K5.set _ _, (hbw.setCell (p := ⟨w.heap.size + 2, 0, none⟩) (by show w.heap.size ≤ w.heap.size + 2; omega) _).setCell (p := ⟨w.heap.size + 2, 1, none⟩) (by show w.heap.size ≤ w.heap.size + 2; omega) _⟩
            case measure => simp [intOf]; omega
    · obtain rfl : k = l.length := by omega
      have c5x := K5.c0
      have c5y := K5.c1
      have c4x := K4.c0
      have c4y := K4.c1
      have f40 := K4.f 0
      have f41 := K4.f 1
      have HE : Hid ((bx, b_y) = (frOf (frB l (dx, dy) s) (farB (dx, dy)) l).1) := by have := HB.out; rw [List.take_length] at this; unfold frOf; rw [HS0.out]; exact (congrArg Prod.fst this).symm
      have HW : Hid (BoxP ((wr.setCell ⟨w.heap.size + 1, 0, none⟩ (.int .i64 bx)).setCell ⟨w.heap.size + 1, 1, none⟩ (.int .i64 b_y)) (w.heap.size + 1) (bx, b_y)) := K4.set _ _
      have hbz := (hbw.setCell (p := ⟨w.heap.size + 1, 0, none⟩) (by show w.heap.size ≤ w.heap.size + 1; omega) (.int .i64 bx)).setCell (p := ⟨w.heap.size + 1, 1, none⟩) (by show w.heap.size ≤ w.heap.size + 1; omega) (.int .i64 b_y)
      go_wp2
      have r0 := HW.out.c0
      have r1 := HW.out.c1
      generalize (wr.setCell ⟨w.heap.size + 1, 0, none⟩ (.int .i64 bx)).setCell ⟨w.heap.size + 1, 1, none⟩ (.int .i64 b_y) = wz at r0 r1 hbz ⊢
      refine bodyPost_ret (v := .agg #[.int .i64 bx, .int .i64 b_y]) (by simp [results, Tryd.results44, go_sem, r0, r1]) rfl ?_
      exact ⟨by rw [← HE.out], hbz⟩
end Go.Proofs.YtegmlemejmahiaaDoor
