/-
  Two sets laid together by the program (a contract for the walks).
  Conditions: as each theorem states them.
-/
import Derived.Test.YtfhlgdngmdlakaaDoorSet19
import Derived.Test.YtfhlgdngmdlakaaDoorSet17
namespace Go.Proofs.YtfhlgdngmdlakaaDoor
open Go.RowKit
set_option linter.unusedVariables false
theorem row_later {N : Nat} {v : Value} {l : List (Int × Int)} {w w' : World} (h : w.ownsRow N 26 2 v l.length (cells l)) (hb : Below w.heap.size w w') : w'.ownsRow N 26 2 v l.length (cells l) := row_of ((own_of h).later hb)
theorem merge_end {l m : List (Int × Int)} {i j : Nat} (h : l.length ≤ i ∨ m.length ≤ j) : mergeL (l.drop i) (m.drop j) = l.drop i ++ m.drop j := by
  rcases h with h | h
  · rw [List.drop_eq_nil_of_le h, merge_nil_left, List.nil_append]
  · rw [List.drop_eq_nil_of_le h, merge_nil_right, List.append_nil]
set_option maxHeartbeats 4000000 in
theorem joined_c (l m : List (Int × Int)) (b off c oft : Nat) (len cap lem cam : Nat) (w : World) (hl : l.length = len) (hm : m.length = lem) (h1 : len ≤ 1048576) (h2 : lem ≤ 1048576) (hlc : len ≤ cap) (hmc : lem ≤ cam) (hA : At w.heap.size (some ⟨b, off, none⟩) l w) (hB : At w.heap.size (some ⟨c, oft, none⟩) m w) :
    Calls Tryd.prog 50 #[.slice (some ⟨b, off, none⟩) len cap, .slice (some ⟨c, oft, none⟩) lem cam] w fun e w' => ∃ v, e = .returned v ∧ Own w.heap.size v (mergeL l m) w' ∧ Below w.heap.size w w' := by
  subst hl hm
  have HA := hid hA
  have HB := hid hB
  clear hA hB
  obtain ⟨i0, hi, hz0, hz1, hz2⟩ := info_parts info_pt
  go_enter Tryd.func50, Tryd.ntmps50
  go_wp2_with (at_make; refine wpList_make_own _ rfl _ _ 51 rfl w.heap.size 26 i0 _ 2 Tryd.underlying51 hi hz0 hz1 .i64 .i64 _ (l.length + m.length) rfl rfl (by omega) (by rw [hz2]; omega) (by unfold maxLen; omega) (Nat.le_refl _) ?_; intro w0 hown0 hgrow0; have hb0 := growNone hgrow0; clear hgrow0)
  go_loopw [5, 6, 7] (fun v si sj wr => ∃ (i j : Nat) (acc : List (Int × Int)), (i ≤ l.length ∧ j ≤ m.length ∧ acc.length ≤ i + j) ∧ v = .slice (some ⟨w.heap.size, 0, none⟩) acc.length (l.length + m.length) ∧ si = .int .i64 i ∧ sj = .int .i64 j ∧ acc ++ mergeL (l.drop i) (m.drop j) = mergeL l m ∧ wr.ownsRow w.heap.size 26 2 (.slice (some ⟨w.heap.size, 0, none⟩) acc.length (l.length + m.length)) acc.length (cells acc) ∧ Below w.heap.size w wr) (fun v si sj _ => l.length + m.length - (intOf si).toNat - (intOf sj).toNat)
  case atStart => exact ⟨0, 0, [], ⟨Nat.zero_le _, Nat.zero_le _, Nat.zero_le _⟩, rfl, rfl, rfl, rfl, hown0, hb0⟩
  case round =>
    obtain ⟨i, j, acc, hk, rfl, rfl, rfl, hE, hown, hbr⟩ := hrel
    have HE := hid hE
    clear hE
    by_cases hil : i < l.length
    · by_cases hjm : j < m.length
      · obtain ⟨b', off', e1, hbN, g0, g1⟩ := HA.out i hil
        obtain ⟨rfl, rfl⟩ : b = b' ∧ off = off' := by simp at e1; exact e1
        obtain ⟨c', oft', e2, hcN, g2, g3⟩ := HB.out j hjm
        obtain ⟨rfl, rfl⟩ : c = c' ∧ oft = oft' := by simp at e2; exact e2
        have q0 := cell_later hbr g0
        have q1 := cell_later hbr g1
        have q2 := cell_later hbr g2
        have q3 := cell_later hbr g3
        clear g0 g1 g2 g3 e1 e2
        have hi1 : (0 : Int) ≤ (i : Int) := by omega
        have hi2 : (i : Int) < (l.length : Int) := by omega
        have hj1 : (0 : Int) ≤ (j : Int) := by omega
        have hj2 : (j : Int) < (m.length : Int) := by omega
        have hsr := hbr.size
        cases hP : lessB (px l i) (py l i) (px m j) (py m j)
        · cases hQ : lessB (px m j) (py m j) (px l i) (py l i)
          · go_wp2
            go_region_held3 (fun u => u.cell? ⟨b, off + i * 2, none⟩ = some (.int .i64 (px l i)) ∧ u.cell? ⟨b, off + i * 2 + 1, none⟩ = some (.int .i64 (py l i)) ∧ u.cell? ⟨c, oft + j * 2, none⟩ = some (.int .i64 (px m j)) ∧ u.cell? ⟨c, oft + j * 2 + 1, none⟩ = some (.int .i64 (py m j)) ∧ Below wr.heap.size wr u) (first | exact keep4 (by with_reducible assumption) (by with_reducible assumption) | exact start4 (Below.refl _ _).drew q0 q1 q2 q3 (Below.refl _ _)) (first | (go_at_call 74; refine (lessThan_c _ _ _ _ _).mono ?_; rintro e w5 ⟨rfl, hb5'⟩))
            have hS : w5.cell? ⟨b, off + i * 2, none⟩ = some (.int .i64 (px l i)) ∧ w5.cell? ⟨b, off + i * 2 + 1, none⟩ = some (.int .i64 (py l i)) ∧ w5.cell? ⟨c, oft + j * 2, none⟩ = some (.int .i64 (px m j)) ∧ w5.cell? ⟨c, oft + j * 2 + 1, none⟩ = some (.int .i64 (py m j)) ∧ Below wr.heap.size wr w5 := by with_reducible assumption
            obtain ⟨t0, t1, t2, t3, hb5⟩ := hS
            go_wp2
            go_region_held3 (fun u => u.cell? ⟨b, off + i * 2, none⟩ = some (.int .i64 (px l i)) ∧ u.cell? ⟨b, off + i * 2 + 1, none⟩ = some (.int .i64 (py l i)) ∧ u.cell? ⟨c, oft + j * 2, none⟩ = some (.int .i64 (px m j)) ∧ u.cell? ⟨c, oft + j * 2 + 1, none⟩ = some (.int .i64 (py m j)) ∧ Below w5.heap.size w5 u) (first | exact keep4 (by with_reducible assumption) (by with_reducible assumption) | exact start4 (Below.refl _ _).drew t0 t1 t2 t3 (Below.refl _ _)) (first | (go_at_call 74; refine (lessThan_c _ _ _ _ _).mono ?_; rintro e w6 ⟨rfl, hb6'⟩))
            have hS : w6.cell? ⟨b, off + i * 2, none⟩ = some (.int .i64 (px l i)) ∧ w6.cell? ⟨b, off + i * 2 + 1, none⟩ = some (.int .i64 (py l i)) ∧ w6.cell? ⟨c, oft + j * 2, none⟩ = some (.int .i64 (px m j)) ∧ w6.cell? ⟨c, oft + j * 2 + 1, none⟩ = some (.int .i64 (py m j)) ∧ Below w5.heap.size w5 w6 := by with_reducible assumption
            obtain ⟨u0, u1, u2, u3, hb6⟩ := hS
            have hbX : Below wr.heap.size wr w6 := grew hb5 hb6
            have hownw6 := row_later hown hbX
            have hbb6 : b < w6.heap.size := World.block_lt_of_cell? w6 _ u0
            go_wp2_with (at_builtin; refine wpList_append_fits_any _ rfl (.tmp 24) (.tmp 29) 51 rfl w.heap.size 26 i0 2 Tryd.underlying51 hi hz1 w.heap.size acc.length (l.length + m.length) _ rfl (hownw6.alloc _) _ 1 _ (cells [(px l i, py l i)]) rfl rfl (by intro h; cases h) (one_src w6 _ _) (cells_ones _) (by omega) ?_; intro w9 hown9 hgrow9)
            have hR : w9.ownsRow w.heap.size 26 2 (.slice (some ⟨w.heap.size, 0, none⟩) (acc.length + 1) (l.length + m.length)) (acc.length + 1) (cells (acc ++ [(px l i, py l i)])) := by
              rw [cells_append]; exact hown9
            have hB9 : Below w.heap.size w w9 := (grew hbr hbX).trans (((Below.refl w.heap.size _).alloc (grew hbr hbX).size _).trans (grownB hgrow9 (by have := (grew hbr hbX).size; simp; omega) (Nat.le_refl _)))
            clear hown9 hgrow9
            go_wp2
            go_roundw
            case rel =>
              refine ⟨i + 1, j + 1, acc ++ [(px l i, py l i)], ⟨by omega, by omega, by simp; omega⟩, by simp, by go_num, by go_num, ?_, by simpa using hR, hB9⟩
              rw [← HE.out, merge_same hil hjm hP hQ, List.append_assoc]; rfl
            case measure => simp [intOf]; omega
          · go_wp2
            go_region_held3 (fun u => u.cell? ⟨b, off + i * 2, none⟩ = some (.int .i64 (px l i)) ∧ u.cell? ⟨b, off + i * 2 + 1, none⟩ = some (.int .i64 (py l i)) ∧ u.cell? ⟨c, oft + j * 2, none⟩ = some (.int .i64 (px m j)) ∧ u.cell? ⟨c, oft + j * 2 + 1, none⟩ = some (.int .i64 (py m j)) ∧ Below wr.heap.size wr u) (first | exact keep4 (by with_reducible assumption) (by with_reducible assumption) | exact start4 (Below.refl _ _).drew q0 q1 q2 q3 (Below.refl _ _)) (first | (go_at_call 74; refine (lessThan_c _ _ _ _ _).mono ?_; rintro e w5 ⟨rfl, hb5'⟩))
            have hS : w5.cell? ⟨b, off + i * 2, none⟩ = some (.int .i64 (px l i)) ∧ w5.cell? ⟨b, off + i * 2 + 1, none⟩ = some (.int .i64 (py l i)) ∧ w5.cell? ⟨c, oft + j * 2, none⟩ = some (.int .i64 (px m j)) ∧ w5.cell? ⟨c, oft + j * 2 + 1, none⟩ = some (.int .i64 (py m j)) ∧ Below wr.heap.size wr w5 := by with_reducible assumption
            obtain ⟨t0, t1, t2, t3, hb5⟩ := hS
            go_wp2
            go_region_held3 (fun u => u.cell? ⟨b, off + i * 2, none⟩ = some (.int .i64 (px l i)) ∧ u.cell? ⟨b, off + i * 2 + 1, none⟩ = some (.int .i64 (py l i)) ∧ u.cell? ⟨c, oft + j * 2, none⟩ = some (.int .i64 (px m j)) ∧ u.cell? ⟨c, oft + j * 2 + 1, none⟩ = some (.int .i64 (py m j)) ∧ Below w5.heap.size w5 u) (first | exact keep4 (by with_reducible assumption) (by with_reducible assumption) | exact start4 (Below.refl _ _).drew t0 t1 t2 t3 (Below.refl _ _)) (first | (go_at_call 74; refine (lessThan_c _ _ _ _ _).mono ?_; rintro e w6 ⟨rfl, hb6'⟩))
            have hS : w6.cell? ⟨b, off + i * 2, none⟩ = some (.int .i64 (px l i)) ∧ w6.cell? ⟨b, off + i * 2 + 1, none⟩ = some (.int .i64 (py l i)) ∧ w6.cell? ⟨c, oft + j * 2, none⟩ = some (.int .i64 (px m j)) ∧ w6.cell? ⟨c, oft + j * 2 + 1, none⟩ = some (.int .i64 (py m j)) ∧ Below w5.heap.size w5 w6 := by with_reducible assumption
            obtain ⟨u0, u1, u2, u3, hb6⟩ := hS
            have hbX : Below wr.heap.size wr w6 := grew hb5 hb6
            have hownw6 := row_later hown hbX
            go_wp2_with (at_builtin; refine wpList_append_fits_any _ rfl (.tmp 66) (.tmp 71) 51 rfl w.heap.size 26 i0 2 Tryd.underlying51 hi hz1 w.heap.size acc.length (l.length + m.length) _ rfl (hownw6.alloc _) _ 1 _ (cells [(px m j, py m j)]) rfl rfl (by intro h; cases h) (one_src w6 _ _) (cells_ones _) (by omega) ?_; intro w9 hown9 hgrow9)
            have hR : w9.ownsRow w.heap.size 26 2 (.slice (some ⟨w.heap.size, 0, none⟩) (acc.length + 1) (l.length + m.length)) (acc.length + 1) (cells (acc ++ [(px m j, py m j)])) := by
              rw [cells_append]; exact hown9
            have hB9 : Below w.heap.size w w9 := (grew hbr hbX).trans (((Below.refl w.heap.size _).alloc (grew hbr hbX).size _).trans (grownB hgrow9 (by have := (grew hbr hbX).size; simp; omega) (Nat.le_refl _)))
            clear hown9 hgrow9
            go_wp2
            go_roundw
            case rel =>
              refine ⟨i, j + 1, acc ++ [(px m j, py m j)], ⟨by omega, by omega, by simp; omega⟩, by simp, by go_num, by go_num, ?_, by simpa using hR, hB9⟩
              rw [← HE.out, merge_right hil hjm hP hQ, List.append_assoc]; rfl
            case measure => simp [intOf]; omega
        · go_wp2
          go_region_held3 (fun u => u.cell? ⟨b, off + i * 2, none⟩ = some (.int .i64 (px l i)) ∧ u.cell? ⟨b, off + i * 2 + 1, none⟩ = some (.int .i64 (py l i)) ∧ u.cell? ⟨c, oft + j * 2, none⟩ = some (.int .i64 (px m j)) ∧ u.cell? ⟨c, oft + j * 2 + 1, none⟩ = some (.int .i64 (py m j)) ∧ Below wr.heap.size wr u) (first | exact keep4 (by with_reducible assumption) (by with_reducible assumption) | exact start4 (Below.refl _ _).drew q0 q1 q2 q3 (Below.refl _ _)) (first | (go_at_call 74; refine (lessThan_c _ _ _ _ _).mono ?_; rintro e w5 ⟨rfl, hb5'⟩))
          have hS : w5.cell? ⟨b, off + i * 2, none⟩ = some (.int .i64 (px l i)) ∧ w5.cell? ⟨b, off + i * 2 + 1, none⟩ = some (.int .i64 (py l i)) ∧ w5.cell? ⟨c, oft + j * 2, none⟩ = some (.int .i64 (px m j)) ∧ w5.cell? ⟨c, oft + j * 2 + 1, none⟩ = some (.int .i64 (py m j)) ∧ Below wr.heap.size wr w5 := by with_reducible assumption
          obtain ⟨t0, t1, t2, t3, hbX⟩ := hS
          have hownw5 := row_later hown hbX
          go_wp2_with (at_builtin; refine wpList_append_fits_any _ rfl (.tmp 46) (.tmp 51) 51 rfl w.heap.size 26 i0 2 Tryd.underlying51 hi hz1 w.heap.size acc.length (l.length + m.length) _ rfl (hownw5.alloc _) _ 1 _ (cells [(px l i, py l i)]) rfl rfl (by intro h; cases h) (one_src w5 _ _) (cells_ones _) (by omega) ?_; intro w9 hown9 hgrow9)
          have hR : w9.ownsRow w.heap.size 26 2 (.slice (some ⟨w.heap.size, 0, none⟩) (acc.length + 1) (l.length + m.length)) (acc.length + 1) (cells (acc ++ [(px l i, py l i)])) := by
            rw [cells_append]; exact hown9
          have hB9 : Below w.heap.size w w9 := (grew hbr hbX).trans (((Below.refl w.heap.size _).alloc (grew hbr hbX).size _).trans (grownB hgrow9 (by have := (grew hbr hbX).size; simp; omega) (Nat.le_refl _)))
          clear hown9 hgrow9
          go_wp2
          go_roundw
          case rel =>
            refine ⟨i + 1, j, acc ++ [(px l i, py l i)], ⟨by omega, by omega, by simp; omega⟩, by simp, by go_num, by go_num, ?_, by simpa using hR, hB9⟩
            rw [← HE.out, merge_left hil hjm hP, List.append_assoc]; rfl
          case measure => simp [intOf]; omega
      · have hX : acc ++ l.drop i ++ m.drop j = mergeL l m := by rw [← HE.out, merge_end (by omega), List.append_assoc]
        have HX := hid hX
        clear hX
        have hsr := hbr.size
        have HA1 := hid (HA.out.later hbr)
        have HB1 := hid (HB.out.later hbr)
        have hi1 : (0 : Int) ≤ (i : Int) := by omega
        have hi2 : (i : Int) ≤ (l.length : Int) := by omega
        have hi3 : (i : Int) ≤ (cap : Int) := by omega
        have hi4 : (l.length : Int) ≤ (cap : Int) := by omega
        have hj1 : (0 : Int) ≤ (j : Int) := by omega
        have hj2 : (j : Int) ≤ (m.length : Int) := by omega
        have hj3 : (j : Int) ≤ (cam : Int) := by omega
        have hj4 : (m.length : Int) ≤ (cam : Int) := by omega
        by_cases hci : cap = i
        all_goals by_cases hcj : cam = j
        all_goals go_wp2_with (first | (at_builtin; refine wpList_append_fits_any _ rfl (.tmp 75) (.tmp 78) 51 rfl w.heap.size 26 i0 2 Tryd.underlying51 hi hz1 w.heap.size acc.length (l.length + m.length) _ rfl hown _ _ _ (cells (l.drop i)) rfl (by rw [cells_len, List.length_drop]; try omega) (by intro h; first | cases h | (split at h <;> cases h)) (cells_src HA1.out (by intro h; first | rfl | (exfalso; omega))) (cells_ones _) (by omega) ?_; intro w9 hown9 hgrow9; have hb9 : Below w.heap.size wr w9 := grownB hgrow9 hsr (Nat.le_refl _); have HB9 := hid (At.laterB HB1.out hb9 (Nat.le_refl _)); have hbw9 := hbr.trans hb9) | (at_builtin; refine wpList_append_fits_any _ rfl (.tmp 80) (.tmp 83) 51 rfl w.heap.size 26 i0 2 Tryd.underlying51 hi hz1 w.heap.size _ (l.length + m.length) _ rfl hown9 _ _ _ (cells (m.drop j)) rfl (by rw [cells_len, List.length_drop]; try omega) (by intro h; first | cases h | (split at h <;> cases h)) (cells_src HB9.out (by intro h; first | rfl | (exfalso; omega))) (cells_ones _) (by omega) ?_; intro w10 hown10 hgrow10; have hb10 : Below w.heap.size w9 w10 := grownB hgrow10 hbw9.size (Nat.le_refl _)))
        all_goals go_ret
        all_goals rw [← cells_append, ← cells_append, HX.out] at hown10
        all_goals exact ⟨_, rfl, own_of hown10, hbw9.trans hb10⟩
    · have hX : acc ++ l.drop i ++ m.drop j = mergeL l m := by rw [← HE.out, merge_end (by omega), List.append_assoc]
      have HX := hid hX
      clear hX
      have hsr := hbr.size
      have HA1 := hid (HA.out.later hbr)
      have HB1 := hid (HB.out.later hbr)
      have hi1 : (0 : Int) ≤ (i : Int) := by omega
      have hi2 : (i : Int) ≤ (l.length : Int) := by omega
      have hi3 : (i : Int) ≤ (cap : Int) := by omega
      have hi4 : (l.length : Int) ≤ (cap : Int) := by omega
      have hj1 : (0 : Int) ≤ (j : Int) := by omega
      have hj2 : (j : Int) ≤ (m.length : Int) := by omega
      have hj3 : (j : Int) ≤ (cam : Int) := by omega
      have hj4 : (m.length : Int) ≤ (cam : Int) := by omega
      by_cases hci : cap = i
      all_goals by_cases hcj : cam = j
      all_goals go_wp2_with (first | (at_builtin; refine wpList_append_fits_any _ rfl (.tmp 75) (.tmp 78) 51 rfl w.heap.size 26 i0 2 Tryd.underlying51 hi hz1 w.heap.size acc.length (l.length + m.length) _ rfl hown _ _ _ (cells (l.drop i)) rfl (by rw [cells_len, List.length_drop]; try omega) (by intro h; first | cases h | (split at h <;> cases h)) (cells_src HA1.out (by intro h; first | rfl | (exfalso; omega))) (cells_ones _) (by omega) ?_; intro w9 hown9 hgrow9; have hb9 : Below w.heap.size wr w9 := grownB hgrow9 hsr (Nat.le_refl _); have HB9 := hid (At.laterB HB1.out hb9 (Nat.le_refl _)); have hbw9 := hbr.trans hb9) | (at_builtin; refine wpList_append_fits_any _ rfl (.tmp 80) (.tmp 83) 51 rfl w.heap.size 26 i0 2 Tryd.underlying51 hi hz1 w.heap.size _ (l.length + m.length) _ rfl hown9 _ _ _ (cells (m.drop j)) rfl (by rw [cells_len, List.length_drop]; try omega) (by intro h; first | cases h | (split at h <;> cases h)) (cells_src HB9.out (by intro h; first | rfl | (exfalso; omega))) (cells_ones _) (by omega) ?_; intro w10 hown10 hgrow10; have hb10 : Below w.heap.size w9 w10 := grownB hgrow10 hbw9.size (Nat.le_refl _)))
      all_goals go_ret
      all_goals rw [← cells_append, ← cells_append, HX.out] at hown10
      all_goals exact ⟨_, rfl, own_of hown10, hbw9.trans hb10⟩
end Go.Proofs.YtfhlgdngmdlakaaDoor
