/-
  Two sets laid together, one or both of them nil (contracts for the walks).
  Conditions: as each theorem states them.
-/
import Derived.Test.YtfhlgdngmdlakaaDoorSetM
namespace Go.Proofs.YtfhlgdngmdlakaaDoor
open Go.RowKit
set_option linter.unusedVariables false
set_option maxHeartbeats 1000000 in
theorem joined_ns (m : List (Int × Int)) (c oft : Nat) (lem cam : Nat) (w : World) (hm : m.length = lem) (h2 : lem ≤ 1048576) (hmc : lem ≤ cam) (hB : At w.heap.size (some ⟨c, oft, none⟩) m w) :
    Calls Tryd.prog 50 #[.slice none 0 0, .slice (some ⟨c, oft, none⟩) lem cam] w fun e w' => ∃ v, e = .returned v ∧ Own w.heap.size v (mergeL [] m) w' ∧ Below w.heap.size w w' := by
  subst hm
  rw [merge_nil_left]
  have HB := hid hB
  clear hB
  obtain ⟨i0, hi, hz0, hz1, hz2⟩ := info_parts info_pt
  have hj4 : (m.length : Int) ≤ (cam : Int) := by omega
  have hj5 : (0 : Int) ≤ (cam : Int) := by omega
  by_cases hcj : cam = 0
  all_goals go_enter Tryd.func50, Tryd.ntmps50
  all_goals go_wp2_with (at_make; refine wpList_make_own _ rfl _ _ 51 rfl w.heap.size 26 i0 _ 2 Tryd.underlying51 hi hz0 hz1 .i64 .i64 _ m.length rfl rfl (by omega) (by rw [hz2]; omega) (by unfold maxLen; omega) (Nat.le_refl _) ?_; intro w0 hown0 hgrow0; have hb0 := growNone hgrow0; clear hgrow0; have hs0 := hb0.size)
  all_goals refine wp_loop_rounds 1 ?_
  all_goals rw [rounds_succ]
  all_goals go_wp2_with (first
    | (at_builtin; refine wpList_append_fits_any _ rfl (.tmp 75) (.tmp 78) 51 rfl w.heap.size 26 i0 2 Tryd.underlying51 hi hz1 w.heap.size 0 m.length _ rfl hown0 _ _ _ (cells []) rfl rfl (by intro h; first | exact ⟨rfl, rfl⟩ | cases h | (split at h <;> cases h)) (by intro ad h; first | cases h | (split at h <;> (cases h; intro j u hu; simp [cells] at hu))) (cells_ones _) (by omega) ?_; intro w9 hown9 hgrow9; have hb9 : Below w.heap.size w0 w9 := grownB hgrow9 hs0 (Nat.le_refl _); have hbw9 := hb0.trans hb9; have HB9 := hid (At.laterB (HB.out.later hb0) hb9 (Nat.le_refl _)); simp only [Nat.add_zero, List.nil_append] at hown9)
    | (at_builtin; refine wpList_append_fits_any _ rfl (.tmp 80) (.tmp 83) 51 rfl w.heap.size 26 i0 2 Tryd.underlying51 hi hz1 w.heap.size 0 m.length _ rfl hown9 _ _ _ (cells m) rfl (by rw [cells_len]; try omega) (by intro h; first | exact ⟨rfl, rfl⟩ | cases h | (split at h <;> cases h)) (by have h := cells_src HB9.out (i := 0) (ao := some ⟨c, oft, none⟩) (fun _ => by simp); rw [List.drop_zero] at h; first | exact h | (intro ad had; first | exact h ad had | (intro j u hu; exfalso; have := (List.getElem?_eq_some_iff.1 hu).1; rw [cells_len] at this; omega))) (cells_ones _) (by omega) ?_; intro w10 hown10 hgrow10; have hb10 : Below w.heap.size w9 w10 := grownB hgrow10 hbw9.size (Nat.le_refl _)))
  all_goals go_ret
  all_goals exact ⟨_, rfl, own_of (l := m) (by first | exact hown10 | simpa [cells] using hown10), hbw9.trans hb10⟩
set_option maxHeartbeats 1000000 in
theorem joined_sn (l : List (Int × Int)) (b off : Nat) (len cap : Nat) (w : World) (hl : l.length = len) (h1 : len ≤ 1048576) (hlc : len ≤ cap) (hA : At w.heap.size (some ⟨b, off, none⟩) l w) :
    Calls Tryd.prog 50 #[.slice (some ⟨b, off, none⟩) len cap, .slice none 0 0] w fun e w' => ∃ v, e = .returned v ∧ Own w.heap.size v (mergeL l []) w' ∧ Below w.heap.size w w' := by
  subst hl
  rw [merge_nil_right]
  have HA := hid hA
  clear hA
  obtain ⟨i0, hi, hz0, hz1, hz2⟩ := info_parts info_pt
  have hj4 : (l.length : Int) ≤ (cap : Int) := by omega
  have hj5 : (0 : Int) ≤ (cap : Int) := by omega
  by_cases hcj : cap = 0
  all_goals by_cases hl0 : 0 < l.length
  all_goals go_enter Tryd.func50, Tryd.ntmps50
  all_goals go_wp2_with (at_make; refine wpList_make_own _ rfl _ _ 51 rfl w.heap.size 26 i0 _ 2 Tryd.underlying51 hi hz0 hz1 .i64 .i64 _ l.length rfl rfl (by omega) (by rw [hz2]; omega) (by unfold maxLen; omega) (Nat.le_refl _) ?_; intro w0 hown0 hgrow0; have hb0 := growNone hgrow0; clear hgrow0; have hs0 := hb0.size)
  all_goals refine wp_loop_rounds 1 ?_
  all_goals rw [rounds_succ]
  all_goals go_wp2_with (first
    | (at_builtin; refine wpList_append_fits_any _ rfl (.tmp 75) (.tmp 78) 51 rfl w.heap.size 26 i0 2 Tryd.underlying51 hi hz1 w.heap.size 0 l.length _ rfl hown0 _ _ _ (cells l) rfl (by rw [cells_len]; try omega) (by intro h; first | exact ⟨rfl, rfl⟩ | cases h | (split at h <;> cases h)) (by have h := cells_src (HA.out.later hb0) (i := 0) (ao := some ⟨b, off, none⟩) (fun _ => by simp); rw [List.drop_zero] at h; first | exact h | (intro ad had; first | exact h ad had | (intro j u hu; exfalso; have := (List.getElem?_eq_some_iff.1 hu).1; rw [cells_len] at this; omega))) (cells_ones _) (by omega) ?_; intro w9 hown9 hgrow9; have hb9 : Below w.heap.size w0 w9 := grownB hgrow9 hs0 (Nat.le_refl _); have hbw9 := hb0.trans hb9; simp only [Nat.zero_add, List.nil_append] at hown9)
    | (at_builtin; refine wpList_append_fits_any _ rfl (.tmp 80) (.tmp 83) 51 rfl w.heap.size 26 i0 2 Tryd.underlying51 hi hz1 w.heap.size _ l.length _ rfl hown9 _ _ _ (cells []) rfl rfl (by intro h; first | exact ⟨rfl, rfl⟩ | cases h | (split at h <;> cases h)) (by intro ad h; first | cases h | (split at h <;> (cases h; intro j u hu; simp [cells] at hu))) (cells_ones _) (by omega) ?_; intro w10 hown10 hgrow10; have hb10 : Below w.heap.size w9 w10 := grownB hgrow10 hbw9.size (Nat.le_refl _)))
  all_goals go_ret
  all_goals exact ⟨_, rfl, own_of (l := l) (by first | exact hown10 | simpa [cells] using hown10), hbw9.trans hb10⟩
set_option maxHeartbeats 1000000 in
theorem joined_nn (w : World) :
    Calls Tryd.prog 50 #[.slice none 0 0, .slice none 0 0] w fun e w' => ∃ v, e = .returned v ∧ Own w.heap.size v (mergeL [] []) w' ∧ Below w.heap.size w w' := by
  rw [merge_nil_left]
  obtain ⟨i0, hi, hz0, hz1, hz2⟩ := info_parts info_pt
  go_enter Tryd.func50, Tryd.ntmps50
  go_wp2_with (at_make; refine wpList_make_own _ rfl _ _ 51 rfl w.heap.size 26 i0 _ 2 Tryd.underlying51 hi hz0 hz1 .i64 .i64 _ 0 rfl rfl (by omega) (by rw [hz2]; omega) (by unfold maxLen; omega) (Nat.le_refl _) ?_; intro w0 hown0 hgrow0; have hb0 := growNone hgrow0; clear hgrow0; have hs0 := hb0.size)
  refine wp_loop_rounds 1 ?_
  rw [rounds_succ]
  go_wp2_with (first
    | (at_builtin; refine wpList_append_fits_any _ rfl (.tmp 75) (.tmp 78) 51 rfl w.heap.size 26 i0 2 Tryd.underlying51 hi hz1 w.heap.size 0 0 _ rfl hown0 _ _ _ (cells []) rfl rfl (by intro h; first | exact ⟨rfl, rfl⟩ | cases h | (split at h <;> cases h)) (by intro ad h; first | cases h | (split at h <;> (cases h; intro j u hu; simp [cells] at hu))) (cells_ones _) (by omega) ?_; intro w9 hown9 hgrow9; have hb9 : Below w.heap.size w0 w9 := grownB hgrow9 hs0 (Nat.le_refl _); have hbw9 := hb0.trans hb9; simp only [Nat.zero_add, List.nil_append] at hown9)
    | (at_builtin; refine wpList_append_fits_any _ rfl (.tmp 80) (.tmp 83) 51 rfl w.heap.size 26 i0 2 Tryd.underlying51 hi hz1 w.heap.size _ 0 _ rfl hown9 _ _ _ (cells []) rfl rfl (by intro h; first | exact ⟨rfl, rfl⟩ | cases h | (split at h <;> cases h)) (by intro ad h; first | cases h | (split at h <;> (cases h; intro j u hu; simp [cells] at hu))) (cells_ones _) (by omega) ?_; intro w10 hown10 hgrow10; have hb10 : Below w.heap.size w9 w10 := grownB hgrow10 hbw9.size (Nat.le_refl _)))
  go_ret
  exact ⟨_, rfl, own_of (l := []) (by first | exact hown10 | simpa [cells] using hown10), hbw9.trans hb10⟩
theorem joined_any (l m : List (Int × Int)) (a c : Option Addr) (len cap lem cam : Nat) (w : World) (hl : l.length = len) (hm : m.length = lem) (h1 : len ≤ 1048576) (h2 : lem ≤ 1048576) (hF : Fit a len cap) (hK : Fit c lem cam) (hA : At w.heap.size a l w) (hB : At w.heap.size c m w) :
    Calls Tryd.prog 50 #[.slice a len cap, .slice c lem cam] w fun e w' => ∃ v, e = .returned v ∧ Own w.heap.size v (mergeL l m) w' ∧ Below w.heap.size w w' := by
  rcases hF with ⟨rfl, rfl, rfl⟩ | ⟨⟨b, off, rfl⟩, hlc, _⟩
  · obtain rfl := List.eq_nil_of_length_eq_zero hl
    rcases hK with ⟨rfl, rfl, rfl⟩ | ⟨⟨c, oft, rfl⟩, hmc, _⟩
    · obtain rfl := List.eq_nil_of_length_eq_zero hm
      exact joined_nn w
    · exact joined_ns m c oft lem cam w hm h2 hmc hB
  · rcases hK with ⟨rfl, rfl, rfl⟩ | ⟨⟨c, oft, rfl⟩, hmc, _⟩
    · obtain rfl := List.eq_nil_of_length_eq_zero hm
      exact joined_sn l b off len cap w hl h1 hlc hA
    · exact joined_c l m b off c oft len cap lem cam w hl hm h1 h2 hlc hmc hA hB
set_option maxHeartbeats 1000000 in
theorem joinImpl_any (l m : List (Int × Int)) (a c : Option Addr) (len cap lem cam : Nat) (w : World) (hl : l.length = len) (hm : m.length = lem) (h1 : len ≤ 1048576) (h2 : lem ≤ 1048576) (hF : Fit a len cap) (hK : Fit c lem cam) (hA : At w.heap.size a l w) (hB : At w.heap.size c m w) (c0 : w.cell? ⟨0, 0, none⟩ = some (.int .i64 1000000)) :
    Calls Tryd.prog 27 #[.slice a len cap, .slice c lem cam] w fun e w' => ∃ v, e = .returned (.tuple #[v, .bool (joinOk l m)]) ∧ Own w.heap.size v (joinA l m) w' ∧ Below w.heap.size w w' := by
  subst hl hm
  have HA := hid hA
  have HB := hid hB
  have C0 := hid c0
  have HF := hid hF
  have HK := hid hK
  clear hA hB c0 hF hK
  have tk1 : True := trivial
  cases hG : goodL l
  · have e1 : joinOk l m = false := by rw [joinOk, hG]; rfl
    have e2 : joinA l m = [] := by rw [joinA, e1]; rfl
    rw [e1, e2]
    clear e1 e2
    go_enter Tryd.func27, Tryd.ntmps27
    go_wp2_with (go_at_call 10; clear tk1; refine (goodSetImpl_c l _ _ _ w rfl h1 HA.out C0.out).mono ?_; rintro e w1 ⟨rfl, hb1⟩)
    go_ret2
    exact ⟨_, rfl, Own.nil _ _, hb1⟩
  · cases hH : goodL m
    · have e1 : joinOk l m = false := by rw [joinOk, hG, hH]; rfl
      have e2 : joinA l m = [] := by rw [joinA, e1]; rfl
      rw [e1, e2]
      clear e1 e2
      go_enter Tryd.func27, Tryd.ntmps27
      go_wp2_with (first | (go_at_call 10; clear tk1; refine (goodSetImpl_c l _ _ _ w rfl h1 HA.out C0.out).mono ?_; rintro e w1 ⟨rfl, hb1⟩) | (go_at_call 10; refine (goodSetImpl_c m _ _ _ w1 rfl h2 ((HB.out.later hb1).mono hb1.size) (cell_later hb1 C0.out)).mono ?_; rintro e w2 ⟨rfl, hb2⟩; have hbw2 := grew hb1 hb2))
      go_ret2
      exact ⟨_, rfl, Own.nil _ _, hbw2⟩
    · have hff := from_few (goodL_few hG) (goodL_few hH)
      have HM := hid (merge_from (goodL_rises hG) (goodL_rises hH))
      by_cases h60 : (fromL (l ++ m)).length ≤ 60
      · have e1 : joinOk l m = true := by rw [joinOk, hG, hH, decide_eq_true h60]; rfl
        have e2 : joinA l m = fromL (l ++ m) := by rw [joinA, e1]; rfl
        rw [e1, e2]
        clear e1 e2
        have hq : ((fromL (l ++ m)).length : Int) ≤ 60 := by omega
        go_enter Tryd.func27, Tryd.ntmps27
        go_wp2_with (first | (go_at_call 10; clear tk1; refine (goodSetImpl_c l _ _ _ w rfl h1 HA.out C0.out).mono ?_; rintro e w1 ⟨rfl, hb1⟩) | (go_at_call 10; refine (goodSetImpl_c m _ _ _ w1 rfl h2 ((HB.out.later hb1).mono hb1.size) (cell_later hb1 C0.out)).mono ?_; rintro e w2 ⟨rfl, hb2⟩; have hbw2 := grew hb1 hb2) | (go_at_call 50; refine (joined_any l m _ _ _ _ _ _ w2 rfl rfl h1 h2 HF.out HK.out ((HA.out.later hbw2).mono hbw2.size) ((HB.out.later hbw2).mono hbw2.size)).mono ?_; rw [HM.out]; rintro e w5 ⟨v5, rfl, ho5, hb5⟩; obtain ⟨a5, p5, hv5⟩ := ho5.shape; subst hv5))
        go_ret2
        exact ⟨_, rfl, ho5.mono hbw2.size, grew hbw2 hb5⟩
      · have e1 : joinOk l m = false := by rw [joinOk, hG, hH, decide_eq_false h60]; rfl
        have e2 : joinA l m = [] := by rw [joinA, e1]; rfl
        rw [e1, e2]
        clear e1 e2
        have hq : (60 : Int) < ((fromL (l ++ m)).length : Int) := by omega
        go_enter Tryd.func27, Tryd.ntmps27
        go_wp2_with (first | (go_at_call 10; clear tk1; refine (goodSetImpl_c l _ _ _ w rfl h1 HA.out C0.out).mono ?_; rintro e w1 ⟨rfl, hb1⟩) | (go_at_call 10; refine (goodSetImpl_c m _ _ _ w1 rfl h2 ((HB.out.later hb1).mono hb1.size) (cell_later hb1 C0.out)).mono ?_; rintro e w2 ⟨rfl, hb2⟩; have hbw2 := grew hb1 hb2) | (go_at_call 50; refine (joined_any l m _ _ _ _ _ _ w2 rfl rfl h1 h2 HF.out HK.out ((HA.out.later hbw2).mono hbw2.size) ((HB.out.later hbw2).mono hbw2.size)).mono ?_; rw [HM.out]; rintro e w5 ⟨v5, rfl, ho5, hb5⟩; obtain ⟨a5, p5, hv5⟩ := ho5.shape; subst hv5))
        go_ret2
        exact ⟨_, rfl, Own.nil _ _, grew hbw2 hb5⟩
set_option maxHeartbeats 1000000 in
theorem joinSpec_s (l m : List (Int × Int)) (a : Option Addr) (c oft : Nat) (len cap lem cam : Nat) (w : World) (hl : l.length = len) (hm : m.length = lem) (h1 : len ≤ 1048576) (h2 : lem ≤ 1048576) (hF : Fit a len cap) (hA : At w.heap.size a l w) (hB : At w.heap.size (some ⟨c, oft, none⟩) m w) :
    Calls Tryd.prog 28 #[.slice a len cap, .slice (some ⟨c, oft, none⟩) lem cam] w fun e w' => ∃ v, e = .returned (.tuple #[v, .bool (joinOk l m)]) ∧ Own w.heap.size v (joinA l m) w' ∧ Below w.heap.size w w' := by
  subst hl hm
  have HA := hid hA
  have HB := hid hB
  have HF := hid hF
  clear hA hB hF
  have tk1 : True := trivial
  cases hG : goodL l
  · have e1 : joinOk l m = false := by rw [joinOk, hG]; rfl
    have e2 : joinA l m = [] := by rw [joinA, e1]; rfl
    rw [e1, e2]
    clear e1 e2
    go_enter Tryd.func28, Tryd.ntmps28
    go_wp2_with (go_at_call 36; clear tk1; refine (l2Good_c l _ _ _ w rfl h1 HA.out).mono ?_; rintro e w1 ⟨rfl, hb1⟩)
    go_ret2
    exact ⟨_, rfl, Own.nil _ _, hb1⟩
  · cases hH : goodL m
    · have e1 : joinOk l m = false := by rw [joinOk, hG, hH]; rfl
      have e2 : joinA l m = [] := by rw [joinA, e1]; rfl
      rw [e1, e2]
      clear e1 e2
      go_enter Tryd.func28, Tryd.ntmps28
      go_wp2_with (first | (go_at_call 36; clear tk1; refine (l2Good_c l _ _ _ w rfl h1 HA.out).mono ?_; rintro e w1 ⟨rfl, hb1⟩) | (go_at_call 36; refine (l2Good_c m _ _ _ w1 rfl h2 ((HB.out.later hb1).mono hb1.size)).mono ?_; rintro e w2 ⟨rfl, hb2⟩; have hbw2 := grew hb1 hb2))
      go_ret2
      exact ⟨_, rfl, Own.nil _ _, hbw2⟩
    · have hlf := goodL_few hG
      have hmf := goodL_few hH
      have hff := from_few hlf hmf
      obtain ⟨i0, hi, hz0, hz1, hz2⟩ := info_parts info_pt
      by_cases h60 : (fromL (l ++ m)).length ≤ 60
      · have e1 : joinOk l m = true := by rw [joinOk, hG, hH, decide_eq_true h60]; rfl
        have e2 : joinA l m = fromL (l ++ m) := by rw [joinA, e1]; rfl
        rw [e1, e2]
        clear e1 e2
        have hq : ((fromL (l ++ m)).length : Int) ≤ 60 := by omega
        go_enter Tryd.func28, Tryd.ntmps28
        go_wp2_with (first | (go_at_call 36; clear tk1; refine (l2Good_c l _ _ _ w rfl h1 HA.out).mono ?_; rintro e w1 ⟨rfl, hb1⟩) | (go_at_call 36; refine (l2Good_c m _ _ _ w1 rfl h2 ((HB.out.later hb1).mono hb1.size)).mono ?_; rintro e w2 ⟨rfl, hb2⟩; have hbw2 := grew hb1 hb2) | (go_at_call 51; refine (l2Own_c l _ _ _ w2 rfl h1 HF.out ((HA.out.later hbw2).mono hbw2.size)).mono ?_; rintro e w3 ⟨v3, rfl, ho3, hb3⟩; have hbw3 := grew hbw2 hb3; have HB3 := hid (HB.out.later hbw3)) | (at_builtin; refine wpList_append_own _ rfl (.tmp 16) (.tmp 17) 24 rfl w2.heap.size 26 i0 _ 2 16 Tryd.underlying24 hi hz0 hz1 hz2 rfl (by decide) _ _ _ rfl (row_of ho3) _ _ _ (cells m) rfl (cells_len m) (fun j u hu => cells_all HB3.out _ rfl j u hu) (cells_ones _) (by unfold maxLen; omega) (by omega) hb3.size ?_; intro v4 w4 hown4 hgrow4 _; have hb34 : Below w2.heap.size w2 w4 := hb3.grown hgrow4 hb3.size (fun q hq => ((row_of ho3).lt q hq).1); have ho4 : Own w2.heap.size v4 (l ++ m) w4 := own_of (by rw [cells_append]; exact hown4); obtain ⟨a4, p4, hv4⟩ := ho4.shape; rw [List.length_append] at hv4; subst hv4; have hbw4 := hbw2.trans (hb34.mono hbw2.size); clear hown4 hgrow4) | (go_at_call 47; refine (l2From_c (l ++ m) _ (l.length + m.length) _ w4 List.length_append (by omega) ho4.at).mono ?_; rintro e w5 ⟨v5, rfl, ho5, hb5⟩; obtain ⟨a5, p5, hv5⟩ := ho5.shape; subst hv5))
        go_ret2
        exact ⟨_, rfl, ho5.mono hbw4.size, grew hbw4 hb5⟩
      · have e1 : joinOk l m = false := by rw [joinOk, hG, hH, decide_eq_false h60]; rfl
        have e2 : joinA l m = [] := by rw [joinA, e1]; rfl
        rw [e1, e2]
        clear e1 e2
        have hq : (60 : Int) < ((fromL (l ++ m)).length : Int) := by omega
        go_enter Tryd.func28, Tryd.ntmps28
        go_wp2_with (first | (go_at_call 36; clear tk1; refine (l2Good_c l _ _ _ w rfl h1 HA.out).mono ?_; rintro e w1 ⟨rfl, hb1⟩) | (go_at_call 36; refine (l2Good_c m _ _ _ w1 rfl h2 ((HB.out.later hb1).mono hb1.size)).mono ?_; rintro e w2 ⟨rfl, hb2⟩; have hbw2 := grew hb1 hb2) | (go_at_call 51; refine (l2Own_c l _ _ _ w2 rfl h1 HF.out ((HA.out.later hbw2).mono hbw2.size)).mono ?_; rintro e w3 ⟨v3, rfl, ho3, hb3⟩; have hbw3 := grew hbw2 hb3; have HB3 := hid (HB.out.later hbw3)) | (at_builtin; refine wpList_append_own _ rfl (.tmp 16) (.tmp 17) 24 rfl w2.heap.size 26 i0 _ 2 16 Tryd.underlying24 hi hz0 hz1 hz2 rfl (by decide) _ _ _ rfl (row_of ho3) _ _ _ (cells m) rfl (cells_len m) (fun j u hu => cells_all HB3.out _ rfl j u hu) (cells_ones _) (by unfold maxLen; omega) (by omega) hb3.size ?_; intro v4 w4 hown4 hgrow4 _; have hb34 : Below w2.heap.size w2 w4 := hb3.grown hgrow4 hb3.size (fun q hq => ((row_of ho3).lt q hq).1); have ho4 : Own w2.heap.size v4 (l ++ m) w4 := own_of (by rw [cells_append]; exact hown4); obtain ⟨a4, p4, hv4⟩ := ho4.shape; rw [List.length_append] at hv4; subst hv4; have hbw4 := hbw2.trans (hb34.mono hbw2.size); clear hown4 hgrow4) | (go_at_call 47; refine (l2From_c (l ++ m) _ (l.length + m.length) _ w4 List.length_append (by omega) ho4.at).mono ?_; rintro e w5 ⟨v5, rfl, ho5, hb5⟩; obtain ⟨a5, p5, hv5⟩ := ho5.shape; subst hv5))
        go_ret2
        exact ⟨_, rfl, Own.nil _ _, grew hbw4 hb5⟩
set_option maxHeartbeats 1000000 in
theorem joinSpec_n (l : List (Int × Int)) (a : Option Addr) (len cap : Nat) (w : World) (hl : l.length = len) (h1 : len ≤ 1048576) (hF : Fit a len cap) (hA : At w.heap.size a l w) :
    Calls Tryd.prog 28 #[.slice a len cap, .slice none 0 0] w fun e w' => ∃ v, e = .returned (.tuple #[v, .bool (joinOk l [])]) ∧ Own w.heap.size v (joinA l []) w' ∧ Below w.heap.size w w' := by
  subst hl
  have HA := hid hA
  have HF := hid hF
  clear hA hF
  have tk1 : True := trivial
  have hN : goodL [] = true := rfl
  obtain ⟨i0, hi, hz0, hz1, hz2⟩ := info_parts info_pt
  cases hG : goodL l
  · have e1 : joinOk l [] = false := by rw [joinOk, hG]; rfl
    have e2 : joinA l [] = [] := by rw [joinA, e1]; rfl
    rw [e1, e2]
    clear e1 e2
    go_enter Tryd.func28, Tryd.ntmps28
    go_wp2_with (go_at_call 36; clear tk1; refine (l2Good_c l _ _ _ w rfl h1 HA.out).mono ?_; rintro e w1 ⟨rfl, hb1⟩)
    go_ret2
    exact ⟨_, rfl, Own.nil _ _, hb1⟩
  · have hlf := goodL_few hG
    have hfl := fromL_len l l.length (Nat.le_refl _)
    rw [List.take_length] at hfl
    have h60 : (fromL l).length ≤ 60 := by omega
    have e1 : joinOk l [] = true := by rw [joinOk, hG, hN, List.append_nil, decide_eq_true h60]; rfl
    have e2 : joinA l [] = fromL l := by rw [joinA, e1, List.append_nil]; rfl
    rw [e1, e2]
    clear e1 e2
    have hq : ((fromL l).length : Int) ≤ 60 := by omega
    go_enter Tryd.func28, Tryd.ntmps28
    go_wp2_with (first
      | (go_at_call 36; clear tk1; refine (l2Good_c l _ _ _ w rfl h1 HA.out).mono ?_; rintro e w1 ⟨rfl, hb1⟩)
      | (go_at_call 36; refine (l2Good_c [] _ _ _ w1 rfl (Nat.zero_le _) (at_nil _ _ _)).mono ?_; rw [hN]; rintro e w2 ⟨rfl, hb2⟩; have hbw2 := grew hb1 hb2)
      | (go_at_call 51; refine (l2Own_c l _ _ _ w2 rfl h1 HF.out ((HA.out.later hbw2).mono hbw2.size)).mono ?_; rintro e w3 ⟨v3, rfl, ho3, hb3⟩; obtain ⟨a3, p3, hv3⟩ := ho3.shape; subst hv3; have hbw3 := grew hbw2 hb3)
      | (at_builtin; refine wpList_append_own_none rfl (.tmp 16) (.tmp 17) 24 rfl w2.heap.size 26 i0 2 Tryd.underlying24 hi _ _ _ rfl (row_of ho3) rfl ?_)
      | (go_at_call 47; refine (l2From_c l _ _ _ w3 rfl h1 ho3.at).mono ?_; rintro e w5 ⟨v5, rfl, ho5, hb5⟩; obtain ⟨a5, p5, hv5⟩ := ho5.shape; subst hv5))
    go_ret2
    exact ⟨_, rfl, ho5.mono hbw3.size, grew hbw3 hb5⟩
theorem joinSpec_any (l m : List (Int × Int)) (a c : Option Addr) (len cap lem cam : Nat) (w : World) (hl : l.length = len) (hm : m.length = lem) (h1 : len ≤ 1048576) (h2 : lem ≤ 1048576) (hF : Fit a len cap) (hK : Fit c lem cam) (hA : At w.heap.size a l w) (hB : At w.heap.size c m w) :
    Calls Tryd.prog 28 #[.slice a len cap, .slice c lem cam] w fun e w' => ∃ v, e = .returned (.tuple #[v, .bool (joinOk l m)]) ∧ Own w.heap.size v (joinA l m) w' ∧ Below w.heap.size w w' := by
  rcases hK with ⟨rfl, rfl, rfl⟩ | ⟨⟨c, oft, rfl⟩, hmc, _⟩
  · obtain rfl := List.eq_nil_of_length_eq_zero hm
    exact joinSpec_n l a len cap w hl h1 hF hA
  · exact joinSpec_s l m a c oft len cap lem cam w hl hm h1 h2 hF hA hB
end Go.Proofs.YtfhlgdngmdlakaaDoor
