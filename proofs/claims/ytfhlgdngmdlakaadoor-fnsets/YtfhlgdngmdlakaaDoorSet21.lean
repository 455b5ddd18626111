/-
  What JoinSets answers, in the specification and in the program (contracts for the walks).
  Conditions: as each theorem states them.
-/
import Derived.Test.YtfhlgdngmdlakaaDoorSet20
namespace Go.Proofs.YtfhlgdngmdlakaaDoor
open Go.RowKit
set_option linter.unusedVariables false
def joinOk (l m : List (Int × Int)) : Bool := goodL l && (goodL m && decide ((fromL (l ++ m)).length ≤ 60))
def joinA (l m : List (Int × Int)) : List (Int × Int) := if joinOk l m then fromL (l ++ m) else []
theorem joinA_len (l m : List (Int × Int)) : (joinA l m).length ≤ 1048576 := by
  unfold joinA
  split
  · rename_i e
    rw [joinOk, Bool.and_eq_true, Bool.and_eq_true] at e
    have := of_decide_eq_true e.2.2
    omega
  · exact Nat.zero_le _
theorem from_few {l m : List (Int × Int)} (h1 : l.length ≤ 60) (h2 : m.length ≤ 60) : (fromL (l ++ m)).length ≤ 120 := by
  have := fromL_len (l ++ m) (l ++ m).length (Nat.le_refl _)
  rw [List.take_length, List.length_append] at this
  omega
set_option maxHeartbeats 1000000 in
theorem joinSpec_c (l m : List (Int × Int)) (b off c oft : Nat) (len cap lem cam : Nat) (w : World) (hl : l.length = len) (hm : m.length = lem) (h1 : len ≤ 1048576) (h2 : lem ≤ 1048576) (hlc : len ≤ cap) (hcm : cap ≤ maxLen) (hA : At w.heap.size (some ⟨b, off, none⟩) l w) (hB : At w.heap.size (some ⟨c, oft, none⟩) m w) :
    Calls Tryd.prog 28 #[.slice (some ⟨b, off, none⟩) len cap, .slice (some ⟨c, oft, none⟩) lem cam] w fun e w' => ∃ v, e = .returned (.tuple #[v, .bool (joinOk l m)]) ∧ Own w.heap.size v (joinA l m) w' ∧ Below w.heap.size w w' := by
  subst hl hm
  have HA := hid hA
  have HB := hid hB
  have HF : Hid (Fit (some ⟨b, off, none⟩) l.length cap) := hid (.inr ⟨⟨b, off, rfl⟩, hlc, hcm⟩)
  clear hA hB
  have tk1 : True := trivial
  cases hG : goodL l
  · have e1 : joinOk l m = false := by rw [joinOk, hG]; rfl
    have e2 : joinA l m = [] := by rw [joinA, e1]; rfl
    rw [e1, e2]
    clear e1 e2
    go_enter Tryd.func28, Tryd.ntmps28
    go_wp2_with (go_at_call 36; clear tk1; refine (l2Good_c l _ _ _ w rfl h1 HA.out).mono ?_; rintro e w1 ⟨rfl, hb1⟩)
    go_ret2
    exact ⟨_, rfl, Own.nil _ _, hb1⟩
  · cases hH : goodL m
    · have e1 : joinOk l m = false := by rw [joinOk, hG, hH]; rfl
      have e2 : joinA l m = [] := by rw [joinA, e1]; rfl
      rw [e1, e2]
      clear e1 e2
      go_enter Tryd.func28, Tryd.ntmps28
      go_wp2_with (first | (go_at_call 36; clear tk1; refine (l2Good_c l _ _ _ w rfl h1 HA.out).mono ?_; rintro e w1 ⟨rfl, hb1⟩) | (go_at_call 36; refine (l2Good_c m _ _ _ w1 rfl h2 ((HB.out.later hb1).mono hb1.size)).mono ?_; rintro e w2 ⟨rfl, hb2⟩; have hbw2 := grew hb1 hb2))
      go_ret2
      exact ⟨_, rfl, Own.nil _ _, hbw2⟩
    · have hlf := goodL_few hG
      have hmf := goodL_few hH
      have hff := from_few hlf hmf
      obtain ⟨i0, hi, hz0, hz1, hz2⟩ := info_parts info_pt
      by_cases h60 : (fromL (l ++ m)).length ≤ 60
      · have e1 : joinOk l m = true := by rw [joinOk, hG, hH, decide_eq_true h60]; rfl
        have e2 : joinA l m = fromL (l ++ m) := by rw [joinA, e1]; rfl
        rw [e1, e2]
        clear e1 e2
        have hq : ((fromL (l ++ m)).length : Int) ≤ 60 := by omega
        go_enter Tryd.func28, Tryd.ntmps28
        go_wp2_with (first | (go_at_call 36; clear tk1; refine (l2Good_c l _ _ _ w rfl h1 HA.out).mono ?_; rintro e w1 ⟨rfl, hb1⟩) | (go_at_call 36; refine (l2Good_c m _ _ _ w1 rfl h2 ((HB.out.later hb1).mono hb1.size)).mono ?_; rintro e w2 ⟨rfl, hb2⟩; have hbw2 := grew hb1 hb2) | (go_at_call 51; refine (l2Own_c l _ _ _ w2 rfl h1 HF.out ((HA.out.later hbw2).mono hbw2.size)).mono ?_; rintro e w3 ⟨v3, rfl, ho3, hb3⟩; have hbw3 := grew hbw2 hb3; have HB3 := hid (HB.out.later hbw3)) | (at_builtin; refine wpList_append_own _ rfl (.tmp 16) (.tmp 17) 24 rfl w2.heap.size 26 i0 _ 2 16 Tryd.underlying24 hi hz0 hz1 hz2 rfl (by decide) _ _ _ rfl (row_of ho3) _ _ _ (cells m) rfl (cells_len m) (fun j u hu => cells_all HB3.out _ rfl j u hu) (cells_ones _) (by unfold maxLen; omega) (by omega) hb3.size ?_; intro v4 w4 hown4 hgrow4 _; have hb34 : Below w2.heap.size w2 w4 := hb3.grown hgrow4 hb3.size (fun q hq => ((row_of ho3).lt q hq).1); have ho4 : Own w2.heap.size v4 (l ++ m) w4 := own_of (by rw [cells_append]; exact hown4); obtain ⟨a4, p4, hv4⟩ := ho4.shape; rw [List.length_append] at hv4; subst hv4; have hbw4 := hbw2.trans (hb34.mono hbw2.size); clear hown4 hgrow4) | (go_at_call 47; refine (l2From_c (l ++ m) _ (l.length + m.length) _ w4 List.length_append (by omega) ho4.at).mono ?_; rintro e w5 ⟨v5, rfl, ho5, hb5⟩; obtain ⟨a5, p5, hv5⟩ := ho5.shape; subst hv5))
        go_ret2
        exact ⟨_, rfl, ho5.mono hbw4.size, grew hbw4 hb5⟩
      · have e1 : joinOk l m = false := by rw [joinOk, hG, hH, decide_eq_false h60]; rfl
        have e2 : joinA l m = [] := by rw [joinA, e1]; rfl
        rw [e1, e2]
        clear e1 e2
        have hq : (60 : Int) < ((fromL (l ++ m)).length : Int) := by omega
        go_enter Tryd.func28, Tryd.ntmps28
        go_wp2_with (first | (go_at_call 36; clear tk1; refine (l2Good_c l _ _ _ w rfl h1 HA.out).mono ?_; rintro e w1 ⟨rfl, hb1⟩) | (go_at_call 36; refine (l2Good_c m _ _ _ w1 rfl h2 ((HB.out.later hb1).mono hb1.size)).mono ?_; rintro e w2 ⟨rfl, hb2⟩; have hbw2 := grew hb1 hb2) | (go_at_call 51; refine (l2Own_c l _ _ _ w2 rfl h1 HF.out ((HA.out.later hbw2).mono hbw2.size)).mono ?_; rintro e w3 ⟨v3, rfl, ho3, hb3⟩; have hbw3 := grew hbw2 hb3; have HB3 := hid (HB.out.later hbw3)) | (at_builtin; refine wpList_append_own _ rfl (.tmp 16) (.tmp 17) 24 rfl w2.heap.size 26 i0 _ 2 16 Tryd.underlying24 hi hz0 hz1 hz2 rfl (by decide) _ _ _ rfl (row_of ho3) _ _ _ (cells m) rfl (cells_len m) (fun j u hu => cells_all HB3.out _ rfl j u hu) (cells_ones _) (by unfold maxLen; omega) (by omega) hb3.size ?_; intro v4 w4 hown4 hgrow4 _; have hb34 : Below w2.heap.size w2 w4 := hb3.grown hgrow4 hb3.size (fun q hq => ((row_of ho3).lt q hq).1); have ho4 : Own w2.heap.size v4 (l ++ m) w4 := own_of (by rw [cells_append]; exact hown4); obtain ⟨a4, p4, hv4⟩ := ho4.shape; rw [List.length_append] at hv4; subst hv4; have hbw4 := hbw2.trans (hb34.mono hbw2.size); clear hown4 hgrow4) | (go_at_call 47; refine (l2From_c (l ++ m) _ (l.length + m.length) _ w4 List.length_append (by omega) ho4.at).mono ?_; rintro e w5 ⟨v5, rfl, ho5, hb5⟩; obtain ⟨a5, p5, hv5⟩ := ho5.shape; subst hv5))
        go_ret2
        exact ⟨_, rfl, Own.nil _ _, grew hbw4 hb5⟩
set_option maxHeartbeats 1000000 in
theorem joinImpl_c (l m : List (Int × Int)) (b off c oft : Nat) (len cap lem cam : Nat) (w : World) (hl : l.length = len) (hm : m.length = lem) (h1 : len ≤ 1048576) (h2 : lem ≤ 1048576) (hlc : len ≤ cap) (hmc : lem ≤ cam) (hA : At w.heap.size (some ⟨b, off, none⟩) l w) (hB : At w.heap.size (some ⟨c, oft, none⟩) m w) (c0 : w.cell? ⟨0, 0, none⟩ = some (.int .i64 1000000)) :
    Calls Tryd.prog 27 #[.slice (some ⟨b, off, none⟩) len cap, .slice (some ⟨c, oft, none⟩) lem cam] w fun e w' => ∃ v, e = .returned (.tuple #[v, .bool (joinOk l m)]) ∧ Own w.heap.size v (joinA l m) w' ∧ Below w.heap.size w w' := by
  subst hl hm
  have HA := hid hA
  have HB := hid hB
  have C0 := hid c0
  clear hA hB c0
  have tk1 : True := trivial
  cases hG : goodL l
  · have e1 : joinOk l m = false := by rw [joinOk, hG]; rfl
    have e2 : joinA l m = [] := by rw [joinA, e1]; rfl
    rw [e1, e2]
    clear e1 e2
    go_enter Tryd.func27, Tryd.ntmps27
    go_wp2_with (go_at_call 10; clear tk1; refine (goodSetImpl_c l _ _ _ w rfl h1 HA.out C0.out).mono ?_; rintro e w1 ⟨rfl, hb1⟩)
    go_ret2
    exact ⟨_, rfl, Own.nil _ _, hb1⟩
  · cases hH : goodL m
    · have e1 : joinOk l m = false := by rw [joinOk, hG, hH]; rfl
      have e2 : joinA l m = [] := by rw [joinA, e1]; rfl
      rw [e1, e2]
      clear e1 e2
      go_enter Tryd.func27, Tryd.ntmps27
      go_wp2_with (first | (go_at_call 10; clear tk1; refine (goodSetImpl_c l _ _ _ w rfl h1 HA.out C0.out).mono ?_; rintro e w1 ⟨rfl, hb1⟩) | (go_at_call 10; refine (goodSetImpl_c m _ _ _ w1 rfl h2 ((HB.out.later hb1).mono hb1.size) (cell_later hb1 C0.out)).mono ?_; rintro e w2 ⟨rfl, hb2⟩; have hbw2 := grew hb1 hb2))
      go_ret2
      exact ⟨_, rfl, Own.nil _ _, hbw2⟩
    · have hff := from_few (goodL_few hG) (goodL_few hH)
      have HM := hid (merge_from (goodL_rises hG) (goodL_rises hH))
      by_cases h60 : (fromL (l ++ m)).length ≤ 60
      · have e1 : joinOk l m = true := by rw [joinOk, hG, hH, decide_eq_true h60]; rfl
        have e2 : joinA l m = fromL (l ++ m) := by rw [joinA, e1]; rfl
        rw [e1, e2]
        clear e1 e2
        have hq : ((fromL (l ++ m)).length : Int) ≤ 60 := by omega
        go_enter Tryd.func27, Tryd.ntmps27
        go_wp2_with (first | (go_at_call 10; clear tk1; refine (goodSetImpl_c l _ _ _ w rfl h1 HA.out C0.out).mono ?_; rintro e w1 ⟨rfl, hb1⟩) | (go_at_call 10; refine (goodSetImpl_c m _ _ _ w1 rfl h2 ((HB.out.later hb1).mono hb1.size) (cell_later hb1 C0.out)).mono ?_; rintro e w2 ⟨rfl, hb2⟩; have hbw2 := grew hb1 hb2) | (go_at_call 50; refine (joined_c l m _ _ _ _ _ _ _ _ w2 rfl rfl h1 h2 hlc hmc ((HA.out.later hbw2).mono hbw2.size) ((HB.out.later hbw2).mono hbw2.size)).mono ?_; rw [HM.out]; rintro e w5 ⟨v5, rfl, ho5, hb5⟩; obtain ⟨a5, p5, hv5⟩ := ho5.shape; subst hv5))
        go_ret2
        exact ⟨_, rfl, ho5.mono hbw2.size, grew hbw2 hb5⟩
      · have e1 : joinOk l m = false := by rw [joinOk, hG, hH, decide_eq_false h60]; rfl
        have e2 : joinA l m = [] := by rw [joinA, e1]; rfl
        rw [e1, e2]
        clear e1 e2
        have hq : (60 : Int) < ((fromL (l ++ m)).length : Int) := by omega
        go_enter Tryd.func27, Tryd.ntmps27
        go_wp2_with (first | (go_at_call 10; clear tk1; refine (goodSetImpl_c l _ _ _ w rfl h1 HA.out C0.out).mono ?_; rintro e w1 ⟨rfl, hb1⟩) | (go_at_call 10; refine (goodSetImpl_c m _ _ _ w1 rfl h2 ((HB.out.later hb1).mono hb1.size) (cell_later hb1 C0.out)).mono ?_; rintro e w2 ⟨rfl, hb2⟩; have hbw2 := grew hb1 hb2) | (go_at_call 50; refine (joined_c l m _ _ _ _ _ _ _ _ w2 rfl rfl h1 h2 hlc hmc ((HA.out.later hbw2).mono hbw2.size) ((HB.out.later hbw2).mono hbw2.size)).mono ?_; rw [HM.out]; rintro e w5 ⟨v5, rfl, ho5, hb5⟩; obtain ⟨a5, p5, hv5⟩ := ho5.shape; subst hv5))
        go_ret2
        exact ⟨_, rfl, Own.nil _ _, grew hbw2 hb5⟩
end Go.Proofs.YtfhlgdngmdlakaaDoor
