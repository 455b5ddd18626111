/-
  The walk of the law FnMovedSets.
  Conditions: as the theorems state them.
-/
import Derived.Test.YtfhlgdngmdlakaaDoorDrawS
import Derived.Test.YtfhlgdngmdlakaaDoorSet22
import Derived.Test.YtfhlgdngmdlakaaDoorSet18
import Derived.Test.YtfhlgdngmdlakaaDoorSet9
namespace Go.Proofs.YtfhlgdngmdlakaaDoor
open Go.RowKit
set_option linter.unusedVariables false
theorem big_c (a0 : Option Addr) (len0 cap0 : Nat) (a1 : Option Addr) (len1 cap1 : Nat) (w : World) (h : len0 + len1 ≤ 1048576) :
    Calls Tryd.prog 5 #[.slice a0 len0 cap0, .slice a1 len1 cap1] w fun e w' => e = .returned (.bool false) ∧ w = w' := by
  have h0 : ¬ (1048576 : Int) < (len0 : Int) := by omega
  have h1 : ¬ (1048576 : Int) - (len0 : Int) < (len1 : Int) := by omega
  go_enter Tryd.func5, Tryd.ntmps5
  go_wp2
  go_ret
  exact ⟨rfl, rfl⟩
theorem big_t (a0 : Option Addr) (len0 cap0 : Nat) (a1 : Option Addr) (len1 cap1 : Nat) (w : World) (m0 : len0 ≤ maxLen) (m1 : len1 ≤ maxLen) (h : ¬ len0 + len1 ≤ 1048576) :
    Calls Tryd.prog 5 #[.slice a0 len0 cap0, .slice a1 len1 cap1] w fun e w' => e = .returned (.bool true) ∧ w = w' := by
  unfold maxLen at m0 m1
  by_cases h0 : (1048576 : Int) < (len0 : Int)
  · go_enter Tryd.func5, Tryd.ntmps5
    go_wp2
    go_ret
    exact ⟨rfl, rfl⟩
  · have h1 : (1048576 : Int) - (len0 : Int) < (len1 : Int) := by omega
    go_enter Tryd.func5, Tryd.ntmps5
    go_wp2
    go_ret
    exact ⟨rfl, rfl⟩
theorem turnA_good {l : List (Int × Int)} (h : goodL l = true) : turnA l = turn1 l := by rw [turnA, h]; rfl
def turnN : Nat → List (Int × Int) → List (Int × Int)
  | 0, l => l
  | k + 1, l => turn1 (turnN k l)
theorem good_turnN {l : List (Int × Int)} (h : goodL l = true) : ∀ k, goodL (turnN k l) = true ∧ (turnN k l).length = l.length := by
  intro k
  induction k with
  | zero => exact ⟨h, rfl⟩
  | succ k ih =>
    have := turn_one ih.1
    exact ⟨this.1, this.2.trans ih.2⟩
theorem turnN_four {l : List (Int × Int)} (h : goodL l = true) : turnN (3 + 1) l = l := turn_four h
theorem mov_good {l : List (Int × Int)} {x y : Int} (h : movOk l x y = true) : goodB x y = true := by
  rw [movOk, Bool.and_eq_true, Bool.and_eq_true] at h
  exact h.1.2
theorem moveBack_c {l : List (Int × Int)} {x y : Int} (h : movOk l x y = true) (a : Option Addr) (len cap : Nat) (w : World) (hl : (moveL l x y).length = len) (h1 : len ≤ 1048576) (hA : At w.heap.size a (moveL l x y) w) (c0 : w.cell? ⟨0, 0, none⟩ = some (.int .i64 1000000)) :
    Calls Tryd.prog 22 #[.slice a len cap, .agg #[.int .i64 (-x), .int .i64 (-y)]] w fun e w' => ∃ v, e = .returned (.tuple #[v, .bool true]) ∧ Own w.heap.size v l w' ∧ Below w.heap.size w w' := by
  have k := moveImpl_c (moveL l x y) (-x) (-y) a len cap w hl h1 hA c0
  rw [(mov_back h).1, (mov_back h).2] at k
  exact k
set_option maxRecDepth 4000 in
set_option maxHeartbeats 4000000 in
theorem moved_walk (a0 : Option Addr) (len0 cap0 : Nat) (a1 : Option Addr) (len1 cap1 : Nat) (w : World) (B0 : Bytes w.heap.size a0 len0 w) (B1 : Bytes w.heap.size a1 len1 w) (m0 : len0 ≤ maxLen) (m1 : len1 ≤ maxLen) (c0 : w.cell? ⟨0, 0, none⟩ = some (.int .i64 1000000)) :
    Calls Tryd.prog 4 #[.slice a0 len0 cap0, .slice a1 len1 cap1] w fun e w' => e = .returned (.bool true) ∧ Below w.heap.size w w' := by
  have C0 := hid c0
  have HB0 := hid B0
  have HB1 := hid B1
  clear c0 B0 B1
  by_cases hl : len0 + len1 ≤ 1048576
  · have l0 : len0 ≤ 1048576 := by omega
    have l1 : len1 ≤ 1048576 := by omega
    clear m0 m1
    go_enter Tryd.func4, Tryd.ntmps4
    go_upto_region 4 with (first
      | (go_at_call 5; refine (big_c _ _ _ _ _ _ _ hl).mono ?_; rintro e w' ⟨rfl, rfl⟩)
      | (go_at_call 21; refine (drawMoveSet_c _ _ _ _ HB0.out l0).mono ?_; rintro e w1 ⟨v1, x, y, rfl, l, ho1, hl1, hb1⟩; obtain ⟨av, pv, hvv⟩ := ho1.shape; subst hvv))
    have r0 := box0 w1 x y 26
    have r1 := box1 w1 x y 26
    have hbB : Below w.heap.size w (w1.alloc (.cells #[.int .i64 x, .int .i64 y] 26)) := grew hb1 (by go_grown)
    have hoB := ho1.later (by go_grown : Below w1.heap.size w1 (w1.alloc (.cells #[.int .i64 x, .int .i64 y] 26)))
    have hle : w1.heap.size < (w1.alloc (.cells #[.int .i64 x, .int .i64 y] 26)).heap.size := World.block_lt_of_cell? _ _ r0
    generalize w1.alloc (.cells #[.int .i64 x, .int .i64 y] 26) = wB at r0 r1 hbB hoB hle ⊢
    clear ho1
    have hlm : l.length ≤ 1048576 := by omega
    have t1 : True := trivial
    have t2 : True := trivial
    have t3 : True := trivial
    have t4 : True := trivial
    have t5 : True := trivial
    have t6 : True := trivial
    have t7 : True := trivial
    have t8 : True := trivial
    cases hG : goodL l
    · have hM : movOk l x y = false := by rw [movOk, hG]; rfl
      have hmR : movR l x y = [] := by rw [movR, hM]; rfl
      have htR : turnA l = [] := by rw [turnA, hG]; rfl
      have hMl : ([] : List (Int × Int)).length ≤ 1048576 := Nat.zero_le _
      have hTl := hMl
      go_wp2_with (first
        | (go_at_call 22; clear t1; refine (moveImpl_c l x y _ _ _ wB rfl hlm hoB.at (cell_later hbB C0.out)).mono ?_; rw [hM, hmR]; rintro e w2 ⟨v2, rfl, ho2, hb2⟩; obtain ⟨a2, p2, hv2⟩ := ho2.shape; subst hv2; have r20 := cell_later hb2 r0; have r21 := cell_later hb2 r1; have hc2 := grew hbB hb2)
        | (go_at_call 23; refine (moveSpec_c l x y _ _ _ w2 rfl hlm (hoB.later hb2).at).mono ?_; rw [hM, hmR]; rintro e w3 ⟨v3, rfl, ho3, hb3⟩; obtain ⟨a3, p3, hv3⟩ := ho3.shape; subst hv3; have hB3 := grew hb2 hb3; have hc3 := grew hbB hB3)
        | (go_at_call 24; clear t2; refine (turnImpl_c l _ _ _ w3 rfl hlm (hoB.later hB3).at (cell_later hc3 C0.out)).mono ?_; rw [hG, htR]; rintro e w4 ⟨v4, rfl, ho4, hb4⟩; obtain ⟨a4, p4, hv4⟩ := ho4.shape; subst hv4; have hB4 := grew hB3 hb4)
        | (go_at_call 25; refine (turnSpec_c l _ _ _ w4 rfl hlm (hoB.later hB4).at).mono ?_; rw [hG, htR]; rintro e w5 ⟨v5, rfl, ho5, hb5⟩; obtain ⟨a5, p5, hv5⟩ := ho5.shape; subst hv5; have hB5 := grew hB4 hb5; have hq2 := ho2.later (grew hb3 (grew hb4 hb5)); have hq3 := ho3.later (grew hb4 hb5); have hq4 := ho4.later hb5)
        | (go_at_call 9; clear t3; refine (same_c [] [] _ _ _ _ _ _ w5 rfl rfl hMl hMl hq2.at hq3.at).mono ?_; rintro e w6 ⟨rfl, hb6⟩; have hB6 := grew hB5 hb6; have hq24 := hq4.later hb6; have hq25 := ho5.later hb6)
        | (go_at_call 9; clear t4; refine (same_c [] [] _ _ _ _ _ _ w6 rfl rfl hTl hTl hq24.at hq25.at).mono ?_; rintro e w7 ⟨rfl, hb7⟩; have hB7 := grew hB6 hb7; have hc7 := grew hbB hB7; have r70 := cell_later hB7 r0; have r71 := cell_later hB7 r1)
        | (go_at_call 26; refine (drawJoinSets_c _ _ _ w7 ((HB1.out.below hc7).mono hc7.size) l1).mono ?_; rintro e wj ⟨vj, uj, rfl, lj, mj, hoj, huj, hlj, hmj, hbj⟩; obtain ⟨aj, pj, hvj⟩ := hoj.shape; subst hvj; obtain ⟨cj, qj, hwj⟩ := huj.shape; subst hwj; have hcj := grew hc7 hbj)
        | (go_at_call 27; clear t5; refine (joinImpl_any lj mj _ _ _ _ _ _ wj rfl rfl (by omega) (by omega) hoj.fit huj.fit hoj.at huj.at (cell_later hcj C0.out)).mono ?_; rintro e wk ⟨vk, rfl, hok, hbk⟩; obtain ⟨ak, pk, hvk⟩ := hok.shape; subst hvk; have hck := grew hcj hbk)
        | (go_at_call 28; refine (joinSpec_any lj mj _ _ _ _ _ _ wk rfl rfl (by omega) (by omega) hoj.fit huj.fit (hoj.later hbk).at (huj.later hbk).at).mono ?_; rintro e wl ⟨vl, rfl, hol, hbl⟩; obtain ⟨al, pl, hvl⟩ := hol.shape; subst hvl; have hcl := grew hck hbl; have hjl := grew hbk hbl)
        | (go_at_call 27; refine (joinImpl_any mj lj _ _ _ _ _ _ wl rfl rfl (by omega) (by omega) huj.fit hoj.fit (huj.later hjl).at (hoj.later hjl).at (cell_later hcl C0.out)).mono ?_; rw [joinOk_comm lj mj, joinA_comm lj mj]; rintro e wm ⟨vm, rfl, hom, hbm⟩; obtain ⟨am, pm, hvm⟩ := hom.shape; subst hvm; have hcm := grew hcl hbm; have hkm := hok.later (grew hbl hbm); have hlm2 := hol.later hbm)
        | (go_at_call 9; clear t6; refine (same_c (joinA lj mj) (joinA lj mj) _ _ _ _ _ _ wm rfl rfl (joinA_len _ _) (joinA_len _ _) hkm.at hlm2.at).mono ?_; rintro e wn ⟨rfl, hbn⟩; have hcn := grew hcm hbn)
        | (go_at_call 9; refine (same_c (joinA lj mj) (joinA lj mj) _ _ _ _ _ _ wn rfl rfl (joinA_len _ _) (joinA_len _ _) (hom.later hbn).at (hkm.later hbn).at).mono ?_; rintro e wo ⟨rfl, hbo⟩))
      all_goals go_ret
      all_goals exact ⟨rfl, grew hcn hbo⟩
    · have htR : turnA l = turn1 l := turnA_good hG
      have hTl : (turn1 l).length ≤ 1048576 := by rw [show (turn1 l).length = l.length from (turn_one hG).2]; exact hlm
      cases hM : movOk l x y
      · have hmR : movR l x y = [] := by rw [movR, hM]; rfl
        have hMl : ([] : List (Int × Int)).length ≤ 1048576 := Nat.zero_le _
        go_wp2_with (first
          | (go_at_call 22; clear t1; refine (moveImpl_c l x y _ _ _ wB rfl hlm hoB.at (cell_later hbB C0.out)).mono ?_; rw [hM, hmR]; rintro e w2 ⟨v2, rfl, ho2, hb2⟩; obtain ⟨a2, p2, hv2⟩ := ho2.shape; subst hv2; have r20 := cell_later hb2 r0; have r21 := cell_later hb2 r1; have hc2 := grew hbB hb2)
          | (go_at_call 23; refine (moveSpec_c l x y _ _ _ w2 rfl hlm (hoB.later hb2).at).mono ?_; rw [hM, hmR]; rintro e w3 ⟨v3, rfl, ho3, hb3⟩; obtain ⟨a3, p3, hv3⟩ := ho3.shape; subst hv3; have hB3 := grew hb2 hb3; have hc3 := grew hbB hB3)
          | (go_at_call 24; clear t2; refine (turnImpl_c l _ _ _ w3 rfl hlm (hoB.later hB3).at (cell_later hc3 C0.out)).mono ?_; rw [hG, htR]; rintro e w4 ⟨v4, rfl, ho4, hb4⟩; obtain ⟨a4, p4, hv4⟩ := ho4.shape; subst hv4; have hB4 := grew hB3 hb4)
          | (go_at_call 25; refine (turnSpec_c l _ _ _ w4 rfl hlm (hoB.later hB4).at).mono ?_; rw [hG, htR]; rintro e w5 ⟨v5, rfl, ho5, hb5⟩; obtain ⟨a5, p5, hv5⟩ := ho5.shape; subst hv5; have hB5 := grew hB4 hb5; have hq2 := ho2.later (grew hb3 (grew hb4 hb5)); have hq3 := ho3.later (grew hb4 hb5); have hq4 := ho4.later hb5)
          | (go_at_call 9; clear t3; refine (same_c [] [] _ _ _ _ _ _ w5 rfl rfl hMl hMl hq2.at hq3.at).mono ?_; rintro e w6 ⟨rfl, hb6⟩; have hB6 := grew hB5 hb6; have hq24 := hq4.later hb6; have hq25 := ho5.later hb6)
          | (go_at_call 9; clear t4; refine (same_c (turn1 l) (turn1 l) _ _ _ _ _ _ w6 rfl rfl hTl hTl hq24.at hq25.at).mono ?_; rintro e w7 ⟨rfl, hb7⟩; have hB7 := grew hB6 hb7; have hc7 := grew hbB hB7; have r70 := cell_later hB7 r0; have r71 := cell_later hB7 r1))
        have hoX : Own w.heap.size (.slice a4 (turn1 l).length p4) (turnN 1 l) w7 := (ho4.later (grew hb5 (grew hb6 hb7))).mono (Nat.le_trans hbB.size hB3.size)
        have hcX : Below w.heap.size w w7 := hc7
        have hoS : Own w.heap.size (.slice av l.length pv) l w7 := hoB.later hB7
        go_loopw [17, 18] (fun v sk wr => ∃ k : Nat, k ≤ 3 ∧ sk = .int .i64 k ∧ Own w.heap.size v (turnN (k + 1) l) wr ∧ Below w7.heap.size w7 wr) (fun v sk _ => 3 - (intOf sk).toNat)
        case atStart => exact ⟨0, Nat.zero_le _, rfl, hoX, Below.refl _ _⟩
        case round =>
          obtain ⟨k, hk, rfl, hoR, hbR⟩ := hrel
          obtain ⟨ar, pr, hvr⟩ := hoR.shape
          rw [(good_turnN hG (k + 1)).2] at hvr
          subst hvr
          have HR := hid hoR
          have hcR := grew hcX hbR
          clear hoR
          by_cases hk3 : k < 3
          · have hg1 := (good_turnN hG (k + 1)).1
            have HG1 := hid hg1
            clear hg1
            go_wp2_with (go_at_call 24; refine (turnImpl_c (turnN (k + 1) l) _ _ _ wr (good_turnN hG (k + 1)).2 hlm HR.out.at (cell_later hcR C0.out)).mono ?_; rw [HG1.out, turnA_good HG1.out]; rintro e wt ⟨vt, rfl, hot, hbt⟩; obtain ⟨at', pt, hvt⟩ := hot.shape; rw [show (turn1 (turnN (k + 1) l)).length = l.length from (good_turnN hG (k + 1 + 1)).2] at hvt; subst hvt)
            go_roundw
            case rel => exact ⟨k + 1, by omega, by go_num, hot.mono hcR.size, grew hbR hbt⟩
            case measure => simp [intOf]; omega
          · obtain rfl : k = 3 := by omega
            have ho4' := HR.out
            rw [turnN_four hG] at ho4'
            have HS4 := hid ho4'
            clear ho4' HR
            go_wp2_with (first
              | (go_at_call 9; clear t7; refine (same_c l l _ _ _ _ _ _ wr rfl rfl hlm hlm HS4.out.at (hoS.later hbR).at).mono ?_; rintro e wy ⟨rfl, hby⟩; have hcy := grew hcR hby)
              | (go_at_call 26; refine (drawJoinSets_c _ _ _ wy ((HB1.out.below hcy).mono hcy.size) l1).mono ?_; rintro e wj ⟨vj, uj, rfl, lj, mj, hoj, huj, hlj, hmj, hbj⟩; obtain ⟨aj, pj, hvj⟩ := hoj.shape; subst hvj; obtain ⟨cj, qj, hwj⟩ := huj.shape; subst hwj; have hcj := grew hcy hbj)
                    | (go_at_call 27; clear t5; refine (joinImpl_any lj mj _ _ _ _ _ _ wj rfl rfl (by omega) (by omega) hoj.fit huj.fit hoj.at huj.at (cell_later hcj C0.out)).mono ?_; rintro e wk ⟨vk, rfl, hok, hbk⟩; obtain ⟨ak, pk, hvk⟩ := hok.shape; subst hvk; have hck := grew hcj hbk)
                    | (go_at_call 28; refine (joinSpec_any lj mj _ _ _ _ _ _ wk rfl rfl (by omega) (by omega) hoj.fit huj.fit (hoj.later hbk).at (huj.later hbk).at).mono ?_; rintro e wl ⟨vl, rfl, hol, hbl⟩; obtain ⟨al, pl, hvl⟩ := hol.shape; subst hvl; have hcl := grew hck hbl; have hjl := grew hbk hbl)
                    | (go_at_call 27; refine (joinImpl_any mj lj _ _ _ _ _ _ wl rfl rfl (by omega) (by omega) huj.fit hoj.fit (huj.later hjl).at (hoj.later hjl).at (cell_later hcl C0.out)).mono ?_; rw [joinOk_comm lj mj, joinA_comm lj mj]; rintro e wm ⟨vm, rfl, hom, hbm⟩; obtain ⟨am, pm, hvm⟩ := hom.shape; subst hvm; have hcm := grew hcl hbm; have hkm := hok.later (grew hbl hbm); have hlm2 := hol.later hbm)
                    | (go_at_call 9; clear t6; refine (same_c (joinA lj mj) (joinA lj mj) _ _ _ _ _ _ wm rfl rfl (joinA_len _ _) (joinA_len _ _) hkm.at hlm2.at).mono ?_; rintro e wn ⟨rfl, hbn⟩; have hcn := grew hcm hbn)
                    | (go_at_call 9; refine (same_c (joinA lj mj) (joinA lj mj) _ _ _ _ _ _ wn rfl rfl (joinA_len _ _) (joinA_len _ _) (hom.later hbn).at (hkm.later hbn).at).mono ?_; rintro e wo ⟨rfl, hbo⟩))
            all_goals go_ret
            all_goals exact ⟨rfl, grew hcn hbo⟩
      · have hmR : movR l x y = moveL l x y := by rw [movR, hM]; rfl
        have hMl : (moveL l x y).length ≤ 1048576 := by rw [moveL_len]; exact hlm
        have hxy := goodB_b (mov_good hM)
        go_wp2_with (first
          | (go_at_call 22; clear t1; refine (moveImpl_c l x y _ _ _ wB rfl hlm hoB.at (cell_later hbB C0.out)).mono ?_; rw [hM, hmR]; rintro e w2 ⟨v2, rfl, ho2, hb2⟩; obtain ⟨a2, p2, hv2⟩ := ho2.shape; subst hv2; have r20 := cell_later hb2 r0; have r21 := cell_later hb2 r1; have hc2 := grew hbB hb2)
          | (go_at_call 23; refine (moveSpec_c l x y _ _ _ w2 rfl hlm (hoB.later hb2).at).mono ?_; rw [hM, hmR]; rintro e w3 ⟨v3, rfl, ho3, hb3⟩; obtain ⟨a3, p3, hv3⟩ := ho3.shape; subst hv3; have hB3 := grew hb2 hb3; have hc3 := grew hbB hB3)
          | (go_at_call 24; clear t2; refine (turnImpl_c l _ _ _ w3 rfl hlm (hoB.later hB3).at (cell_later hc3 C0.out)).mono ?_; rw [hG, htR]; rintro e w4 ⟨v4, rfl, ho4, hb4⟩; obtain ⟨a4, p4, hv4⟩ := ho4.shape; subst hv4; have hB4 := grew hB3 hb4)
          | (go_at_call 25; refine (turnSpec_c l _ _ _ w4 rfl hlm (hoB.later hB4).at).mono ?_; rw [hG, htR]; rintro e w5 ⟨v5, rfl, ho5, hb5⟩; obtain ⟨a5, p5, hv5⟩ := ho5.shape; subst hv5; have hB5 := grew hB4 hb5; have hq2 := ho2.later (grew hb3 (grew hb4 hb5)); have hq3 := ho3.later (grew hb4 hb5); have hq4 := ho4.later hb5)
          | (go_at_call 9; clear t3; refine (same_c (moveL l x y) (moveL l x y) _ _ _ _ _ _ w5 rfl rfl hMl hMl hq2.at hq3.at).mono ?_; rintro e w6 ⟨rfl, hb6⟩; have hB6 := grew hB5 hb6; have hq24 := hq4.later hb6; have hq25 := ho5.later hb6)
          | (go_at_call 9; clear t4; refine (same_c (turn1 l) (turn1 l) _ _ _ _ _ _ w6 rfl rfl hTl hTl hq24.at hq25.at).mono ?_; rintro e w7 ⟨rfl, hb7⟩; have hB7 := grew hB6 hb7; have hc7 := grew hbB hB7; have r70 := cell_later hB7 r0; have r71 := cell_later hB7 r1)
          | (go_at_call 22; refine (moveBack_c hM _ _ _ w7 rfl hMl (hq2.later (grew hb6 hb7)).at (cell_later hc7 C0.out)).mono ?_; rintro e w8 ⟨v8, rfl, ho8, hb8⟩; obtain ⟨a8, p8, hv8⟩ := ho8.shape; subst hv8; have hB8 := grew hB7 hb8; have hc8 := grew hbB hB8)
          | (go_at_call 9; clear t8; refine (same_c l l _ _ _ _ _ _ w8 rfl rfl hlm hlm ho8.at (hoB.later hB8).at).mono ?_; rintro e w9 ⟨rfl, hb9⟩; have hB9 := grew hB8 hb9; have hc9 := grew hbB hB9))
        have hoX : Own w.heap.size (.slice a4 (turn1 l).length p4) (turnN 1 l) w9 := (ho4.later (grew hb5 (grew hb6 (grew hb7 (grew hb8 hb9))))).mono (Nat.le_trans hbB.size hB3.size)
        have hcX : Below w.heap.size w w9 := hc9
        have hoS : Own w.heap.size (.slice av l.length pv) l w9 := hoB.later hB9
        go_loopw [17, 18] (fun v sk wr => ∃ k : Nat, k ≤ 3 ∧ sk = .int .i64 k ∧ Own w.heap.size v (turnN (k + 1) l) wr ∧ Below w9.heap.size w9 wr) (fun v sk _ => 3 - (intOf sk).toNat)
        case atStart => exact ⟨0, Nat.zero_le _, rfl, hoX, Below.refl _ _⟩
        case round =>
          obtain ⟨k, hk, rfl, hoR, hbR⟩ := hrel
          obtain ⟨ar, pr, hvr⟩ := hoR.shape
          rw [(good_turnN hG (k + 1)).2] at hvr
          subst hvr
          have HR := hid hoR
          have hcR := grew hcX hbR
          clear hoR
          by_cases hk3 : k < 3
          · have hg1 := (good_turnN hG (k + 1)).1
            have HG1 := hid hg1
            clear hg1
            go_wp2_with (go_at_call 24; refine (turnImpl_c (turnN (k + 1) l) _ _ _ wr (good_turnN hG (k + 1)).2 hlm HR.out.at (cell_later hcR C0.out)).mono ?_; rw [HG1.out, turnA_good HG1.out]; rintro e wt ⟨vt, rfl, hot, hbt⟩; obtain ⟨at', pt, hvt⟩ := hot.shape; rw [show (turn1 (turnN (k + 1) l)).length = l.length from (good_turnN hG (k + 1 + 1)).2] at hvt; subst hvt)
            go_roundw
            case rel => exact ⟨k + 1, by omega, by go_num, hot.mono hcR.size, grew hbR hbt⟩
            case measure => simp [intOf]; omega
          · obtain rfl : k = 3 := by omega
            have ho4' := HR.out
            rw [turnN_four hG] at ho4'
            have HS4 := hid ho4'
            clear ho4' HR
            go_wp2_with (first
              | (go_at_call 9; clear t7; refine (same_c l l _ _ _ _ _ _ wr rfl rfl hlm hlm HS4.out.at (hoS.later hbR).at).mono ?_; rintro e wy ⟨rfl, hby⟩; have hcy := grew hcR hby)
              | (go_at_call 26; refine (drawJoinSets_c _ _ _ wy ((HB1.out.below hcy).mono hcy.size) l1).mono ?_; rintro e wj ⟨vj, uj, rfl, lj, mj, hoj, huj, hlj, hmj, hbj⟩; obtain ⟨aj, pj, hvj⟩ := hoj.shape; subst hvj; obtain ⟨cj, qj, hwj⟩ := huj.shape; subst hwj; have hcj := grew hcy hbj)
                    | (go_at_call 27; clear t5; refine (joinImpl_any lj mj _ _ _ _ _ _ wj rfl rfl (by omega) (by omega) hoj.fit huj.fit hoj.at huj.at (cell_later hcj C0.out)).mono ?_; rintro e wk ⟨vk, rfl, hok, hbk⟩; obtain ⟨ak, pk, hvk⟩ := hok.shape; subst hvk; have hck := grew hcj hbk)
                    | (go_at_call 28; refine (joinSpec_any lj mj _ _ _ _ _ _ wk rfl rfl (by omega) (by omega) hoj.fit huj.fit (hoj.later hbk).at (huj.later hbk).at).mono ?_; rintro e wl ⟨vl, rfl, hol, hbl⟩; obtain ⟨al, pl, hvl⟩ := hol.shape; subst hvl; have hcl := grew hck hbl; have hjl := grew hbk hbl)
                    | (go_at_call 27; refine (joinImpl_any mj lj _ _ _ _ _ _ wl rfl rfl (by omega) (by omega) huj.fit hoj.fit (huj.later hjl).at (hoj.later hjl).at (cell_later hcl C0.out)).mono ?_; rw [joinOk_comm lj mj, joinA_comm lj mj]; rintro e wm ⟨vm, rfl, hom, hbm⟩; obtain ⟨am, pm, hvm⟩ := hom.shape; subst hvm; have hcm := grew hcl hbm; have hkm := hok.later (grew hbl hbm); have hlm2 := hol.later hbm)
                    | (go_at_call 9; clear t6; refine (same_c (joinA lj mj) (joinA lj mj) _ _ _ _ _ _ wm rfl rfl (joinA_len _ _) (joinA_len _ _) hkm.at hlm2.at).mono ?_; rintro e wn ⟨rfl, hbn⟩; have hcn := grew hcm hbn)
                    | (go_at_call 9; refine (same_c (joinA lj mj) (joinA lj mj) _ _ _ _ _ _ wn rfl rfl (joinA_len _ _) (joinA_len _ _) (hom.later hbn).at (hkm.later hbn).at).mono ?_; rintro e wo ⟨rfl, hbo⟩))
            all_goals go_ret
            all_goals exact ⟨rfl, grew hcn hbo⟩
  · go_enter Tryd.func4, Tryd.ntmps4
    go_wp2_with (go_at_call 5; refine (big_t _ _ _ _ _ _ _ m0 m1 hl).mono ?_; rintro e w' ⟨rfl, rfl⟩)
    go_ret
    exact ⟨rfl, by go_grown⟩
end Go.Proofs.YtfhlgdngmdlakaaDoor
