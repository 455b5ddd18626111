/-
  Hulls of sets, in the program, and lists of points held against one another (contracts for the walks).
  Conditions: as each theorem states them.
-/
import Derived.Test.YtipiamhnngmjmaaDoorHHullA
namespace Go.Proofs.YtipiamhnngmjmaaDoor
open Go.RowKit Go.Shelf
set_option linter.unusedVariables false
set_option maxRecDepth 8000
theorem butLast_c (a : Option Addr) (n cap : Nat) (w : World) (h1 : 1 ≤ n) (h2 : n ≤ cap) (h3 : n ≤ 1048576) :
    Calls Tryd.prog 93 #[.slice a n cap] w fun e w' => e = .returned (.slice a (n - 1) (n - 1)) ∧ w = w' := by
  obtain ⟨k, rfl⟩ : ∃ k, n = k + 1 := ⟨n - 1, by omega⟩
  obtain ⟨m, hm⟩ : ∃ m, k + 1 = m := ⟨_, rfl⟩
  rw [hm] at h1 h2 h3 ⊢
  have x1 : IntKind.i64.wrap ((m : Int) - 1) = (k : Int) := by rw [IntKind.wrap_i64]; omega
  have y1 : (k : Int) ≤ (cap : Int) := by omega
  have y2 : (0 : Int) ≤ (k : Int) := by omega
  obtain rfl : k = m - 1 := by omega
  go_enter Tryd.func93, Tryd.ntmps93
  go_wp2
  go_ret
  exact ⟨by first | rfl | simp, rfl⟩
set_option maxHeartbeats 2000000 in
theorem hullOf_c (l : List (Int × Int)) (a : Option Addr) (len cap : Nat) (w : World) (hl : l.length = len) (h1 : len ≤ 500000) (hA : At w.heap.size a l w) (c0 : w.cell? ⟨0, 0, none⟩ = some (.int .i64 1000000)) :
    Calls Tryd.prog 66 #[.slice a len cap] w fun e w' => ∃ v, e = .returned v ∧ OwnC w.heap.size v (hullB tlB l) w' ∧ Below w.heap.size w w' := by
  subst hl
  have HA := hid hA
  have C0 := hid c0
  clear hA c0
  obtain ⟨i0, hi, hz0, hz1, hz2⟩ := info_parts info_pt
  by_cases h2 : l.length < 2
  · have e2 : hullB tlB l = chainB tlB l := by unfold hullB; rw [if_pos h2, chainB_short h2]
    rw [e2]
    clear e2
    have tk1 : True := trivial
    go_enter Tryd.func66, Tryd.ntmps66
    go_wp2_with (first
      | (go_at_call 91; refine (forward_e _ _ _ _).mono ?_; rintro e w1 ⟨B1, rfl, hc1, hb1⟩)
      | (go_at_call 90; clear tk1; refine (chainF_c l B1 _ _ _ w1 rfl (by omega) hc1 ((HA.out.later hb1).mono hb1.size) (cell_later hb1 C0.out)).mono ?_; rintro e w2 ⟨v2, rfl, ho2, hb2⟩; obtain ⟨a2, p2, hv2⟩ := ho2.shape; subst hv2; have hb12 := grew hb1 hb2)
      | (go_at_call 92; refine (backward_e _ _ _ _).mono ?_; rintro e w3 ⟨B3, rfl, hc3, hb3⟩; have hbw3 := grew hb12 hb3)
      | (go_at_call 90; refine (chainR_c l B3 _ _ _ w3 rfl (by omega) hc3 ((HA.out.later hbw3).mono hbw3.size) (cell_later hbw3 C0.out)).mono ?_; rintro e w4 ⟨v4, rfl, ho4, hb4⟩; obtain ⟨a4, p4, hv4⟩ := ho4.shape; subst hv4))
    go_ret
    exact ⟨_, rfl, (ho2.later (grew hb3 hb4)).mono hb1.size, grew hbw3 hb4⟩
  · have e2 : hullB tlB l = (chainB tlB l).dropLast ++ (chainB tlB l.reverse).dropLast := by unfold hullB; rw [if_neg h2]
    rw [e2]
    clear e2
    have k1 := chainB_len (t := tlB) l
    have k2 := chainB_len (t := tlB) l.reverse
    rw [List.length_reverse] at k2
    have k3 := chainB_two (t := tlB) (l := l) (by omega)
    have k4 := chainB_two (t := tlB) (l := l.reverse) (by rw [List.length_reverse]; omega)
    obtain ⟨lo, hlo⟩ : ∃ lo, chainB tlB l = lo := ⟨_, rfl⟩
    obtain ⟨up, hup⟩ : ∃ up, chainB tlB l.reverse = up := ⟨_, rfl⟩
    rw [hlo] at k1 k3 ⊢
    rw [hup] at k2 k4 ⊢
    have tk1 : True := trivial
    have tk2 : True := trivial
    go_enter Tryd.func66, Tryd.ntmps66
    go_upto_region 4 with (first
      | (go_at_call 91; refine (forward_e _ _ _ _).mono ?_; rintro e w1 ⟨B1, rfl, hc1, hb1⟩)
      | (go_at_call 90; clear tk1; refine (chainF_c l B1 _ _ _ w1 rfl (by omega) hc1 ((HA.out.later hb1).mono hb1.size) (cell_later hb1 C0.out)).mono ?_; rw [hlo]; rintro e w2 ⟨v2, rfl, ho2, hb2⟩; obtain ⟨a2, p2, hv2⟩ := ho2.shape; subst hv2; have hb12 := grew hb1 hb2)
      | (go_at_call 92; refine (backward_e _ _ _ _).mono ?_; rintro e w3 ⟨B3, rfl, hc3, hb3⟩; have hbw3 := grew hb12 hb3)
      | (go_at_call 90; refine (chainR_c l B3 _ _ _ w3 rfl (by omega) hc3 ((HA.out.later hbw3).mono hbw3.size) (cell_later hbw3 C0.out)).mono ?_; rw [hup]; rintro e w4 ⟨v4, rfl, ho4, hb4⟩; obtain ⟨a4, p4, hv4⟩ := ho4.shape; subst hv4))
    obtain ⟨g4, rfl⟩ := ho4.some (by omega)
    have hp2 : lo.length ≤ p2 := by rcases ho2.fit with ⟨_, _, h0⟩ | ⟨_, h1, _⟩ <;> omega
    have hp4 : up.length ≤ p4 := by rcases ho4.fit with ⟨_, _, h0⟩ | ⟨_, h1, _⟩ <;> omega
    have hbw4 := grew hbw3 hb4
    have hol := ((ho2.later (grew hb3 hb4)).mono hb1.size).take (k := lo.length - 1) (c := lo.length - 1) (by omega) (Nat.le_refl _) (by omega)
    rw [← List.dropLast_eq_take] at hol
    have HOL := hid hol
    have AT4 := hid ho4.at.dropLast
    have hsz := hbw4.size
    clear ho2 ho4 hol
    go_wp2_with (first
      | (go_at_call 93; clear tk2; refine (butLast_c _ _ _ w4 (by omega) hp2 (by omega)).mono ?_; rintro e w5 ⟨rfl, rfl⟩)
      | (go_at_call 93; refine (butLast_c _ _ _ w4 (by omega) hp4 (by omega)).mono ?_; rintro e w5 ⟨rfl, rfl⟩)
      | (at_builtin; refine wpList_append_cut rfl (.tmp 16) (.tmp 18) 33 rfl w.heap.size Tryd.underlying33 hi hz0 hz1 hz2 (by rfl) _ lo.dropLast up.dropLast rfl HOL.out _ _ _ rfl (List.length_dropLast) (fun j u hu => cells_at AT4.out j u hu) (by rw [List.length_dropLast]; omega) (by rw [List.length_dropLast, List.length_dropLast]; omega) hsz ?_; intro g cp w6 hO6 hg6 _; obtain ⟨ln, hln⟩ : ∃ ln, lo.dropLast.length + up.dropLast.length = ln := ⟨_, rfl⟩; rw [hln] at hO6 ⊢; have hB6 := OwnC.grownBelow HOL.out hg6 hsz))
    go_ret
    exact ⟨_, rfl, hO6, hbw4.trans hB6⟩
set_option maxHeartbeats 1000000 in
theorem hullImpl_c (l : List (Int × Int)) (a : Option Addr) (len cap : Nat) (w : World) (hl : l.length = len) (h1 : len ≤ 1048576) (hA : At w.heap.size a l w) (c0 : w.cell? ⟨0, 0, none⟩ = some (.int .i64 1000000)) :
    Calls Tryd.prog 38 #[.slice a len cap] w fun e w' => ∃ v, e = .returned (.tuple #[v, .bool (goodL l)]) ∧ OwnC w.heap.size v (hulL l) w' ∧ Below w.heap.size w w' := by
  subst hl
  have HA := hid hA
  have C0 := hid c0
  clear hA c0
  cases hG : goodL l
  · have e2 : hulL l = [] := by rw [hulL, hG]; rfl
    rw [e2]
    clear e2
    go_enter Tryd.func38, Tryd.ntmps38
    go_wp2_with (go_at_call 52; refine (goodSetImpl_c l _ _ _ _ rfl h1 HA.out C0.out).mono ?_; rintro e w1 ⟨rfl, hb1⟩)
    go_ret2
    exact ⟨_, rfl, OwnC.nil _ _, hb1⟩
  · have e2 : hulL l = hullB tlB l := by rw [hulL, hG]; exact (hull_eq (goodL_all hG)).symm
    rw [e2]
    clear e2
    have hfew := goodL_few hG
    go_enter Tryd.func38, Tryd.ntmps38
    go_wp2_with (first
      | (go_at_call 52; refine (goodSetImpl_c l _ _ _ _ rfl h1 HA.out C0.out).mono ?_; rintro e w1 ⟨rfl, hb1⟩)
      | (go_at_call 66; refine (hullOf_c l _ _ _ w1 rfl (by omega) ((HA.out.later hb1).mono hb1.size) (cell_later hb1 C0.out)).mono ?_; rintro e w2 ⟨v2, rfl, ho2, hb2⟩))
    go_ret2
    exact ⟨_, rfl, ho2.mono hb1.size, grew hb1 hb2⟩
set_option maxHeartbeats 2000000 in
theorem l3Same_c (l m : List (Int × Int)) (a c : Option Addr) (len cap lem cam : Nat) (w : World) (hl : l.length = len) (hm : m.length = lem) (h1 : len ≤ 1048576) (h2 : lem ≤ 1048576) (hA : At w.heap.size a l w) (hB : At w.heap.size c m w) :
    Calls Tryd.prog 81 #[.slice a len cap, .slice c lem cam] w fun e w' => e = .returned (.bool (decide (l = m))) ∧ Below w.heap.size w w' := by
  subst hl hm
  by_cases hlm : l.length = m.length
  · have HA := hid hA
    have HB := hid hB
    have HL := hid hlm
    clear hA hB
    rw [← hlm] at h2 ⊢
    clear hlm h2
    go_enter Tryd.func81, Tryd.ntmps81
    go_wp2
    go_loopw [13] (fun i wr => ∃ k : Nat, k ≤ l.length ∧ i = .int .i64 k ∧ Alike l m k ∧ Below w.heap.size w wr) (fun i _ => l.length - (intOf i).toNat)
    case atStart => exact ⟨0, Nat.zero_le _, rfl, Alike.zero _ _, Below.refl _ _⟩
    case round =>
      obtain ⟨k, hk, rfl, hC, hbw⟩ := hrel
      have HC := hid hC
      clear hC
      by_cases hkl : k < l.length
      · obtain ⟨b, off, rfl, hbN, g0, g1⟩ := HA.out k (by omega)
        obtain ⟨b2, off2, rfl, hbN2, g2, g3⟩ := HB.out k (by have := HL.out; omega)
        have q0 := cell_later hbw g0
        have q1 := cell_later hbw g1
        have q2 := cell_later hbw g2
        have q3 := cell_later hbw g3
        clear g0 g1 g2 g3
        have hi1 : (0 : Int) ≤ (k : Int) := by omega
        have hi2 : (k : Int) < (l.length : Int) := by omega
        by_cases e1 : px l k = px m k
        · by_cases e2 : py l k = py m k
          · have hE : eqB (px l k) (py l k) (px m k) (py m k) = true := decide_eq_true ⟨e1, e2⟩
            have HE := hid hE
            rw [← e1] at q2
            rw [← e2] at q3
            clear e1 e2 hE
            go_wp2
            go_quiet (fail)
            go_wp2
            go_roundw
            case rel => exact ⟨k + 1, by omega, by go_num, HC.out.succ HE.out, grew hbw (drewN_below _ _)⟩
            case measure => simp [intOf]; omega
          · have hE : eqB (px l k) (py l k) (px m k) (py m k) = false := decide_eq_false (fun h => e2 h.2)
            have HE := hid hE
            have y1 : (py l k == py m k) = false := by simpa using e2
            rw [← e1] at q2
            clear e1 e2 hE
            go_wp2
            go_quiet (fail)
            go_wp2
            go_ret
            exact ⟨by rw [not_alike HE.out]; rfl, grew hbw (drewN_below _ _)⟩
        · have hE : eqB (px l k) (py l k) (px m k) (py m k) = false := decide_eq_false (fun h => e1 h.1)
          have HE := hid hE
          have y0 : (px l k == px m k) = false := by simpa using e1
          clear e1 hE
          go_wp2
          go_quiet (fail)
          go_wp2
          go_ret
          exact ⟨by rw [not_alike HE.out]; rfl, grew hbw (drewN_below _ _)⟩
      · obtain rfl : k = l.length := by omega
        go_wp2
        go_ret
        exact ⟨by rw [decide_eq_true (HC.out.eq HL.out)]; rfl, hbw⟩
  · have hd : ((l.length : Int) != (m.length : Int)) = true := by simp; omega
    have e : decide (l = m) = false := decide_eq_false fun h => hlm (by rw [h])
    go_enter Tryd.func81, Tryd.ntmps81
    go_wp2
    go_ret
    exact ⟨by rw [e]; rfl, Below.refl _ _⟩
set_option maxHeartbeats 2000000 in
theorem equal_c (l m : List (Int × Int)) (a c : Option Addr) (len cap lem cam : Nat) (w : World) (hl : l.length = len) (hm : m.length = lem) (h1 : len ≤ 1048576) (h2 : lem ≤ 1048576) (hA : At w.heap.size a l w) (hB : At w.heap.size c m w) :
    Calls Tryd.prog 86 #[.slice a len cap, .slice c lem cam] w fun e w' => e = .returned (.bool (decide (l = m))) ∧ Below w.heap.size w w' := by
  subst hl hm
  by_cases hlm : l.length = m.length
  · have HA := hid hA
    have HB := hid hB
    have HL := hid hlm
    clear hA hB
    rw [← hlm] at h2 ⊢
    clear hlm h2
    go_enter Tryd.func86, Tryd.ntmps86
    go_wp2
    go_loopw [13] (fun i wr => ∃ k : Nat, k ≤ l.length ∧ i = .int .i64 k ∧ Alike l m k ∧ Below w.heap.size w wr) (fun i _ => l.length - (intOf i).toNat)
    case atStart => exact ⟨0, Nat.zero_le _, rfl, Alike.zero _ _, Below.refl _ _⟩
    case round =>
      obtain ⟨k, hk, rfl, hC, hbw⟩ := hrel
      have HC := hid hC
      clear hC
      by_cases hkl : k < l.length
      · obtain ⟨b, off, rfl, hbN, g0, g1⟩ := HA.out k (by omega)
        obtain ⟨b2, off2, rfl, hbN2, g2, g3⟩ := HB.out k (by have := HL.out; omega)
        have q0 := cell_later hbw g0
        have q1 := cell_later hbw g1
        have q2 := cell_later hbw g2
        have q3 := cell_later hbw g3
        clear g0 g1 g2 g3
        have hi1 : (0 : Int) ≤ (k : Int) := by omega
        have hi2 : (k : Int) < (l.length : Int) := by omega
        by_cases e1 : px l k = px m k
        · by_cases e2 : py l k = py m k
          · have hE : eqB (px l k) (py l k) (px m k) (py m k) = true := decide_eq_true ⟨e1, e2⟩
            have HE := hid hE
            rw [← e1] at q2
            rw [← e2] at q3
            clear e1 e2 hE
            go_wp2
            go_quiet (fail)
            go_wp2
            go_roundw
            case rel => exact ⟨k + 1, by omega, by go_num, HC.out.succ HE.out, grew hbw (drewN_below _ _)⟩
            case measure => simp [intOf]; omega
          · have hE : eqB (px l k) (py l k) (px m k) (py m k) = false := decide_eq_false (fun h => e2 h.2)
            have HE := hid hE
            have y1 : (py l k == py m k) = false := by simpa using e2
            rw [← e1] at q2
            clear e1 e2 hE
            go_wp2
            go_quiet (fail)
            go_wp2
            go_ret
            exact ⟨by rw [not_alike HE.out]; rfl, grew hbw (drewN_below _ _)⟩
        · have hE : eqB (px l k) (py l k) (px m k) (py m k) = false := decide_eq_false (fun h => e1 h.1)
          have HE := hid hE
          have y0 : (px l k == px m k) = false := by simpa using e1
          clear e1 hE
          go_wp2
          go_quiet (fail)
          go_wp2
          go_ret
          exact ⟨by rw [not_alike HE.out]; rfl, grew hbw (drewN_below _ _)⟩
      · obtain rfl : k = l.length := by omega
        go_wp2
        go_ret
        exact ⟨by rw [decide_eq_true (HC.out.eq HL.out)]; rfl, hbw⟩
  · have hd : ((l.length : Int) != (m.length : Int)) = true := by simp; omega
    have e : decide (l = m) = false := decide_eq_false fun h => hlm (by rw [h])
    go_enter Tryd.func86, Tryd.ntmps86
    go_wp2
    go_ret
    exact ⟨by rw [e]; rfl, Below.refl _ _⟩
end Go.Proofs.YtipiamhnngmjmaaDoor
