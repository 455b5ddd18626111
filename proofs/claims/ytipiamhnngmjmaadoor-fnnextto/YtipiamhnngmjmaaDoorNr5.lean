/-
  The points of a set within a bound: the program's function and the specification's (contracts for the walks).
  Conditions: as each theorem states them.
-/
import Derived.Test.YtipiamhnngmjmaaDoorNr4
namespace Go.Proofs.YtipiamhnngmjmaaDoor
open Go.RowKit Go.Shelf
set_option linter.unusedVariables false
set_option maxRecDepth 8000
set_option maxHeartbeats 8000000 in
theorem withinImpl_c (l : List (Int × Int)) (x y q : Int) (a : Option Addr) (len cap : Nat) (w : World) (hl : l.length = len) (h1 : len ≤ 1048576) (hA : At w.heap.size a l w) (c0 : w.cell? ⟨0, 0, none⟩ = some (.int .i64 1000000)) :
    Calls Tryd.prog 34 #[.slice a len cap, .agg #[.int .i64 x, .int .i64 y], .int .i64 q] w fun e w' => ∃ v, e = .returned (.tuple #[v, .bool (wiOk l x y q)]) ∧ OwnC w.heap.size v (wiV l x y q) w' ∧ Below w.heap.size w w' := by
  subst hl
  have HA := hid hA
  have C0 := hid c0
  clear hA c0
  obtain ⟨i0, hi, hz0, hz1, hz2⟩ := info_parts info_pt
  cases hG : goodL l
  · have HK : Hid (wiOk l x y q = false) := by unfold wiOk; rw [hG]; rfl
    go_enter Tryd.func34, Tryd.ntmps34
    go_upto_region 1 with fail
    have K4 := BoxP.new w x y
    have hb : Below w.heap.size w (w.alloc (.cells #[.int .i64 x, .int .i64 y] 26)) := by go_grown
    generalize w.alloc (.cells #[.int .i64 x, .int .i64 y] 26) = w0 at K4 hb ⊢
    have c40 := K4.c0
    have c41 := K4.c1
    go_wp2_with (go_at_call 52; refine (goodSetImpl_c l _ _ _ _ rfl h1 ((HA.out.later hb).mono hb.size) (cell_later hb C0.out)).mono ?_; rw [hG]; rintro e w1 ⟨rfl, hb1⟩; replace K4 := K4.later hb1; replace hb := grew hb hb1; clear hb1; have c40 := K4.c0; have c41 := K4.c1)
    go_ret2
    exact ⟨_, ret_vb rfl HK.out.symm, by unfold wiV; rw [HK.out]; exact OwnC.nil _ _, hb⟩
  · cases hP : goodB x y
    · have HK : Hid (wiOk l x y q = false) := by unfold wiOk; rw [hG, hP]; rfl
      go_enter Tryd.func34, Tryd.ntmps34
      go_upto_region 1 with fail
      have K4 := BoxP.new w x y
      have hb : Below w.heap.size w (w.alloc (.cells #[.int .i64 x, .int .i64 y] 26)) := by go_grown
      generalize w.alloc (.cells #[.int .i64 x, .int .i64 y] 26) = w0 at K4 hb ⊢
      have c40 := K4.c0
      have c41 := K4.c1
      go_wp2_with (first
        | (go_at_call 52; refine (goodSetImpl_c l _ _ _ _ rfl h1 ((HA.out.later hb).mono hb.size) (cell_later hb C0.out)).mono ?_; rw [hG]; rintro e w1 ⟨rfl, hb1⟩; replace K4 := K4.later hb1; replace hb := grew hb hb1; clear hb1; have c40 := K4.c0; have c41 := K4.c1)
        | (go_at_call 48; refine (goodImpl_c _ _ _ (cell_later hb C0.out)).mono ?_; rw [hP]; rintro e w2 ⟨rfl, hw2⟩; have hb1 : Below w1.heap.size w1 w2 := (by rw [← hw2]; go_grown); clear hw2; replace K4 := K4.later hb1; replace hb := grew hb hb1; clear hb1; have c40 := K4.c0; have c41 := K4.c1))
      go_ret2
      exact ⟨_, ret_vb rfl HK.out.symm, by unfold wiV; rw [HK.out]; exact OwnC.nil _ _, hb⟩
    · by_cases h0 : q < 0
      · have HK := hid (show wiOk l x y q = false by unfold wiOk; rw [decide_eq_false (show ¬ 0 ≤ q by omega), Bool.and_false])
        have h02 : decide (q < 0) = true := decide_eq_true h0
        go_enter Tryd.func34, Tryd.ntmps34
        go_upto_region 1 with fail
        have K4 := BoxP.new w x y
        have hb : Below w.heap.size w (w.alloc (.cells #[.int .i64 x, .int .i64 y] 26)) := by go_grown
        generalize w.alloc (.cells #[.int .i64 x, .int .i64 y] 26) = w0 at K4 hb ⊢
        have c40 := K4.c0
        have c41 := K4.c1
        go_wp2_with (first
          | (go_at_call 52; refine (goodSetImpl_c l _ _ _ _ rfl h1 ((HA.out.later hb).mono hb.size) (cell_later hb C0.out)).mono ?_; rw [hG]; rintro e w1 ⟨rfl, hb1⟩; replace K4 := K4.later hb1; replace hb := grew hb hb1; clear hb1; have c40 := K4.c0; have c41 := K4.c1)
          | (go_at_call 48; refine (goodImpl_c _ _ _ (cell_later hb C0.out)).mono ?_; rw [hP]; rintro e w2 ⟨rfl, hw2⟩; have hb1 : Below w1.heap.size w1 w2 := (by rw [← hw2]; go_grown); clear hw2; replace K4 := K4.later hb1; replace hb := grew hb hb1; clear hb1; have c40 := K4.c0; have c41 := K4.c1))
        go_ret2
        exact ⟨_, ret_vb rfl HK.out.symm, by unfold wiV; rw [HK.out]; exact OwnC.nil _ _, hb⟩
      · have HK := hid (show wiOk l x y q = true by unfold wiOk; rw [hG, hP, decide_eq_true (show 0 ≤ q by omega)]; rfl)
        have h02 : decide (q < 0) = false := decide_eq_false h0
        have h03 : 0 ≤ q := by omega
        have HG := hid (goodL_all hG)
        have HGQ := hid hP
        go_enter Tryd.func34, Tryd.ntmps34
        go_upto_region 1 with fail
        have K4 := BoxP.new w x y
        have hb : Below w.heap.size w (w.alloc (.cells #[.int .i64 x, .int .i64 y] 26)) := by go_grown
        generalize w.alloc (.cells #[.int .i64 x, .int .i64 y] 26) = w0 at K4 hb ⊢
        have c40 := K4.c0
        have c41 := K4.c1
        go_upto_region 4 with (first
          | (go_at_call 52; refine (goodSetImpl_c l _ _ _ _ rfl h1 ((HA.out.later hb).mono hb.size) (cell_later hb C0.out)).mono ?_; rw [hG]; rintro e w1 ⟨rfl, hb1⟩; replace K4 := K4.later hb1; replace hb := grew hb hb1; clear hb1; have c40 := K4.c0; have c41 := K4.c1)
          | (go_at_call 48; refine (goodImpl_c _ _ _ (cell_later hb C0.out)).mono ?_; rw [hP]; rintro e w2 ⟨rfl, hw2⟩; have hb1 : Below w1.heap.size w1 w2 := (by rw [← hw2]; go_grown); clear hw2; replace K4 := K4.later hb1; replace hb := grew hb hb1; clear hb1; have c40 := K4.c0; have c41 := K4.c1))
        clear hG hP h02 h03 h0 c40 c41
        go_wp2
        go_loopw [8, 25] (fun o i wr => ∃ k : Nat, k ≤ l.length ∧ i = .int .i64 k ∧ OwnC (w.heap.size + 1) o (wth (l.take k) (x, y) q) wr ∧ BoxP wr w.heap.size (x, y) ∧ Below w.heap.size w wr) (fun _ i _ => l.length - (intOf i).toNat)
        case atStart => exact ⟨0, Nat.zero_le _, rfl, OwnC.nil _ _, K4, hb⟩
        case round =>
          clear K4 hb
          obtain ⟨k, hk, rfl, hO, K4, hbw⟩ := hrel
          have HO := hid hO
          clear hO
          by_cases hkl : k < l.length
          · have HL : Hid ((wth (l.take k) (x, y) q).length + 1 ≤ 1048576) := by have := wth_len (l.take k) (x, y) q; rw [List.length_take] at this; show _ ≤ _; omega
            have FY := fun e => wth_yes (l := l) hkl (q := (x, y)) (m := q) e
            have FN := fun e => wth_no (l := l) hkl (q := (x, y)) (m := q) e
            obtain ⟨R, hR⟩ : ∃ R, wth (l.take k) (x, y) q = R := ⟨_, rfl⟩
            rw [hR] at HO HL FY FN
            obtain ⟨b, off, rfl, hbN, g0, g1⟩ := HA.out k hkl
            have q0 := (hbw.cell (p := ⟨b, off + k * 2, none⟩) hbN).trans g0
            have q1 := (hbw.cell (p := ⟨b, off + k * 2 + 1, none⟩) hbN).trans g1
            obtain ⟨ax, hax⟩ : ∃ x, px l k = x := ⟨_, rfl⟩
            obtain ⟨ay, hay⟩ : ∃ x, py l k = x := ⟨_, rfl⟩
            have HPA : pt l k = (ax, ay) := by rw [← hax, ← hay]; exact rfl
            have HGA : Hid (goodB ax ay = true) := by rw [← hax, ← hay]; exact HG.out _ (pt_mem (l := l) (i := k) hkl)
            rw [hax] at q0
            rw [hay] at q1
            rw [HPA] at FY FN
            clear hax hay g0 g1 hbN hR HPA
            obtain ⟨u, hu⟩ : ∃ u, apF (ax, ay) (x, y) = u := ⟨_, rfl⟩
            have HAQ := hid hu
            rw [hu] at FY FN
            have HFY := hid FY
            have HFN := hid FN
            clear hu FY FN
            have k0 : (0 : Int) ≤ (k : Int) := by omega
            have k1 : (k : Int) < (l.length : Int) := by omega
            obtain ⟨a3, c3, hv3⟩ := HO.out.shape
            subst hv3
            go_upto_region 7 with fail
            have K8 := BoxP.new wr ax ay
            have hb8 : Below wr.heap.size wr (wr.alloc (.cells #[.int .i64 ax, .int .i64 ay] 26)) := by go_grown
            replace K4 := K4.later hb8
            replace HO := hid (HO.out.later hb8)
            replace hbw := grew hbw hb8
            clear q0 q1 hb8
            generalize wr.heap.size = B8 at K8 ⊢
            generalize wr.alloc (.cells #[.int .i64 ax, .int .i64 ay] 26) = wp at K4 K8 HO hbw ⊢
            have cq0 := K4.c0
            have cq1 := K4.c1
            have ca0 := K8.c0
            have ca1 := K8.c1
            by_cases hE : u ≤ q
            · have HEE := hid hE
              have hlen : R.length + 1 ≤ 1048576 := HL.out
              have hwz := K4.lt
              go_wp2_with (first
                | (go_at_call 49; refine (apart_q _ _ _ _ _ _ HGA.out HGQ.out HAQ.out).mono ?_; rintro e w3 ⟨rfl, hb3⟩; replace K4 := K4.later hb3; replace K8 := K8.later hb3; replace hbw := grew hbw hb3; replace HO := hid (HO.out.later hb3); clear hb3; have ca0 := K8.c0; have ca1 := K8.c1)
                | (at_builtin; refine wpList_append_cut rfl (.tmp 34) (.tmp 36) 33 rfl (w.heap.size + 1) Tryd.underlying33 hi hz0 hz1 hz2 (by rfl) _ R [(ax, ay)] rfl (HO.out.later (by go_grown)) _ _ _ rfl rfl (fun j u hu => one_src _ ax ay _ rfl j u hu) (by simp) (by simpa using hlen) (by have := K4.lt; simp; omega) ?_; intro g cp w4 hO4 hg4 _; obtain ⟨ln, hln⟩ : ∃ ln, R.length + [(ax, ay)].length = ln := ⟨_, rfl⟩; rw [hln] at hO4 ⊢; clear hln; have hB4 := OwnC.grownBelow (HO.out.later (by go_grown)) hg4 (by have := K4.lt; simp; omega); have HX4 := hid hO4; have HB4 := hid (((by go_grown : Below w3.heap.size w3 _).mono (show w.heap.size + 1 ≤ w3.heap.size from K4.lt)).trans hB4); clear hg4 hO4 hB4))
              go_roundw
              case rel => exact ⟨k + 1, by omega, by go_num, by rw [HFY.out HEE.out]; exact HX4.out, (HB4.out.block _ (Nat.lt_succ_self _)).trans K4, hbw.trans (HB4.out.mono (Nat.le_succ _))⟩
              case measure => simp [intOf]; omega
            · have HEE := hid (show q < u by omega)
              go_wp2_with (first | (go_at_call 49; refine (apart_q _ _ _ _ _ _ HGA.out HGQ.out HAQ.out).mono ?_; rintro e w3 ⟨rfl, hb3⟩; replace K4 := K4.later hb3; replace K8 := K8.later hb3; replace hbw := grew hbw hb3; replace HO := hid (HO.out.later hb3); clear hb3; have ca0 := K8.c0; have ca1 := K8.c1))
              go_roundw
              case rel => exact ⟨k + 1, by omega, by go_num, by rw [HFN.out (by have := HEE.out; omega)]; exact HO.out, K4, hbw⟩
              case measure => simp [intOf]; omega
          · obtain rfl : k = l.length := by omega
            obtain ⟨a3, c3, hv3⟩ := HO.out.shape
            subst hv3
            go_wp2
            go_ret2
            exact ⟨_, ret_vb rfl HK.out.symm, by unfold wiV; rw [HK.out, if_pos rfl]; have := HO.out.mono (Nat.le_succ w.heap.size); simpa using this, hbw⟩
set_option maxHeartbeats 8000000 in
theorem withinSpec_c (l : List (Int × Int)) (x y q : Int) (a : Option Addr) (len cap : Nat) (w : World) (hl : l.length = len) (h1 : len ≤ 1048576) (hA : At w.heap.size a l w) :
    Calls Tryd.prog 33 #[.slice a len cap, .agg #[.int .i64 x, .int .i64 y], .int .i64 q] w fun e w' => ∃ v, e = .returned (.tuple #[v, .bool (wiOk l x y q)]) ∧ OwnC w.heap.size v (wiV l x y q) w' ∧ Below w.heap.size w w' := by
  subst hl
  have HA := hid hA
  skip
  clear hA
  obtain ⟨i0, hi, hz0, hz1, hz2⟩ := info_parts info_pt
  cases hG : goodL l
  · have HK : Hid (wiOk l x y q = false) := by unfold wiOk; rw [hG]; rfl
    go_enter Tryd.func33, Tryd.ntmps33
    go_upto_region 1 with fail
    have K4 := BoxP.new w x y
    have hb : Below w.heap.size w (w.alloc (.cells #[.int .i64 x, .int .i64 y] 26)) := by go_grown
    generalize w.alloc (.cells #[.int .i64 x, .int .i64 y] 26) = w0 at K4 hb ⊢
    have c40 := K4.c0
    have c41 := K4.c1
    go_wp2_with (go_at_call 64; refine (l2Good_c l _ _ _ _ rfl h1 ((HA.out.later hb).mono hb.size)).mono ?_; rw [hG]; rintro e w1 ⟨rfl, hb1⟩; replace K4 := K4.later hb1; replace hb := grew hb hb1; clear hb1; have c40 := K4.c0; have c41 := K4.c1)
    go_ret2
    exact ⟨_, ret_vb rfl HK.out.symm, by unfold wiV; rw [HK.out]; exact OwnC.nil _ _, hb⟩
  · cases hP : goodB x y
    · have HK : Hid (wiOk l x y q = false) := by unfold wiOk; rw [hG, hP]; rfl
      go_enter Tryd.func33, Tryd.ntmps33
      go_upto_region 1 with fail
      have K4 := BoxP.new w x y
      have hb : Below w.heap.size w (w.alloc (.cells #[.int .i64 x, .int .i64 y] 26)) := by go_grown
      generalize w.alloc (.cells #[.int .i64 x, .int .i64 y] 26) = w0 at K4 hb ⊢
      have c40 := K4.c0
      have c41 := K4.c1
      go_wp2_with (first
        | (go_at_call 64; refine (l2Good_c l _ _ _ _ rfl h1 ((HA.out.later hb).mono hb.size)).mono ?_; rw [hG]; rintro e w1 ⟨rfl, hb1⟩; replace K4 := K4.later hb1; replace hb := grew hb hb1; clear hb1; have c40 := K4.c0; have c41 := K4.c1)
        | (go_at_call 46; refine (goodSpec_c _ _ _).mono ?_; rw [hP]; rintro e w2 ⟨rfl, hw2⟩; have hb1 : Below w1.heap.size w1 w2 := (by rw [← hw2]; go_grown); clear hw2; replace K4 := K4.later hb1; replace hb := grew hb hb1; clear hb1; have c40 := K4.c0; have c41 := K4.c1))
      go_ret2
      exact ⟨_, ret_vb rfl HK.out.symm, by unfold wiV; rw [HK.out]; exact OwnC.nil _ _, hb⟩
    · by_cases h0 : q < 0
      · have HK := hid (show wiOk l x y q = false by unfold wiOk; rw [decide_eq_false (show ¬ 0 ≤ q by omega), Bool.and_false])
        have h02 : decide (q < 0) = true := decide_eq_true h0
        go_enter Tryd.func33, Tryd.ntmps33
        go_upto_region 1 with fail
        have K4 := BoxP.new w x y
        have hb : Below w.heap.size w (w.alloc (.cells #[.int .i64 x, .int .i64 y] 26)) := by go_grown
        generalize w.alloc (.cells #[.int .i64 x, .int .i64 y] 26) = w0 at K4 hb ⊢
        have c40 := K4.c0
        have c41 := K4.c1
        go_wp2_with (first
          | (go_at_call 64; refine (l2Good_c l _ _ _ _ rfl h1 ((HA.out.later hb).mono hb.size)).mono ?_; rw [hG]; rintro e w1 ⟨rfl, hb1⟩; replace K4 := K4.later hb1; replace hb := grew hb hb1; clear hb1; have c40 := K4.c0; have c41 := K4.c1)
          | (go_at_call 46; refine (goodSpec_c _ _ _).mono ?_; rw [hP]; rintro e w2 ⟨rfl, hw2⟩; have hb1 : Below w1.heap.size w1 w2 := (by rw [← hw2]; go_grown); clear hw2; replace K4 := K4.later hb1; replace hb := grew hb hb1; clear hb1; have c40 := K4.c0; have c41 := K4.c1))
        go_ret2
        exact ⟨_, ret_vb rfl HK.out.symm, by unfold wiV; rw [HK.out]; exact OwnC.nil _ _, hb⟩
      · have HK := hid (show wiOk l x y q = true by unfold wiOk; rw [hG, hP, decide_eq_true (show 0 ≤ q by omega)]; rfl)
        have h02 : decide (q < 0) = false := decide_eq_false h0
        have h03 : 0 ≤ q := by omega
        have HG := hid (goodL_all hG)
        have HGQ := hid hP
        go_enter Tryd.func33, Tryd.ntmps33
        go_upto_region 1 with fail
        have K4 := BoxP.new w x y
        have hb : Below w.heap.size w (w.alloc (.cells #[.int .i64 x, .int .i64 y] 26)) := by go_grown
        generalize w.alloc (.cells #[.int .i64 x, .int .i64 y] 26) = w0 at K4 hb ⊢
        have c40 := K4.c0
        have c41 := K4.c1
        go_upto_region 4 with (first
          | (go_at_call 64; refine (l2Good_c l _ _ _ _ rfl h1 ((HA.out.later hb).mono hb.size)).mono ?_; rw [hG]; rintro e w1 ⟨rfl, hb1⟩; replace K4 := K4.later hb1; replace hb := grew hb hb1; clear hb1; have c40 := K4.c0; have c41 := K4.c1)
          | (go_at_call 46; refine (goodSpec_c _ _ _).mono ?_; rw [hP]; rintro e w2 ⟨rfl, hw2⟩; have hb1 : Below w1.heap.size w1 w2 := (by rw [← hw2]; go_grown); clear hw2; replace K4 := K4.later hb1; replace hb := grew hb hb1; clear hb1; have c40 := K4.c0; have c41 := K4.c1))
        clear hG hP h02 h03 h0 c40 c41
        go_wp2
        go_loopw [8, 25] (fun o i wr => ∃ k : Nat, k ≤ l.length ∧ i = .int .i64 k ∧ OwnC (w.heap.size + 1) o (wth (l.take k) (x, y) q) wr ∧ BoxP wr w.heap.size (x, y) ∧ Below w.heap.size w wr) (fun _ i _ => l.length - (intOf i).toNat)
        case atStart => exact ⟨0, Nat.zero_le _, rfl, OwnC.nil _ _, K4, hb⟩
        case round =>
          clear K4 hb
          obtain ⟨k, hk, rfl, hO, K4, hbw⟩ := hrel
          have HO := hid hO
          clear hO
          by_cases hkl : k < l.length
          · have HL : Hid ((wth (l.take k) (x, y) q).length + 1 ≤ 1048576) := by have := wth_len (l.take k) (x, y) q; rw [List.length_take] at this; show _ ≤ _; omega
            have FY := fun e => wth_yes (l := l) hkl (q := (x, y)) (m := q) e
            have FN := fun e => wth_no (l := l) hkl (q := (x, y)) (m := q) e
            obtain ⟨R, hR⟩ : ∃ R, wth (l.take k) (x, y) q = R := ⟨_, rfl⟩
            rw [hR] at HO HL FY FN
            obtain ⟨b, off, rfl, hbN, g0, g1⟩ := HA.out k hkl
            have q0 := (hbw.cell (p := ⟨b, off + k * 2, none⟩) hbN).trans g0
            have q1 := (hbw.cell (p := ⟨b, off + k * 2 + 1, none⟩) hbN).trans g1
            obtain ⟨ax, hax⟩ : ∃ x, px l k = x := ⟨_, rfl⟩
            obtain ⟨ay, hay⟩ : ∃ x, py l k = x := ⟨_, rfl⟩
            have HPA : pt l k = (ax, ay) := by rw [← hax, ← hay]; exact rfl
            have HGA : Hid (goodB ax ay = true) := by rw [← hax, ← hay]; exact HG.out _ (pt_mem (l := l) (i := k) hkl)
            rw [hax] at q0
            rw [hay] at q1
            rw [HPA] at FY FN
            clear hax hay g0 g1 hbN hR HPA
            obtain ⟨u, hu⟩ : ∃ u, apF (ax, ay) (x, y) = u := ⟨_, rfl⟩
            have HAQ := hid hu
            rw [hu] at FY FN
            have HFY := hid FY
            have HFN := hid FN
            clear hu FY FN
            have k0 : (0 : Int) ≤ (k : Int) := by omega
            have k1 : (k : Int) < (l.length : Int) := by omega
            obtain ⟨a3, c3, hv3⟩ := HO.out.shape
            subst hv3
            go_upto_region 7 with fail
            have K8 := BoxP.new wr ax ay
            have hb8 : Below wr.heap.size wr (wr.alloc (.cells #[.int .i64 ax, .int .i64 ay] 26)) := by go_grown
            replace K4 := K4.later hb8
            replace HO := hid (HO.out.later hb8)
            replace hbw := grew hbw hb8
            clear q0 q1 hb8
            generalize wr.heap.size = B8 at K8 ⊢
            generalize wr.alloc (.cells #[.int .i64 ax, .int .i64 ay] 26) = wp at K4 K8 HO hbw ⊢
            have cq0 := K4.c0
            have cq1 := K4.c1
            have ca0 := K8.c0
            have ca1 := K8.c1
            by_cases hE : u ≤ q
            · have HEE := hid hE
              have hlen : R.length + 1 ≤ 1048576 := HL.out
              have hwz := K4.lt
              go_wp2_with (first
                | (go_at_call 47; refine (apartS_q _ _ _ _ _ _ HGA.out HGQ.out HAQ.out).mono ?_; rintro e w3 ⟨rfl, hb3⟩; replace K4 := K4.later hb3; replace K8 := K8.later hb3; replace hbw := grew hbw hb3; replace HO := hid (HO.out.later hb3); clear hb3; have ca0 := K8.c0; have ca1 := K8.c1)
                | (at_builtin; refine wpList_append_cut rfl (.tmp 34) (.tmp 36) 33 rfl (w.heap.size + 1) Tryd.underlying33 hi hz0 hz1 hz2 (by rfl) _ R [(ax, ay)] rfl (HO.out.later (by go_grown)) _ _ _ rfl rfl (fun j u hu => one_src _ ax ay _ rfl j u hu) (by simp) (by simpa using hlen) (by have := K4.lt; simp; omega) ?_; intro g cp w4 hO4 hg4 _; obtain ⟨ln, hln⟩ : ∃ ln, R.length + [(ax, ay)].length = ln := ⟨_, rfl⟩; rw [hln] at hO4 ⊢; clear hln; have hB4 := OwnC.grownBelow (HO.out.later (by go_grown)) hg4 (by have := K4.lt; simp; omega); have HX4 := hid hO4; have HB4 := hid (((by go_grown : Below w3.heap.size w3 _).mono (show w.heap.size + 1 ≤ w3.heap.size from K4.lt)).trans hB4); clear hg4 hO4 hB4))
              go_roundw
              case rel => exact ⟨k + 1, by omega, by go_num, by rw [HFY.out HEE.out]; exact HX4.out, (HB4.out.block _ (Nat.lt_succ_self _)).trans K4, hbw.trans (HB4.out.mono (Nat.le_succ _))⟩
              case measure => simp [intOf]; omega
            · have HEE := hid (show q < u by omega)
              go_wp2_with (first | (go_at_call 47; refine (apartS_q _ _ _ _ _ _ HGA.out HGQ.out HAQ.out).mono ?_; rintro e w3 ⟨rfl, hb3⟩; replace K4 := K4.later hb3; replace K8 := K8.later hb3; replace hbw := grew hbw hb3; replace HO := hid (HO.out.later hb3); clear hb3; have ca0 := K8.c0; have ca1 := K8.c1))
              go_roundw
              case rel => exact ⟨k + 1, by omega, by go_num, by rw [HFN.out (by have := HEE.out; omega)]; exact HO.out, K4, hbw⟩
              case measure => simp [intOf]; omega
          · obtain rfl : k = l.length := by omega
            obtain ⟨a3, c3, hv3⟩ := HO.out.shape
            subst hv3
            go_wp2
            go_ret2
            exact ⟨_, ret_vb rfl HK.out.symm, by unfold wiV; rw [HK.out, if_pos rfl]; have := HO.out.mono (Nat.le_succ w.heap.size); simpa using this, hbw⟩
end Go.Proofs.YtipiamhnngmjmaaDoor
