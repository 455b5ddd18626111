/-
  Peeled to a number: the specification's function and the program's (contracts for the walks).
  Conditions: as each theorem states them.
-/
import Derived.Test.YtoefllklngnmeaaGreatDoorLy9g
namespace Go.Proofs.YtoefllklngnmeaaGreatDoor
open Go.RowKit Go.Shelf
set_option linter.unusedVariables false
set_option maxRecDepth 8000
theorem l1In_c (n lo hi : Int) (w : World) : Calls Tryz.prog 36 #[.int .i64 n, .int .i64 lo, .int .i64 hi] w fun e w' => e = .returned (.bool (decide (lo ≤ n ∧ n ≤ hi))) ∧ w = w' := by
  by_cases h0 : lo ≤ n
  · by_cases h1 : n ≤ hi
    · have e : decide (lo ≤ n ∧ n ≤ hi) = true := decide_eq_true ⟨h0, h1⟩
      rw [e]
      go_enter Tryz.func36, Tryz.ntmps36
      go_wp2
      go_ret
      exact ⟨rfl, rfl⟩
    · have e : decide (lo ≤ n ∧ n ≤ hi) = false := decide_eq_false (by omega)
      rw [e]
      go_enter Tryz.func36, Tryz.ntmps36
      go_wp2
      go_ret
      exact ⟨rfl, rfl⟩
  · have e : decide (lo ≤ n ∧ n ≤ hi) = false := decide_eq_false (by omega)
    rw [e]
    go_enter Tryz.func36, Tryz.ntmps36
    go_wp2
    go_ret
    exact ⟨rfl, rfl⟩
theorem peV_bad {l : List (Int × Int)} {m : Int} (h : peOk l m = false) : peV l m = [] := by unfold peV; rw [h]; rfl
theorem pe_parts {l : List (Int × Int)} {m : Int} (h : peOk l m = true) : goodL l = true ∧ 0 ≤ m ∧ m ≤ 60 := by
  unfold peOk at h
  rw [Bool.and_eq_true] at h
  have := of_decide_eq_true h.2
  exact ⟨h.1, this.1, this.2⟩
set_option maxHeartbeats 8000000 in
theorem peelSpec_c (l : List (Int × Int)) (m : Int) (a : Option Addr) (len cap : Nat) (w : World) (hl : l.length = len) (h1 : len ≤ 1048576) (hF : Fit a len cap) (hA : At w.heap.size a l w) :
    Calls Tryz.prog 19 #[.slice a len cap, .int .i64 m] w fun e w' => ∃ v, e = .returned (.tuple #[v, .bool (peOk l m)]) ∧ OwnC w.heap.size v (peV l m) w' ∧ Below w.heap.size w w' := by
  subst hl
  have HA := hid hA
  clear hA
  cases hG : goodL l
  · have HK := hid (show peOk l m = false by unfold peOk; rw [hG]; rfl)
    go_enter Tryz.func19, Tryz.ntmps19
    go_wp2_with (go_at_call 26; refine (l2Good_c l _ _ _ _ rfl h1 HA.out).mono ?_; rw [hG]; rintro e w1 ⟨rfl, hb1⟩)
    go_ret2
    exact ⟨_, ret_vb9 HK.out.symm, by rw [peV_bad HK.out]; exact OwnC.nil _ _, hb1⟩
  · cases hI : decide (0 ≤ m ∧ m ≤ 60)
    · have HK := hid (show peOk l m = false by unfold peOk; rw [hI]; simp)
      go_enter Tryz.func19, Tryz.ntmps19
      go_wp2_with (first
        | (go_at_call 26; refine (l2Good_c l _ _ _ _ rfl h1 HA.out).mono ?_; rw [hG]; rintro e w1 ⟨rfl, hb1⟩)
        | (go_at_call 36; refine (l1In_c _ _ _ _).mono ?_; rw [hI]; rintro e w2 ⟨rfl, rfl⟩))
      go_ret2
      exact ⟨_, ret_vb9 HK.out.symm, by rw [peV_bad HK.out]; exact OwnC.nil _ _, hb1⟩
    · have HK := hid (show peOk l m = true by unfold peOk; rw [hG, hI]; rfl)
      have HV := hid (show peV l m = peeL m.toNat l by unfold peV; rw [if_pos HK.out])
      have HG := hid hG
      have h60 := goodL_few hG
      obtain ⟨_, m0, m6⟩ := pe_parts HK.out
      obtain ⟨M, rfl⟩ : ∃ M : Nat, m = (M : Int) := ⟨m.toNat, by omega⟩
      rw [Int.toNat_natCast] at HV
      go_enter Tryz.func19, Tryz.ntmps19
      go_wp2_with (first
        | (go_at_call 26; refine (l2Good_c l _ _ _ _ rfl h1 HA.out).mono ?_; rw [hG]; rintro e w1 ⟨rfl, hb1⟩)
        | (go_at_call 36; refine (l1In_c _ _ _ _).mono ?_; rw [hI]; rintro e w2 ⟨rfl, rfl⟩)
        | (go_at_call 37; refine (l2Own_c l _ _ _ _ rfl h1 hF ((HA.out.later hb1).mono hb1.size)).mono ?_; rintro e w2 ⟨v2, rfl, hO2, hb2⟩; obtain ⟨a3, c3, hv3⟩ := hO2.shape; subst hv3))
      have HB2 := hid (grew hb1 hb2)
      have HO2 := hid (hO2.cut.mono hb1.size)
      clear hG hI hb1 hb2 hO2 m0
      go_loopw [6] (fun o wr => ∃ (cur : List (Int × Int)) (ai : Option Addr) (ci : Nat), o = .slice ai cur.length ci ∧ OwnC w.heap.size (.slice ai cur.length ci) cur wr ∧ goodL cur = true ∧ peeL M cur = peeL M l ∧ cur.length ≤ l.length ∧ Below w.heap.size w wr) (fun o _ => sliceLen o)
      case atStart => exact ⟨l, a3, c3, rfl, HO2.out, HG.out, rfl, Nat.le_refl _, HB2.out⟩
      case round =>
        obtain ⟨cur, ai, ci, rfl, hO, hGc, hPP, hcl, hbw⟩ := hrel
        have HO := hid hO
        by_cases h0 : M < cur.length
        · have HST := hid (peeL_step hGc h0)
          have HLS := hid (rst_less hGc (by omega))
          have HRG := hid (rstL_good hGc)
          have HPP := hid hPP
          have HBW := hid hbw
          have hd : decide ((M : Int) < (cur.length : Int)) = true := decide_eq_true (by omega)
          clear hPP hGc hO hbw
          go_wp2_with (go_at_call 29; refine (l9Rim_c cur _ _ _ wr rfl (by omega) HO.out.fit HO.out.at).mono ?_; rintro e w3 ⟨v1, u1, rfl, hv, hu, hb3⟩; obtain ⟨a5, c5, hv5⟩ := hv.shape; subst hv5; obtain ⟨a6, c6, hv6⟩ := hu.shape; subst hv6)
          go_roundw
          case rel => exact ⟨rstL cur, a6, c6, rfl, hu.mono HBW.out.size, HRG.out, by rw [← HPP.out, HST.out], by have := HLS.out; omega, grew HBW.out hb3⟩
          case measure => exact HLS.out
        · have HPS := hid (peeL_stop (m := M) (s := cur) (by omega))
          have HPP := hid hPP
          have hd : decide ((M : Int) < (cur.length : Int)) = false := decide_eq_false (by omega)
          clear hPP hO
          go_wp2
          go_ret2
          exact ⟨_, ret_vb9 HK.out.symm, by rw [HV.out, ← HPP.out, HPS.out]; exact HO.out, hbw⟩
set_option maxHeartbeats 8000000 in
theorem peelImpl_c (l : List (Int × Int)) (m : Int) (a : Option Addr) (len cap : Nat) (w : World) (hl : l.length = len) (h1 : len ≤ 1048576) (hA : At w.heap.size a l w) (c0 : w.cell? ⟨0, 0, none⟩ = some (.int .i64 1000000)) :
    Calls Tryz.prog 18 #[.slice a len cap, .int .i64 m] w fun e w' => ∃ v, e = .returned (.tuple #[v, .bool (peOk l m)]) ∧ OwnC w.heap.size v (peV l m) w' ∧ Below w.heap.size w w' := by
  subst hl
  have HA := hid hA
  have C0 := hid c0
  have hz : 0 < w.heap.size := World.block_lt_of_cell? w _ c0
  clear hA c0
  cases hG : goodL l
  · have HK := hid (show peOk l m = false by unfold peOk; rw [hG]; rfl)
    go_enter Tryz.func18, Tryz.ntmps18
    go_wp2_with (go_at_call 23; refine (goodSetImpl_c l _ _ _ _ rfl h1 HA.out C0.out).mono ?_; rw [hG]; rintro e w1 ⟨rfl, hb1⟩)
    go_ret2
    exact ⟨_, ret_vb9 HK.out.symm, by rw [peV_bad HK.out]; exact OwnC.nil _ _, hb1⟩
  · by_cases hm0 : m < 0
    · have HK := hid (show peOk l m = false by unfold peOk; rw [decide_eq_false (by omega)]; simp)
      go_enter Tryz.func18, Tryz.ntmps18
      go_wp2_with (go_at_call 23; refine (goodSetImpl_c l _ _ _ _ rfl h1 HA.out C0.out).mono ?_; rw [hG]; rintro e w1 ⟨rfl, hb1⟩)
      go_ret2
      exact ⟨_, ret_vb9 HK.out.symm, by rw [peV_bad HK.out]; exact OwnC.nil _ _, hb1⟩
    · by_cases hm6 : 60 < m
      · have HK := hid (show peOk l m = false by unfold peOk; rw [decide_eq_false (by omega)]; simp)
        go_enter Tryz.func18, Tryz.ntmps18
        go_wp2_with (go_at_call 23; refine (goodSetImpl_c l _ _ _ _ rfl h1 HA.out C0.out).mono ?_; rw [hG]; rintro e w1 ⟨rfl, hb1⟩)
        go_ret2
        exact ⟨_, ret_vb9 HK.out.symm, by rw [peV_bad HK.out]; exact OwnC.nil _ _, hb1⟩
      · have HK := hid (show peOk l m = true by unfold peOk; rw [hG, decide_eq_true (by omega)]; rfl)
        have HV := hid (show peV l m = peeL m.toNat l by unfold peV; rw [if_pos HK.out])
        have HG := hid hG
        have h60 := goodL_few hG
        obtain ⟨M, rfl⟩ : ∃ M : Nat, m = (M : Int) := ⟨m.toNat, by omega⟩
        rw [Int.toNat_natCast] at HV
        go_enter Tryz.func18, Tryz.ntmps18
        go_wp2_with (first
          | (go_at_call 23; refine (goodSetImpl_c l _ _ _ _ rfl h1 HA.out C0.out).mono ?_; rw [hG]; rintro e w1 ⟨rfl, hb1⟩)
          | (go_at_call 24; refine (coreOf_c l _ _ _ w1 rfl h1 HG.out ((HA.out.later hb1).mono hb1.size)).mono ?_; rintro e w2 ⟨b, D, rfl, hbb, hP2, hb2⟩; have HB2 := hid (grew hb1 hb2); have hw1 := hb1.size))
        have hbw0 : w.heap.size ≤ b := by omega
        clear hb1 hb2 hG hm0
        go_loopw [20] (fun _ wr => ∃ (cur : List (Int × Int)) (D' : DataW Unit), PM wr b l.length cur D' ∧ goodL cur = true ∧ peeL M cur = peeL M l ∧ cur.length ≤ l.length ∧ Below w.heap.size w wr) (fun _ wr => mapMany wr b)
        case atStart => exact ⟨l, D, hP2, HG.out, rfl, Nat.le_refl _, HB2.out⟩
        case round =>
          obtain ⟨cur, D', hP, hGc, hPP, hcl, hbw⟩ := hrel
          have HSZ := hid hP.size
          by_cases h0 : M < cur.length
          · have HST := hid (peeL_step hGc h0)
            have HLS := hid (rst_less hGc (by omega))
            have HRG := hid (rstL_good hGc)
            have HPP := hid hPP
            have HBW := hid hbw
            have HP := hid hP
            have HGC := hid hGc
            have hd : decide ((M : Int) < (cur.length : Int)) = true := decide_eq_true (by omega)
            clear hPP hGc hP hbw
            go_wp2_with (first
              | (at_len; refine wpList_len_own _ rfl _ 47 rfl 36 63 Tryz.underlying47 unitElem b _ _ rfl HP.out.own ?_; rw [HSZ.out])
              | (go_at_call 25; refine (peel_c b l.length cur D' wr HP.out HGC.out (by omega) (cell_later HBW.out C0.out)).mono ?_; rintro e w3 ⟨v1, D3, rfl, hv, hP3, hg3⟩))
            go_roundw
            case rel => exact ⟨rstL cur, D3, hP3, HRG.out, by rw [← HPP.out, HST.out], by have := HLS.out; omega, HBW.out.grown hg3 HBW.out.size (fun j hj => by cases hj; omega)⟩
            case measure => rw [hP3.many, HP.out.many]; exact HLS.out
          · have HPS := hid (peeL_stop (m := M) (s := cur) (by omega))
            have HPP := hid hPP
            have HP := hid hP
            have HPW := hid ((good_iff _).1 hGc).2.2
            have hd : decide ((M : Int) < (cur.length : Int)) = false := decide_eq_false (by omega)
            clear hPP hP
            go_wp2_with (first
              | (at_len; refine wpList_len_own _ rfl _ 47 rfl 36 63 Tryz.underlying47 unitElem b _ _ rfl HP.out.own ?_; rw [HSZ.out])
              | (go_at_call 28; refine (mapOrder_c b l.length cur D' wr HP.out HPW.out (by omega)).mono ?_; rintro e w4 ⟨v4, rfl, hv4, hb4⟩))
            go_ret2
            exact ⟨_, ret_vb9 HK.out.symm, by rw [HV.out, ← HPP.out, HPS.out]; exact hv4.cut.mono hbw.size, grew hbw hb4⟩
end Go.Proofs.YtoefllklngnmeaaGreatDoor
