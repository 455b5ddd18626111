/-
  Layers: the specification's functions and the program's (contracts for the walks).
  Conditions: as each theorem states them.
-/
import Derived.Test.YtoefllklngnmeaaDoorLy9s
import Derived.Test.YtoefllklngnmeaaDoorHas9
namespace Go.Proofs.YtoefllklngnmeaaDoor
open Go.RowKit Go.Shelf
set_option linter.unusedVariables false
set_option maxRecDepth 8000
theorem ret_vb9 {v : Value} {a b : Bool} (k : a = b) : Ending.returned (.tuple #[v, .bool a]) = .returned (.tuple #[v, .bool b]) := by rw [k]
theorem c0_ne {w : World} {b n : Nat} {s : List (Int × Int)} {D : DataW Unit} {N : Nat} (h : PM w b n s D) (hN : 0 < N) (hb : N ≤ b) : 0 < b := by omega
set_option maxHeartbeats 4000000 in
theorem withoutSpec_c (l : List (Int × Int)) (a : Option Addr) (len cap : Nat) (w : World) (hl : l.length = len) (h1 : len ≤ 1048576) (hF : Fit a len cap) (hA : At w.heap.size a l w) :
    Calls Tryd.prog 24 #[.slice a len cap] w fun e w' => ∃ v, e = .returned (.tuple #[v, .bool (goodL l)]) ∧ OwnC w.heap.size v (woL l) w' ∧ Below w.heap.size w w' := by
  subst hl
  have HA := hid hA
  clear hA
  cases hG : goodL l
  · go_enter Tryd.func24, Tryd.ntmps24
    go_wp2_with (go_at_call 35; refine (l2Good_c l _ _ _ _ rfl h1 HA.out).mono ?_; rw [hG]; rintro e w1 ⟨rfl, hb1⟩)
    go_ret2
    exact ⟨_, rfl, by unfold woL; rw [hG]; exact OwnC.nil _ _, hb1⟩
  · have h60 := goodL_few hG
    have HG := hid hG
    go_enter Tryd.func24, Tryd.ntmps24
    go_wp2_with (first
      | (go_at_call 35; refine (l2Good_c l _ _ _ _ rfl h1 HA.out).mono ?_; rw [hG]; rintro e w1 ⟨rfl, hb1⟩)
      | (go_at_call 50; refine (l9Rim_c l _ _ _ w1 rfl (by omega) hF ((HA.out.later hb1).mono hb1.size)).mono ?_; rintro e w2 ⟨v, u, rfl, hv, hu, hb2⟩))
    go_ret2
    exact ⟨_, rfl, by unfold woL; rw [if_pos HG.out]; exact hu.mono hb1.size, grew hb1 hb2⟩
set_option maxHeartbeats 4000000 in
theorem withoutImpl_c (l : List (Int × Int)) (a : Option Addr) (len cap : Nat) (w : World) (hl : l.length = len) (h1 : len ≤ 1048576) (hA : At w.heap.size a l w) (c0 : w.cell? ⟨0, 0, none⟩ = some (.int .i64 1000000)) :
    Calls Tryd.prog 25 #[.slice a len cap] w fun e w' => ∃ v, e = .returned (.tuple #[v, .bool (goodL l)]) ∧ OwnC w.heap.size v (woL l) w' ∧ Below w.heap.size w w' := by
  subst hl
  have HA := hid hA
  have C0 := hid c0
  have hz : 0 < w.heap.size := World.block_lt_of_cell? w _ c0
  clear hA c0
  cases hG : goodL l
  · go_enter Tryd.func25, Tryd.ntmps25
    go_wp2_with (go_at_call 39; refine (goodSetImpl_c l _ _ _ _ rfl h1 HA.out C0.out).mono ?_; rw [hG]; rintro e w1 ⟨rfl, hb1⟩)
    go_ret2
    exact ⟨_, rfl, by unfold woL; rw [hG]; exact OwnC.nil _ _, hb1⟩
  · have h60 := goodL_few hG
    have HG := hid hG
    have HPW := hid ((good_iff _).1 (rstL_good hG)).2.2
    have hrl := rstL_len l
    go_enter Tryd.func25, Tryd.ntmps25
    go_wp2_with (first
      | (go_at_call 39; refine (goodSetImpl_c l _ _ _ _ rfl h1 HA.out C0.out).mono ?_; rw [hG]; rintro e w1 ⟨rfl, hb1⟩)
      | (go_at_call 45; refine (coreOf_c l _ _ _ w1 rfl h1 HG.out ((HA.out.later hb1).mono hb1.size)).mono ?_; rintro e w2 ⟨b, D, rfl, hbb, hP2, hb2⟩; have HB2 := hid (grew hb1 hb2); have hs1 := hb1.size)
      | (go_at_call 46; refine (peel_c b l.length l D w2 hP2 HG.out (by omega) (cell_later HB2.out C0.out)).mono ?_; rintro e w3 ⟨v3, D3, rfl, hv3, hP3, hg3⟩)
      | (go_at_call 51; refine (mapOrder_c b l.length (rstL l) D3 w3 hP3 HPW.out (by omega)).mono ?_; rintro e w4 ⟨v4, rfl, hv4, hb4⟩))
    go_ret2
    have hb3 : Below w.heap.size w w3 := HB2.out.grown hg3 HB2.out.size (fun j hj => by cases hj; omega)
    exact ⟨_, rfl, by unfold woL; rw [if_pos HG.out]; exact hv4.cut.mono hb3.size, grew hb3 hb4⟩
set_option maxHeartbeats 4000000 in
theorem layersSpec_c (l : List (Int × Int)) (a : Option Addr) (len cap : Nat) (w : World) (hl : l.length = len) (h1 : len ≤ 1048576) (hF : Fit a len cap) (hA : At w.heap.size a l w) :
    Calls Tryd.prog 16 #[.slice a len cap] w fun e w' => ∃ v vs, e = .returned (.tuple #[v, .bool (goodL l)]) ∧ OwnSS w.heap.size v (lysL l) vs w' ∧ Below w.heap.size w w' := by
  subst hl
  have HA := hid hA
  clear hA
  cases hG : goodL l
  · go_enter Tryd.func16, Tryd.ntmps16
    go_wp2_with (go_at_call 35; refine (l2Good_c l _ _ _ _ rfl h1 HA.out).mono ?_; rw [hG]; rintro e w1 ⟨rfl, hb1⟩)
    go_ret2
    exact ⟨_, [], rfl, by unfold lysL; rw [hG]; exact OwnSS.nil _ _, hb1⟩
  · have HG := hid hG
    go_enter Tryd.func16, Tryd.ntmps16
    go_wp2_with (first
      | (go_at_call 35; refine (l2Good_c l _ _ _ _ rfl h1 HA.out).mono ?_; rw [hG]; rintro e w1 ⟨rfl, hb1⟩)
      | (go_at_call 44; refine (l9Layers_c l _ _ _ w1 rfl HG.out hF ((HA.out.later hb1).mono hb1.size)).mono ?_; rintro e w2 ⟨v, vs, rfl, hv, hb2⟩; obtain ⟨a3, c3, hv3⟩ := hv.shape; subst hv3))
    go_ret2
    exact ⟨_, vs, rfl, by unfold lysL; rw [if_pos HG.out]; exact hv.mono hb1.size, grew hb1 hb2⟩
set_option maxHeartbeats 8000000 in
theorem layersImpl_c (l : List (Int × Int)) (a : Option Addr) (len cap : Nat) (w : World) (hl : l.length = len) (h1 : len ≤ 1048576) (hA : At w.heap.size a l w) (c0 : w.cell? ⟨0, 0, none⟩ = some (.int .i64 1000000)) :
    Calls Tryd.prog 17 #[.slice a len cap] w fun e w' => ∃ v vs, e = .returned (.tuple #[v, .bool (goodL l)]) ∧ OwnSS w.heap.size v (lysL l) vs w' ∧ Below w.heap.size w w' := by
  subst hl
  have HA := hid hA
  have C0 := hid c0
  have hz : 0 < w.heap.size := World.block_lt_of_cell? w _ c0
  clear hA c0
  obtain ⟨is, hsi, hs0, hs1, hs2⟩ := info_parts info_sl
  cases hG : goodL l
  · go_enter Tryd.func17, Tryd.ntmps17
    go_wp2_with (go_at_call 39; refine (goodSetImpl_c l _ _ _ _ rfl h1 HA.out C0.out).mono ?_; rw [hG]; rintro e w1 ⟨rfl, hb1⟩)
    go_ret2
    exact ⟨_, [], rfl, by unfold lysL; rw [hG]; exact OwnSS.nil _ _, hb1⟩
  · have h60 := goodL_few hG
    have HG := hid hG
    go_enter Tryd.func17, Tryd.ntmps17
    go_wp2_with (first
      | (go_at_call 39; refine (goodSetImpl_c l _ _ _ _ rfl h1 HA.out C0.out).mono ?_; rw [hG]; rintro e w1 ⟨rfl, hb1⟩)
      | (go_at_call 45; refine (coreOf_c l _ _ _ w1 rfl h1 HG.out ((HA.out.later hb1).mono hb1.size)).mono ?_; rintro e w2 ⟨b, D, rfl, hbb, hP2, hb2⟩; have HB2 := hid (grew hb1 hb2); have hw1 := hb1.size))
    have hbw0 : w.heap.size ≤ b := by omega
    clear hb1 hb2 hG
    go_loopw [4] (fun o wr => ∃ (cur : List (Int × Int)) (D' : DataW Unit) (L : List (List (Int × Int))) (vs : List Value), PM wr b l.length cur D' ∧ goodL cur = true ∧ OwnSS (b + 1) o L vs wr ∧ L ++ layL cur = layL l ∧ L.length + cur.length ≤ l.length ∧ Below w.heap.size w wr) (fun _ wr => mapMany wr b)
    case atStart => exact ⟨l, D, [], [], hP2, HG.out, OwnSS.nil _ _, rfl, by simp, HB2.out⟩
    case round =>
      obtain ⟨cur, D', L, vs, hP, hGc, hO, hLL, hcnt, hbw⟩ := hrel
      have HSZ := hid hP.size
      by_cases h0 : 0 < cur.length
      · have HST := hid (layL_step hGc h0)
        have HLS := hid (rst_less hGc h0)
        have HRG := hid (rstL_good hGc)
        have hlen := hO.len
        have hvl : vs.length + 1 ≤ 1048576 := by omega
        have HO := hid hO
        have HLL := hid hLL
        have HP := hid hP
        have HBW := hid hbw
        have HGC := hid hGc
        have hszr := hbw.size
        have hbr := hP.lt
        have hd : decide ((0 : Int) < (cur.length : Int)) = true := decide_eq_true (by omega)
        obtain ⟨a3, c3, hv3⟩ := hO.shape
        subst hv3
        clear hO hP hGc hLL hbw
        go_wp2_with (first
          | (at_len; refine wpList_len_own _ rfl _ 62 rfl 30 80 Tryd.underlying62 unitElem b _ _ rfl HP.out.own ?_; rw [HSZ.out])
          | (go_at_call 46; refine (peel_c b l.length cur D' wr HP.out HGC.out (by omega) (cell_later HBW.out C0.out)).mono ?_; rintro e w3 ⟨v1, D3, rfl, hv, hP3, hg3⟩; obtain ⟨a5, c5, hv5⟩ := hv.shape; subst hv5; have hw3 := hg3.size; have HV := hid hv; have HP3 := hid hP3; have HG3 := hid hg3; have HO3 := hid (HO.out.grownB hg3 (Nat.lt_succ_self _)); clear hv hP3 hg3)
          | (at_builtin; refine wpList_append_one rfl _ _ 34 rfl (b + 1) Tryd.underlying34 hsi hs0 hs1 hs2 (by rfl) (.slice a3 L.length c3) (.slice a5 (rimL cur).length c5) vs rfl (by rfl) (HO3.out.out.later (by go_grown)) ⟨w3.heap.size, 0, none⟩ 1 rfl (by simp [go_sem]) rfl hvl (by simp; omega) ?_; intro g cp w4 hO4 hg4 hl4; have HO4 := hid hO4; have HG4 := hid hg4; have HL4 := hid hl4; clear hO4 hg4 hl4))
        have hbA : Below w3.heap.size w3 (w3.alloc (.cells #[.slice a5 (rimL cur).length c5] 28)) := by go_grown
        have e2 : wr.grownBy (w3.alloc (.cells #[.slice a5 (rimL cur).length c5] 28)) (some b) := HG3.out.andThen (World.grownBy_alloc _ _ none) (fun j hj => by cases hj)
        have hP4 : PM w4 b l.length (rstL cur) D3 := (HP3.out.later hbA (by omega)).kept HG4.out (fun e => by have := (HO3.out.out.lt e.symm).1; omega)
        refine ⟨⟨rstL cur, D3, L ++ [rimL cur], vs ++ [.slice a5 (rimL cur).length c5], hP4, HRG.out, ?_, ?_, ?_, ?_⟩, ?_⟩
        · have := HO.out.pushB e2 (Nat.lt_succ_self _) (by omega) (HV.out.later hbA) HO4.out HG4.out HL4.out
          rwa [hlen] at this
        · rw [List.append_assoc, ← HLL.out, HST.out]; rfl
        · have := HLS.out
          rw [List.length_append, List.length_singleton]; omega
        · exact (HBW.out.grown e2 HBW.out.size (fun j hj => by cases hj; omega)).grown HG4.out (by simp; omega) (fun j hj => by have := (HO3.out.out.lt hj).1; omega)
        · show mapMany w4 b < mapMany wr b
          rw [hP4.many, HP.out.many]; exact HLS.out
      · have hc0 : cur.length = 0 := by omega
        have HLL := hid hLL
        have HC0 := hid hc0
        have HP := hid hP
        have hd : decide ((0 : Int) < (cur.length : Int)) = false := decide_eq_false (by omega)
        clear hLL hc0 hP
        obtain ⟨a3, c3, hv3⟩ := hO.shape
        subst hv3
        go_wp2_with (at_len; refine wpList_len_own _ rfl _ 62 rfl 30 80 Tryd.underlying62 unitElem b _ _ rfl HP.out.own ?_; rw [HSZ.out])
        go_ret2
        refine ⟨_, vs, rfl, ?_, hbw⟩
        have e := HLL.out
        rw [layL_none HC0.out, List.append_nil] at e
        unfold lysL
        rw [if_pos HG.out, ← e]
        exact hO.mono (by omega)
end Go.Proofs.YtoefllklngnmeaaDoor
