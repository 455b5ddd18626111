/-
  How many layers, which one, and what is peeled: the specification's functions and the program's (contracts for the walks).
  Conditions: as each theorem states them.
-/
import Derived.Test.YtoefllklngnmeaaDoorLy9f
namespace Go.Proofs.YtoefllklngnmeaaDoor
open Go.RowKit Go.Shelf
set_option linter.unusedVariables false
set_option maxRecDepth 8000
theorem lysL_bad {l : List (Int × Int)} (h : goodL l = false) : lysL l = [] := by unfold lysL; rw [h]; rfl
theorem lysL_good {l : List (Int × Int)} (h : goodL l = true) : lysL l = layL l := by unfold lysL; rw [if_pos h]
set_option maxHeartbeats 4000000 in
theorem manySpec_c (l : List (Int × Int)) (a : Option Addr) (len cap : Nat) (w : World) (hl : l.length = len) (h1 : len ≤ 1048576) (hF : Fit a len cap) (hA : At w.heap.size a l w) :
    Calls Tryd.prog 27 #[.slice a len cap] w fun e w' => e = .returned (.tuple #[.int .i64 ((lysL l).length : Nat), .bool (goodL l)]) ∧ Below w.heap.size w w' := by
  subst hl
  have HA := hid hA
  clear hA
  cases hG : goodL l
  · have HB := hid (lysL_bad hG)
    go_enter Tryd.func27, Tryd.ntmps27
    go_wp2_with (go_at_call 35; refine (l2Good_c l _ _ _ _ rfl h1 HA.out).mono ?_; rw [hG]; rintro e w1 ⟨rfl, hb1⟩)
    go_ret2
    exact ⟨ret_ib (by rw [HB.out]; rfl) rfl, hb1⟩
  · have HG := hid hG
    have HB := hid (lysL_good hG)
    go_enter Tryd.func27, Tryd.ntmps27
    go_wp2_with (first
      | (go_at_call 35; refine (l2Good_c l _ _ _ _ rfl h1 HA.out).mono ?_; rw [hG]; rintro e w1 ⟨rfl, hb1⟩)
      | (go_at_call 44; refine (l9Layers_c l _ _ _ w1 rfl HG.out hF ((HA.out.later hb1).mono hb1.size)).mono ?_; rintro e w2 ⟨v, vs, rfl, hv, hb2⟩; obtain ⟨a3, c3, hv3⟩ := hv.shape; subst hv3))
    go_ret2
    exact ⟨ret_ib (by rw [HB.out]) rfl, grew hb1 hb2⟩
set_option maxHeartbeats 4000000 in
theorem manyImpl_c (l : List (Int × Int)) (a : Option Addr) (len cap : Nat) (w : World) (hl : l.length = len) (h1 : len ≤ 1048576) (hA : At w.heap.size a l w) (c0 : w.cell? ⟨0, 0, none⟩ = some (.int .i64 1000000)) :
    Calls Tryd.prog 28 #[.slice a len cap] w fun e w' => e = .returned (.tuple #[.int .i64 ((lysL l).length : Nat), .bool (goodL l)]) ∧ Below w.heap.size w w' := by
  subst hl
  have HA := hid hA
  have C0 := hid c0
  clear hA c0
  go_enter Tryd.func28, Tryd.ntmps28
  go_wp2_with (go_at_call 17; refine (layersImpl_c l _ _ _ w rfl h1 HA.out C0.out).mono ?_; rintro e w2 ⟨v, vs, rfl, hv, hb2⟩; obtain ⟨a3, c3, hv3⟩ := hv.shape; subst hv3)
  go_ret2
  exact ⟨rfl, hb2⟩
/-- In a rising list the search finds just what is there. -/
theorem has_in {l : List (Int × Int)} {x y : Int} (h : RisesTo l (l.length - 1)) : hasB l x y = decide ((x, y) ∈ l) := by
  rw [Bool.eq_iff_iff, decide_eq_true_iff]
  unfold hasB
  rw [Bool.and_eq_true, decide_eq_true_iff]
  constructor
  · rintro ⟨h1, h2⟩
    have e := of_decide_eq_true h2
    have := pt_mem h1
    unfold pt at this
    rw [e.1, e.2] at this
    exact this
  · intro hm
    obtain ⟨i, hi, e⟩ := mem_pt hm
    have e1 : px l i = x := congrArg Prod.fst e
    have e2 : py l i = y := congrArg Prod.snd e
    have hp : plc l x y = i := plc_is l x y i (by omega) (fun j hj => by
      have := less_at h hj hi
      rw [e] at this
      exact this) (fun _ => by rw [e1, e2]; exact less_irrefl x y)
    rw [hp]
    exact ⟨hi, by unfold eqB; exact decide_eq_true ⟨e1, e2⟩⟩
theorem ly_none {l : List (Int × Int)} {p : Int × Int} (h : NoTo (fun k => decide (p ∈ nth (lysL l) k)) (lysL l).length) : lyOk l p = false := by
  rw [ly_found]
  unfold lyK
  exact decide_eq_false (by have := fstT_none _ h; unfold nth at this; rw [this]; omega)
theorem ly_at {l : List (Int × Int)} {p : Int × Int} {k : Nat} (h : NoTo (fun k => decide (p ∈ nth (lysL l) k)) k) (hk : k < (lysL l).length) (e : decide (p ∈ nth (lysL l) k) = true) : lyOk l p = true ∧ lyV l p = k := by
  have hK : lyK l p = k := fstT_at h e _ hk
  have hO : lyOk l p = true := by rw [ly_found, hK]; exact decide_eq_true hk
  exact ⟨hO, by unfold lyV; rw [if_pos hO, hK]⟩
set_option maxHeartbeats 8000000 in
theorem layerSpec_c (l : List (Int × Int)) (x y : Int) (a : Option Addr) (len cap : Nat) (w : World) (hl : l.length = len) (h1 : len ≤ 1048576) (hF : Fit a len cap) (hA : At w.heap.size a l w) :
    Calls Tryd.prog 22 #[.slice a len cap, .agg #[.int .i64 x, .int .i64 y]] w fun e w' => e = .returned (.tuple #[.int .i64 (lyV l (x, y) : Nat), .bool (lyOk l (x, y))]) ∧ Below w.heap.size w w' := by
  subst hl
  have HA := hid hA
  clear hA
  have hbw : Below w.heap.size w (w.alloc (.cells #[.int .i64 x, .int .i64 y] 30)) := by go_grown
  have k0 := box0 w x y 30
  have k1 := box1 w x y 30
  cases hG : goodL l
  · have HK := hid (show lyOk l (x, y) = false by unfold lyOk; rw [hG]; rfl)
    go_enter Tryd.func22, Tryd.ntmps22
    go_wp2_with (go_at_call 35; refine (l2Good_c l _ _ _ _ rfl h1 ((HA.out.later hbw).mono hbw.size)).mono ?_; rw [hG]; rintro e w1 ⟨rfl, hb⟩; replace hbw := grew hbw hb)
    go_ret2
    exact ⟨ret_ib (by unfold lyV; rw [HK.out]; rfl) HK.out.symm, hbw⟩
  · have HG := hid hG
    have HIN := hid (has_in (x := x) (y := y) (goodL_rises hG))
    cases hH : decide ((x, y) ∈ l)
    · have HK := hid (show lyOk l (x, y) = false by unfold lyOk; rw [hH]; simp)
      go_enter Tryd.func22, Tryd.ntmps22
      go_wp2_with (first
        | (go_at_call 35; refine (l2Good_c l _ _ _ _ rfl h1 ((HA.out.later hbw).mono hbw.size)).mono ?_; rw [hG]; rintro e w1 ⟨rfl, hb⟩; replace hbw := grew hbw hb; replace k0 := cell_later hb k0; replace k1 := cell_later hb k1; clear hb)
        | (go_at_call 47; refine (l2Has_c l x y _ _ _ _ rfl h1 ((HA.out.later hbw).mono hbw.size)).mono ?_; rw [HIN.out, hH]; rintro e w2 ⟨rfl, hb⟩; replace hbw := grew hbw hb))
      go_ret2
      exact ⟨ret_ib (by unfold lyV; rw [HK.out]; rfl) HK.out.symm, hbw⟩
    · have HE := hid (lysL_good hG)
      go_enter Tryd.func22, Tryd.ntmps22
      go_wp2_with (first
        | (go_at_call 35; refine (l2Good_c l _ _ _ _ rfl h1 ((HA.out.later hbw).mono hbw.size)).mono ?_; rw [hG]; rintro e w1 ⟨rfl, hb⟩; replace hbw := grew hbw hb; replace k0 := cell_later hb k0; replace k1 := cell_later hb k1; clear hb)
        | (go_at_call 47; refine (l2Has_c l x y _ _ _ _ rfl h1 ((HA.out.later hbw).mono hbw.size)).mono ?_; rw [HIN.out, hH]; rintro e w2 ⟨rfl, hb⟩; replace hbw := grew hbw hb; replace k0 := cell_later hb k0; replace k1 := cell_later hb k1; clear hb)
        | (go_at_call 44; refine (l9Layers_c l _ _ _ _ rfl HG.out hF ((HA.out.later hbw).mono hbw.size)).mono ?_; rw [← HE.out]; rintro e w2 ⟨v, vs, rfl, hv, hb⟩; obtain ⟨a3, c3, hv3⟩ := hv.shape; subst hv3; have HV := hid hv.at; replace hbw := grew hbw hb; replace k0 := cell_later hb k0; replace k1 := cell_later hb k1; clear hb hv))
      have HB2 := hid hbw
      clear hG hH hbw
      go_loopw [20] (fun i wr => ∃ k : Nat, k ≤ (lysL l).length ∧ i = .int .i64 k ∧ NoTo (fun k => decide ((x, y) ∈ nth (lysL l) k)) k ∧ wr.cell? ⟨w.heap.size, 0, none⟩ = some (.int .i64 x) ∧ wr.cell? ⟨w.heap.size, 1, none⟩ = some (.int .i64 y) ∧ Below w2.heap.size w2 wr) (fun i _ => (lysL l).length - (intOf i).toNat)
      case atStart => exact ⟨0, Nat.zero_le _, rfl, fun i hi => absurd hi (Nat.not_lt_zero _), k0, k1, Below.refl _ _⟩
      case round =>
        clear k0 k1
        obtain ⟨k, hk, rfl, hC, k0, k1, hbw⟩ := hrel
        have HC := hid hC
        have HBW := hid (HB2.out.trans (hbw.mono HB2.out.size))
        clear hC
        by_cases hkl : k < (lysL l).length
        · obtain ⟨b, off, ai, ci, rfl, hN, g0, i0⟩ := HV.out k hkl
          have q0 := cell_later hbw g0
          have I0 := hid ((i0.later hbw).mono hbw.size)
          have hin : (nth (lysL l) k).length ≤ 1048576 := by
            have : nth (lysL l) k ∈ lysL l := by unfold nth; rw [List.getD_eq_getElem?_getD, List.getElem?_eq_getElem hkl]; exact List.getElem_mem hkl
            have := lysL_in l _ this
            omega
          have hd : decide ((k : Int) < ((lysL l).length : Int)) = true := decide_eq_true (by omega)
          have j0 : (0 : Int) ≤ (k : Int) := by omega
          have j1 : (k : Int) < ((lysL l).length : Int) := by omega
          have hbl : b < wr.heap.size := by have := hbw.size; omega
          have hkb : k ≤ 60 := by have := lysL_len l; omega
          have hbw' := hbw
          clear g0 i0 hbw
          have HLY := hid (fun e => ly_at (l := l) (p := (x, y)) HC.out hkl e)
          cases hE : decide ((x, y) ∈ nth (lysL l) k)
          · go_wp2_with (go_at_call 48; refine (has_c (nth (lysL l) k) x y _ _ _ wr rfl hin I0.out).mono ?_; rw [hE]; rintro e w3 ⟨rfl, hb⟩; replace k0 := cell_later hb k0; replace k1 := cell_later hb k1)
            go_roundw
            case rel => exact ⟨k + 1, by omega, by go_num, HC.out.succ hE, k0, k1, hbw'.trans (hb.mono hbw'.size)⟩
            case measure => simp [intOf]; omega
          · go_wp2_with (go_at_call 48; refine (has_c (nth (lysL l) k) x y _ _ _ wr rfl hin I0.out).mono ?_; rw [hE]; rintro e w3 ⟨rfl, hb⟩)
            go_ret2
            exact ⟨ret_ib (congrArg Int.ofNat (HLY.out hE).2.symm) (HLY.out hE).1.symm, grew HBW.out hb⟩
        · obtain rfl : k = (lysL l).length := by omega
          have HN := hid (ly_none HC.out)
          go_wp2
          go_ret2
          exact ⟨ret_ib (by unfold lyV; rw [HN.out]; rfl) HN.out.symm, HBW.out⟩
set_option maxHeartbeats 8000000 in
theorem layerImpl_c (l : List (Int × Int)) (x y : Int) (a : Option Addr) (len cap : Nat) (w : World) (hl : l.length = len) (h1 : len ≤ 1048576) (hA : At w.heap.size a l w) (c0 : w.cell? ⟨0, 0, none⟩ = some (.int .i64 1000000)) :
    Calls Tryd.prog 23 #[.slice a len cap, .agg #[.int .i64 x, .int .i64 y]] w fun e w' => e = .returned (.tuple #[.int .i64 (lyV l (x, y) : Nat), .bool (lyOk l (x, y))]) ∧ Below w.heap.size w w' := by
  subst hl
  have HA := hid hA
  have C0 := hid c0
  clear hA c0
  have hbw : Below w.heap.size w (w.alloc (.cells #[.int .i64 x, .int .i64 y] 30)) := by go_grown
  have k0 := box0 w x y 30
  have k1 := box1 w x y 30
  go_enter Tryd.func23, Tryd.ntmps23
  go_wp2_with (go_at_call 17; refine (layersImpl_c l _ _ _ _ rfl h1 ((HA.out.later hbw).mono hbw.size) (cell_later hbw C0.out)).mono ?_; rintro e w2 ⟨v, vs, rfl, hv, hb⟩; obtain ⟨a3, c3, hv3⟩ := hv.shape; subst hv3; have HV := hid hv.at; replace hbw := grew hbw hb; replace k0 := cell_later hb k0; replace k1 := cell_later hb k1; clear hb hv)
  have HB2 := hid hbw
  clear hbw
  go_loopw [17] (fun i wr => ∃ k : Nat, k ≤ (lysL l).length ∧ i = .int .i64 k ∧ NoTo (fun k => decide ((x, y) ∈ nth (lysL l) k)) k ∧ wr.cell? ⟨w.heap.size, 0, none⟩ = some (.int .i64 x) ∧ wr.cell? ⟨w.heap.size, 1, none⟩ = some (.int .i64 y) ∧ Below w2.heap.size w2 wr) (fun i _ => (lysL l).length - (intOf i).toNat)
  case atStart => exact ⟨0, Nat.zero_le _, rfl, fun i hi => absurd hi (Nat.not_lt_zero _), k0, k1, Below.refl _ _⟩
  case round =>
    clear k0 k1
    obtain ⟨k, hk, rfl, hC, k0, k1, hbw⟩ := hrel
    have HC := hid hC
    have HBW := hid (HB2.out.trans (hbw.mono HB2.out.size))
    clear hC
    by_cases hkl : k < (lysL l).length
    · obtain ⟨b, off, ai, ci, rfl, hN, g0, i0⟩ := HV.out k hkl
      have q0 := cell_later hbw g0
      have I0 := hid ((i0.later hbw).mono hbw.size)
      have hin : (nth (lysL l) k).length ≤ 1048576 := by
        have : nth (lysL l) k ∈ lysL l := by unfold nth; rw [List.getD_eq_getElem?_getD, List.getElem?_eq_getElem hkl]; exact List.getElem_mem hkl
        have := lysL_in l _ this
        omega
      have hd : decide ((k : Int) < ((lysL l).length : Int)) = true := decide_eq_true (by omega)
      have j0 : (0 : Int) ≤ (k : Int) := by omega
      have j1 : (k : Int) < ((lysL l).length : Int) := by omega
      have hbl : b < wr.heap.size := by have := hbw.size; omega
      have hkb : k ≤ 60 := by have := lysL_len l; omega
      have hbw' := hbw
      clear g0 i0 hbw
      have HLY := hid (fun e => ly_at (l := l) (p := (x, y)) HC.out hkl e)
      cases hE : decide ((x, y) ∈ nth (lysL l) k)
      · go_wp2_with (go_at_call 49; refine (contains_c (nth (lysL l) k) x y _ _ _ wr rfl hin I0.out).mono ?_; rw [hE]; rintro e w3 ⟨rfl, hb⟩; replace k0 := cell_later hb k0; replace k1 := cell_later hb k1)
        go_roundw
        case rel => exact ⟨k + 1, by omega, by go_num, HC.out.succ hE, k0, k1, hbw'.trans (hb.mono hbw'.size)⟩
        case measure => simp [intOf]; omega
      · go_wp2_with (go_at_call 49; refine (contains_c (nth (lysL l) k) x y _ _ _ wr rfl hin I0.out).mono ?_; rw [hE]; rintro e w3 ⟨rfl, hb⟩)
        go_ret2
        exact ⟨ret_ib (congrArg Int.ofNat (HLY.out hE).2.symm) (HLY.out hE).1.symm, grew HBW.out hb⟩
    · obtain rfl : k = (lysL l).length := by omega
      have HN := hid (ly_none HC.out)
      go_wp2
      go_ret2
      exact ⟨ret_ib (by unfold lyV; rw [HN.out]; rfl) HN.out.symm, HBW.out⟩
end Go.Proofs.YtoefllklngnmeaaDoor
