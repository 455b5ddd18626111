/-
  The points of a set that are not outside of a hull, and whether a hull covers another: the program's functions and the specification's (contracts for the walks).
  Conditions: as each theorem states them.
-/
import Derived.Test.YtoefllklngnmeaaGreatDoorTop4
import Derived.Test.YtoefllklngnmeaaGreatDoorB2
namespace Go.Proofs.YtoefllklngnmeaaGreatDoor
open Go.RowKit Go.Shelf
set_option linter.unusedVariables false
def inB (h : List (Int × Int)) (p : Int × Int) : Bool := !decide (whS h p = 0)
def inOk (h s : List (Int × Int)) : Bool := ghB h && goodL s
def inL (h s : List (Int × Int)) : List (Int × Int) := if inOk h s = true then s.filter (inB h) else []
def cvOk (g h : List (Int × Int)) : Bool := ghB g && ghB h
def cvB (g h : List (Int × Int)) : Bool := cvOk g h && allT (fun k => inB g (px h k, py h k)) h.length
theorem take_one {l : List (Int × Int)} {k : Nat} (h : k < l.length) : l.take (k + 1) = l.take k ++ [(px l k, py l k)] := by
  have e : (px l k, py l k) = l[k] := by simp [px, py, h]
  rw [e, List.take_add_one, List.getElem?_eq_getElem h]; rfl
theorem filt_yes {l : List (Int × Int)} {f : Int × Int → Bool} {k : Nat} (h : k < l.length) (e : f (px l k, py l k) = true) : (l.take (k + 1)).filter f = (l.take k).filter f ++ [(px l k, py l k)] := by
  rw [take_one h, List.filter_append]; simp [e]
theorem filt_no {l : List (Int × Int)} {f : Int × Int → Bool} {k : Nat} (h : k < l.length) (e : f (px l k, py l k) = false) : (l.take (k + 1)).filter f = (l.take k).filter f := by
  rw [take_one h, List.filter_append]; simp [e]
theorem filt_len (l : List (Int × Int)) (f : Int × Int → Bool) (k : Nat) : ((l.take k).filter f).length ≤ k :=
  Nat.le_trans (List.length_filter_le _ _) (by rw [List.length_take]; omega)
theorem inL_len (h s : List (Int × Int)) : (inL h s).length ≤ s.length := by
  unfold inL
  split
  · exact List.length_filter_le _ _
  · exact Nat.zero_le _
theorem ret_vb {v u : Value} {a b : Bool} (h : v = u) (k : a = b) : Ending.returned (.tuple #[v, .bool a]) = .returned (.tuple #[u, .bool b]) := by rw [h, k]
set_option maxHeartbeats 4000000 in
set_option maxRecDepth 8000 in
theorem coversImpl_c (l m : List (Int × Int)) (a c : Option Addr) (len cap lem cam : Nat) (w : World) (hl : l.length = len) (hm : m.length = lem) (h1 : len ≤ 1048576) (h2 : lem ≤ 1048576) (hA : At w.heap.size a l w) (hB : At w.heap.size c m w) (c0 : w.cell? ⟨0, 0, none⟩ = some (.int .i64 1000000)) :
    Calls Tryz.prog 16 #[.slice a len cap, .slice c lem cam] w fun e w' => e = .returned (.tuple #[.bool (cvB l m), .bool (cvOk l m)]) ∧ Below w.heap.size w w' := by
  subst hl hm
  have HA := hid hA
  have HM := hid hB
  have C0 := hid c0
  clear hA hB c0
  obtain ⟨i0, hi, hz0, hz1, hz2⟩ := info_parts info_pt
  have tk1 : True := trivial
  cases hG : ghB l
  · have HK : Hid (cvOk l m = false) := by unfold cvOk; rw [hG]; rfl
    go_enter Tryz.func16, Tryz.ntmps16
    go_wp2_with (go_at_call 32; clear tk1; refine (goodHullImpl_c l _ _ _ _ rfl h1 HA.out C0.out).mono ?_; rw [hG]; rintro e w1 ⟨rfl, hb1⟩)
    go_ret2
    exact ⟨ret_bb (by unfold cvB; rw [HK.out]; rfl) HK.out.symm, hb1⟩
  · have HG := hid hG
    cases hP : ghB m
    · have HK := hid (show cvOk l m = false by unfold cvOk; rw [hP, Bool.and_false])
      go_enter Tryz.func16, Tryz.ntmps16
      go_wp2_with (first
        | (go_at_call 32; clear tk1; refine (goodHullImpl_c l _ _ _ _ rfl h1 HA.out C0.out).mono ?_; rw [hG]; rintro e w1 ⟨rfl, hb1⟩)
        | (go_at_call 32; refine (goodHullImpl_c m _ _ _ _ rfl h2 ((HM.out.later hb1).mono hb1.size) (cell_later hb1 C0.out)).mono ?_; rw [hP]; rintro e w2 ⟨rfl, hb⟩; have hb2 := grew hb1 hb; clear hb))
      go_ret2
      exact ⟨ret_bb (by unfold cvB; rw [HK.out]; rfl) HK.out.symm, hb2⟩
    · have HK : Hid (cvOk l m = true) := by unfold cvOk; rw [hG, hP]; rfl
      have HMG := hid (ghB_all hP)
      go_enter Tryz.func16, Tryz.ntmps16
      go_wp2_with (first
        | (go_at_call 32; clear tk1; refine (goodHullImpl_c l _ _ _ _ rfl h1 HA.out C0.out).mono ?_; rw [hG]; rintro e w1 ⟨rfl, hb1⟩)
        | (go_at_call 32; refine (goodHullImpl_c m _ _ _ _ rfl h2 ((HM.out.later hb1).mono hb1.size) (cell_later hb1 C0.out)).mono ?_; rw [hP]; rintro e w2 ⟨rfl, hb⟩; have hb2 := grew hb1 hb; clear hb))
      clear hG hP
      go_loopw [18] (fun i wr => ∃ k : Nat, k ≤ m.length ∧ i = .int .i64 k ∧ YesTo (fun k => inB l (px m k, py m k)) k ∧ Below w.heap.size w wr) (fun i _ => m.length - (intOf i).toNat)
      case atStart => exact ⟨0, Nat.zero_le _, rfl, fun i hi => absurd hi (Nat.not_lt_zero _), hb2⟩
      case round =>
        clear hb1 hb2
        obtain ⟨k, hk, rfl, hC, hbw⟩ := hrel
        have HC := hid hC
        clear hC
        by_cases hkl : k < m.length
        · have HS := fun e => HC.out.succ (k := k) e
          obtain ⟨b, off, rfl, hbN, g0, g1⟩ := HM.out k hkl
          have hgx : gp (px m k, py m k) := HMG.out _ (pt_mem (l := m) hkl)
          have r0 := cell_later hbw g0
          have r1 := cell_later hbw g1
          obtain ⟨x, hx⟩ : ∃ x, px m k = x := ⟨_, rfl⟩
          obtain ⟨y, hy⟩ : ∃ y, py m k = y := ⟨_, rfl⟩
          have HV : (fun k => inB l (px m k, py m k)) k = inB l (x, y) := by show inB l (px m k, py m k) = _; rw [hx, hy]
          have HV' := hid HV
          rw [hx, hy] at hgx
          rw [hx] at r0
          rw [hy] at r1
          have HX := hid hgx
          have hi0 : (0 : Int) ≤ (k : Int) := by omega
          have hi1 : (k : Int) < (m.length : Int) := by omega
          have K0 := hid (box0 wr x y 36)
          have K1 := hid (box1 wr x y 36)
          have hbX : Below wr.heap.size wr (wr.alloc (.cells #[.int .i64 x, .int .i64 y] 36)) := by go_grown
          have HBX := hid (grew hbw hbX)
          have HBW := hid hbw
          have hsz := hbw.size
          clear g0 g1 hbw hgx
          clear hx hy HV
          have HS' := hid HS
          clear HS
          by_cases hE : whS l (x, y) = 0
          · have HI : Hid (inB l (x, y) = false) := by unfold inB; rw [decide_eq_true hE]; rfl
            go_wp2_with (first | (go_at_call 33; refine (whereImpl_c l x y _ _ _ _ rfl h1 ((HA.out.later HBX.out).mono HBX.out.size) (cell_later HBX.out C0.out)).mono ?_; rw [wh_eq (ghB_all HG.out) HX.out]; rintro e w3 ⟨rfl, hb⟩; have k0 := cell_later hb K0.out; have k1 := cell_later hb K1.out; have HB3 := hid (grew HBX.out hb); have HBW3 := hid (hbX.trans (hb.mono hbX.size)); clear hb hbX r0 r1))
            go_ret2
            exact ⟨ret_bb (by unfold cvB; rw [HK.out, allT_no hkl (HV'.out.trans HI.out)]; rfl) HK.out.symm, HB3.out⟩
          · have HI : Hid (inB l (x, y) = true) := by unfold inB; rw [decide_eq_false hE]; rfl
            go_wp2_with (first | (go_at_call 33; refine (whereImpl_c l x y _ _ _ _ rfl h1 ((HA.out.later HBX.out).mono HBX.out.size) (cell_later HBX.out C0.out)).mono ?_; rw [wh_eq (ghB_all HG.out) HX.out]; rintro e w3 ⟨rfl, hb⟩; have k0 := cell_later hb K0.out; have k1 := cell_later hb K1.out; have HB3 := hid (grew HBX.out hb); have HBW3 := hid (hbX.trans (hb.mono hbX.size)); clear hb hbX r0 r1))
            go_roundw
            case rel => exact ⟨k + 1, by omega, by go_num, HS'.out (HV'.out.trans HI.out), HB3.out⟩
            case measure => simp [intOf]; omega
        · obtain rfl : k = m.length := by omega
          go_wp2
          go_ret2
          exact ⟨ret_bb (by unfold cvB; rw [HK.out, allT_iff.2 HC.out]; rfl) HK.out.symm, hbw⟩
end Go.Proofs.YtoefllklngnmeaaGreatDoor
