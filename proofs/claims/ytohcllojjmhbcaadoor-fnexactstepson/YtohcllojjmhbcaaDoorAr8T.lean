/-
  TwiceArea, RimPoints, InnerPoints, StepsOn: the program's and the specification's (contracts for the walks).
  Conditions: as each theorem states them.
-/
import Derived.Test.YtohcllojjmhbcaaDoorAr8F
import Derived.Test.YtohcllojjmhbcaaDoorTop4
namespace Go.Proofs.YtohcllojjmhbcaaDoor
open Go.RowKit Go.Shelf
set_option linter.unusedVariables false
set_option maxRecDepth 8000
def arV (l : List (Int × Int)) : Int := if ghB l = true then area8 l else 0
def rmP (l : List (Int × Int)) : Int := if ghB l = true then rim8 l else 0
def inV (l : List (Int × Int)) : Int := if ghB l = true then if l.length < 3 then 0 else Int.tdiv (area8 l - rim8 l + 2) 2 else 0
def spV (a b : Int × Int) : Int := if (goodB a.1 a.2 && goodB b.1 b.2) = true then stp a b else 0
set_option maxHeartbeats 2000000 in
theorem twiceAreaSpec_c (l : List (Int × Int)) (a : Option Addr) (len cap : Nat) (w : World) (hl : l.length = len) (h1 : len ≤ 1048576) (hA : At w.heap.size a l w) :
    Calls Tryd.prog 27 #[.slice a len cap] w fun e w' => e = .returned (.tuple #[.int .i64 (arV l), .bool (ghB l)]) ∧ Below w.heap.size w w' := by
  subst hl
  have HA := hid hA
  clear hA
  cases hG : ghB l
  · have E := hid (show arV l = 0 by unfold arV; rw [hG]; rfl)
    go_enter Tryd.func27, Tryd.ntmps27
    go_wp2_with (go_at_call 62; refine (goodHullSpec_c l _ _ _ _ rfl h1 HA.out).mono ?_; rw [hG]; rintro e w1 ⟨rfl, hb1⟩)
    go_ret2
    exact ⟨ret_ib E.out.symm rfl, hb1⟩
  · have HG := hid hG
    have E := hid (show arV l = area8 l by unfold arV; rw [hG]; rfl)
    have HL := hid (ghB_len hG)
    go_enter Tryd.func27, Tryd.ntmps27
    go_wp2_with (first
      | (go_at_call 62; refine (goodHullSpec_c l _ _ _ _ rfl h1 HA.out).mono ?_; rw [hG]; rintro e w1 ⟨rfl, hb1⟩)
      | (go_at_call 57; refine (l8Area_c l _ _ _ w1 rfl HL.out ((HA.out.later hb1).mono hb1.size) (ghB_all HG.out)).mono ?_; rintro e w2 ⟨rfl, hb2⟩))
    go_ret2
    exact ⟨ret_ib E.out.symm rfl, grew hb1 hb2⟩
set_option maxHeartbeats 2000000 in
theorem rimPointsSpec_c (l : List (Int × Int)) (a : Option Addr) (len cap : Nat) (w : World) (hl : l.length = len) (h1 : len ≤ 1048576) (hA : At w.heap.size a l w) :
    Calls Tryd.prog 31 #[.slice a len cap] w fun e w' => e = .returned (.tuple #[.int .i64 (rmP l), .bool (ghB l)]) ∧ Below w.heap.size w w' := by
  subst hl
  have HA := hid hA
  clear hA
  cases hG : ghB l
  · have E := hid (show rmP l = 0 by unfold rmP; rw [hG]; rfl)
    go_enter Tryd.func31, Tryd.ntmps31
    go_wp2_with (go_at_call 62; refine (goodHullSpec_c l _ _ _ _ rfl h1 HA.out).mono ?_; rw [hG]; rintro e w1 ⟨rfl, hb1⟩)
    go_ret2
    exact ⟨ret_ib E.out.symm rfl, hb1⟩
  · have HG := hid hG
    have E := hid (show rmP l = rim8 l by unfold rmP; rw [hG]; rfl)
    have HL := hid (ghB_len hG)
    go_enter Tryd.func31, Tryd.ntmps31
    go_wp2_with (first
      | (go_at_call 62; refine (goodHullSpec_c l _ _ _ _ rfl h1 HA.out).mono ?_; rw [hG]; rintro e w1 ⟨rfl, hb1⟩)
      | (go_at_call 63; refine (l8Rim_c l _ _ _ w1 rfl HL.out ((HA.out.later hb1).mono hb1.size) (ghB_all HG.out)).mono ?_; rintro e w2 ⟨rfl, hb2⟩))
    go_ret2
    exact ⟨ret_ib E.out.symm rfl, grew hb1 hb2⟩
set_option maxHeartbeats 2000000 in
theorem innerPointsSpec_c (l : List (Int × Int)) (a : Option Addr) (len cap : Nat) (w : World) (hl : l.length = len) (h1 : len ≤ 1048576) (hA : At w.heap.size a l w) :
    Calls Tryd.prog 33 #[.slice a len cap] w fun e w' => e = .returned (.tuple #[.int .i64 (inV l), .bool (ghB l)]) ∧ Below w.heap.size w w' := by
  subst hl
  have HA := hid hA
  clear hA
  cases hG : ghB l
  · have E := hid (show inV l = 0 by unfold inV; rw [hG]; rfl)
    go_enter Tryd.func33, Tryd.ntmps33
    go_wp2_with (go_at_call 62; refine (goodHullSpec_c l _ _ _ _ rfl h1 HA.out).mono ?_; rw [hG]; rintro e w1 ⟨rfl, hb1⟩)
    go_ret2
    exact ⟨ret_ib E.out.symm rfl, hb1⟩
  · have HG := hid hG
    have HL := hid (ghB_len hG)
    by_cases h3 : (l.length : Int) < 3
    · have E := hid (show inV l = 0 by unfold inV; rw [hG, if_pos rfl, if_pos (by omega)])
      go_enter Tryd.func33, Tryd.ntmps33
      go_wp2_with (go_at_call 62; refine (goodHullSpec_c l _ _ _ _ rfl h1 HA.out).mono ?_; rw [hG]; rintro e w1 ⟨rfl, hb1⟩)
      go_ret2
      exact ⟨ret_ib E.out.symm rfl, hb1⟩
    · have E := hid (show inV l = Int.tdiv (area8 l - rim8 l + 2) 2 by unfold inV; rw [hG, if_pos rfl, if_neg (by omega)])
      have ha := area8_small (ghB_all hG) (ghB_len hG)
      have hr := rim8_small (ghB_all hG) (ghB_len hG)
      have w1 : IntKind.i64.wrap (area8 l - rim8 l) = area8 l - rim8 l := by rw [IntKind.wrap_i64]; omega
      have w2 : IntKind.i64.wrap (area8 l - rim8 l + 2) = area8 l - rim8 l + 2 := by rw [IntKind.wrap_i64]; omega
      have w3 : IntKind.i64.wrap (Int.tdiv (area8 l - rim8 l + 2) 2) = Int.tdiv (area8 l - rim8 l + 2) 2 := by
        rw [IntKind.wrap_i64]
        have : (Int.tdiv (area8 l - rim8 l + 2) 2).natAbs ≤ (area8 l - rim8 l + 2).natAbs := by rw [Int.natAbs_tdiv]; exact Nat.div_le_self _ _
        omega
      have hA1 := hid (fun (u : World) (hu : Below w.heap.size w u) => l8Area_c l a l.length cap u rfl HL.out ((HA.out.later hu).mono hu.size) (ghB_all HG.out))
      have hR1 := hid (fun (u : World) (hu : Below w.heap.size w u) => l8Rim_c l a l.length cap u rfl HL.out ((HA.out.later hu).mono hu.size) (ghB_all HG.out))
      generalize area8 l = AA at w1 w2 w3 hA1 E
      generalize rim8 l = RR at w1 w2 w3 hR1 E
      clear ha hr
      go_enter Tryd.func33, Tryd.ntmps33
      go_wp2_with (first
        | (go_at_call 62; refine (goodHullSpec_c l _ _ _ _ rfl h1 HA.out).mono ?_; rw [hG]; rintro e w1 ⟨rfl, hb1⟩)
        | (go_at_call 57; refine (hA1.out _ hb1).mono ?_; rintro e w2 ⟨rfl, hb2⟩; have hb2' := grew hb1 hb2)
        | (go_at_call 63; refine (hR1.out _ hb2').mono ?_; rintro e w3 ⟨rfl, hb3⟩; have hb3' := grew hb2' hb3))
      go_ret2
      exact ⟨ret_ib E.out.symm rfl, hb3'⟩
set_option maxHeartbeats 2000000 in
theorem twiceAreaImpl_c (l : List (Int × Int)) (a : Option Addr) (len cap : Nat) (w : World) (hl : l.length = len) (h1 : len ≤ 1048576) (hA : At w.heap.size a l w) (c0 : w.cell? ⟨0, 0, none⟩ = some (.int .i64 1000000)) :
    Calls Tryd.prog 16 #[.slice a len cap] w fun e w' => e = .returned (.tuple #[.int .i64 (arV l), .bool (ghB l)]) ∧ Below w.heap.size w w' := by
  subst hl
  have HA := hid hA
  have C0 := hid c0
  clear hA c0
  cases hG : ghB l
  · have E := hid (show arV l = 0 by unfold arV; rw [hG]; rfl)
    go_enter Tryd.func16, Tryd.ntmps16
    go_wp2_with (go_at_call 44; refine (goodHullImpl_c l _ _ _ _ rfl h1 HA.out C0.out).mono ?_; rw [hG]; rintro e w1 ⟨rfl, hb1⟩)
    go_ret2
    exact ⟨ret_ib E.out.symm rfl, hb1⟩
  · have HG := hid hG
    have E := hid (show arV l = area8 l by unfold arV; rw [hG]; rfl)
    have HL := hid (ghB_len hG)
    go_enter Tryd.func16, Tryd.ntmps16
    go_wp2_with (first
      | (go_at_call 44; refine (goodHullImpl_c l _ _ _ _ rfl h1 HA.out C0.out).mono ?_; rw [hG]; rintro e w1 ⟨rfl, hb1⟩)
      | (go_at_call 45; refine (areaI_c l _ _ _ w1 rfl HL.out ((HA.out.later hb1).mono hb1.size) (ghB_all HG.out)).mono ?_; rintro e w2 ⟨rfl, hb2⟩))
    go_ret2
    exact ⟨ret_ib E.out.symm rfl, grew hb1 hb2⟩
set_option maxHeartbeats 2000000 in
theorem rimPointsImpl_c (l : List (Int × Int)) (a : Option Addr) (len cap : Nat) (w : World) (hl : l.length = len) (h1 : len ≤ 1048576) (hA : At w.heap.size a l w) (c0 : w.cell? ⟨0, 0, none⟩ = some (.int .i64 1000000)) :
    Calls Tryd.prog 32 #[.slice a len cap] w fun e w' => e = .returned (.tuple #[.int .i64 (rmP l), .bool (ghB l)]) ∧ Below w.heap.size w w' := by
  subst hl
  have HA := hid hA
  have C0 := hid c0
  clear hA c0
  cases hG : ghB l
  · have E := hid (show rmP l = 0 by unfold rmP; rw [hG]; rfl)
    go_enter Tryd.func32, Tryd.ntmps32
    go_wp2_with (go_at_call 44; refine (goodHullImpl_c l _ _ _ _ rfl h1 HA.out C0.out).mono ?_; rw [hG]; rintro e w1 ⟨rfl, hb1⟩)
    go_ret2
    exact ⟨ret_ib E.out.symm rfl, hb1⟩
  · have HG := hid hG
    have E := hid (show rmP l = rim8 l by unfold rmP; rw [hG]; rfl)
    have HL := hid (ghB_len hG)
    go_enter Tryd.func32, Tryd.ntmps32
    go_wp2_with (first
      | (go_at_call 44; refine (goodHullImpl_c l _ _ _ _ rfl h1 HA.out C0.out).mono ?_; rw [hG]; rintro e w1 ⟨rfl, hb1⟩)
      | (go_at_call 64; refine (rimI_c l _ _ _ w1 rfl HL.out ((HA.out.later hb1).mono hb1.size) (ghB_all HG.out)).mono ?_; rintro e w2 ⟨rfl, hb2⟩))
    go_ret2
    exact ⟨ret_ib E.out.symm rfl, grew hb1 hb2⟩
set_option maxHeartbeats 2000000 in
theorem innerPointsImpl_c (l : List (Int × Int)) (a : Option Addr) (len cap : Nat) (w : World) (hl : l.length = len) (h1 : len ≤ 1048576) (hA : At w.heap.size a l w) (c0 : w.cell? ⟨0, 0, none⟩ = some (.int .i64 1000000)) :
    Calls Tryd.prog 34 #[.slice a len cap] w fun e w' => e = .returned (.tuple #[.int .i64 (inV l), .bool (ghB l)]) ∧ Below w.heap.size w w' := by
  subst hl
  have HA := hid hA
  have C0 := hid c0
  clear hA c0
  cases hG : ghB l
  · have E := hid (show inV l = 0 by unfold inV; rw [hG]; rfl)
    go_enter Tryd.func34, Tryd.ntmps34
    go_wp2_with (go_at_call 44; refine (goodHullImpl_c l _ _ _ _ rfl h1 HA.out C0.out).mono ?_; rw [hG]; rintro e w1 ⟨rfl, hb1⟩)
    go_ret2
    exact ⟨ret_ib E.out.symm rfl, hb1⟩
  · have HG := hid hG
    have HL := hid (ghB_len hG)
    by_cases h3 : (l.length : Int) < 3
    · have E := hid (show inV l = 0 by unfold inV; rw [hG, if_pos rfl, if_pos (by omega)])
      go_enter Tryd.func34, Tryd.ntmps34
      go_wp2_with (go_at_call 44; refine (goodHullImpl_c l _ _ _ _ rfl h1 HA.out C0.out).mono ?_; rw [hG]; rintro e w1 ⟨rfl, hb1⟩)
      go_ret2
      exact ⟨ret_ib E.out.symm rfl, hb1⟩
    · have E := hid (show inV l = Int.tdiv (area8 l - rim8 l + 2) 2 by unfold inV; rw [hG, if_pos rfl, if_neg (by omega)])
      have ha := area8_small (ghB_all hG) (ghB_len hG)
      have hr := rim8_small (ghB_all hG) (ghB_len hG)
      have w1 : IntKind.i64.wrap (area8 l - rim8 l) = area8 l - rim8 l := by rw [IntKind.wrap_i64]; omega
      have w2 : IntKind.i64.wrap (area8 l - rim8 l + 2) = area8 l - rim8 l + 2 := by rw [IntKind.wrap_i64]; omega
      have w3 : IntKind.i64.wrap (Int.tdiv (area8 l - rim8 l + 2) 2) = Int.tdiv (area8 l - rim8 l + 2) 2 := by
        rw [IntKind.wrap_i64]
        have : (Int.tdiv (area8 l - rim8 l + 2) 2).natAbs ≤ (area8 l - rim8 l + 2).natAbs := by rw [Int.natAbs_tdiv]; exact Nat.div_le_self _ _
        omega
      have hA1 := hid (fun (u : World) (hu : Below w.heap.size w u) => areaI_c l a l.length cap u rfl HL.out ((HA.out.later hu).mono hu.size) (ghB_all HG.out))
      have hR1 := hid (fun (u : World) (hu : Below w.heap.size w u) => rimI_c l a l.length cap u rfl HL.out ((HA.out.later hu).mono hu.size) (ghB_all HG.out))
      generalize area8 l = AA at w1 w2 w3 hA1 E
      generalize rim8 l = RR at w1 w2 w3 hR1 E
      clear ha hr
      go_enter Tryd.func34, Tryd.ntmps34
      go_wp2_with (first
        | (go_at_call 44; refine (goodHullImpl_c l _ _ _ _ rfl h1 HA.out C0.out).mono ?_; rw [hG]; rintro e w1 ⟨rfl, hb1⟩)
        | (go_at_call 45; refine (hA1.out _ hb1).mono ?_; rintro e w2 ⟨rfl, hb2⟩; have hb2' := grew hb1 hb2)
        | (go_at_call 64; refine (hR1.out _ hb2').mono ?_; rintro e w3 ⟨rfl, hb3⟩; have hb3' := grew hb2' hb3))
      go_ret2
      exact ⟨ret_ib E.out.symm rfl, hb3'⟩
end Go.Proofs.YtohcllojjmhbcaaDoor
