/-
  Where a point is of a hull, and on which side of it: the program's functions and the specification's (contracts for the walks).
  Conditions: as each theorem states them.
-/
import Derived.Test.YtoefllklngnmeaaDoorEqv
import Derived.Test.YtoefllklngnmeaaDoorHGood
namespace Go.Proofs.YtoefllklngnmeaaDoor
open Go.RowKit Go.Shelf
set_option linter.unusedVariables false
set_option maxRecDepth 8000
theorem ghB_all {l : List (Int × Int)} (h : ghB l = true) : allG l := by
  unfold ghB at h
  rw [Bool.and_eq_true] at h
  exact allG_of ((allGood_iff l).1 h.1)
theorem ghB_len {l : List (Int × Int)} (h : ghB l = true) : l.length ≤ 60 := by
  unfold ghB at h
  rw [Bool.and_eq_true, Bool.and_eq_true, decide_eq_true_iff] at h
  exact h.2.1
def whOk (l : List (Int × Int)) (x y : Int) : Bool := ghB l && goodB x y
def whV (l : List (Int × Int)) (x y : Int) : Int := if whOk l x y = true then whS l (x, y) else 0
def rmOk (l : List (Int × Int)) (x y : Int) : Bool := whOk l x y && decide (2 ≤ l.length)
def rmV (l : List (Int × Int)) (x y : Int) : Int := if rmOk l x y = true then rimW l (x, y) else 0
def rmB (l : List (Int × Int)) (x y : Int) : Bool := rmOk l x y && onS l (x, y)
set_option maxHeartbeats 2000000 in
theorem whereIsImpl_c (l : List (Int × Int)) (x y : Int) (a : Option Addr) (len cap : Nat) (w : World) (hl : l.length = len) (h1 : len ≤ 1048576) (hA : At w.heap.size a l w) (c0 : w.cell? ⟨0, 0, none⟩ = some (.int .i64 1000000)) :
    Calls Tryd.prog 34 #[.slice a len cap, .agg #[.int .i64 x, .int .i64 y]] w fun e w' => e = .returned (.tuple #[.int .i64 (whV l x y), .bool (whOk l x y)]) ∧ Below w.heap.size w w' := by
  subst hl
  have HA := hid hA
  have HB := hid (show Below w.heap.size w (w.alloc (.cells #[.int .i64 x, .int .i64 y] 30)) by go_grown)
  have C0 := hid c0
  clear hA c0
  cases hG : ghB l
  · have HG := hid hG
    go_enter Tryd.func34, Tryd.ntmps34
    go_wp2_with (go_at_call 57; refine (goodHullImpl_c l _ _ _ _ rfl h1 ((HA.out.later HB.out).mono HB.out.size) (cell_later HB.out C0.out)).mono ?_; rw [hG]; rintro e w1 ⟨rfl, hb⟩; have r0 := cell_later hb (box0 w x y 30); have r1 := cell_later hb (box1 w x y 30); have hb1 := grew HB.out hb; clear hb)
    go_ret2
    exact ⟨ret_ib (by unfold whV whOk; rw [HG.out]; rfl) (by unfold whOk; rw [HG.out]; rfl), hb1⟩
  · have HG := hid hG
    cases hP : goodB x y
    · have HP := hid hP
      go_enter Tryd.func34, Tryd.ntmps34
      go_wp2_with (first
        | (go_at_call 57; refine (goodHullImpl_c l _ _ _ _ rfl h1 ((HA.out.later HB.out).mono HB.out.size) (cell_later HB.out C0.out)).mono ?_; rw [hG]; rintro e w1 ⟨rfl, hb⟩; have r0 := cell_later hb (box0 w x y 30); have r1 := cell_later hb (box1 w x y 30); have hb1 := grew HB.out hb; clear hb)
        | (go_at_call 40; refine (goodImpl_e _ _ _ (cell_later hb1 C0.out)).mono ?_; rw [hP]; rintro e w2 ⟨rfl, hb⟩; have s0 := cell_later hb r0; have s1 := cell_later hb r1; have hb2 := grew hb1 hb; clear hb r0 r1 hb1))
      go_ret2
      exact ⟨ret_ib (by unfold whV whOk; rw [HG.out, HP.out]; rfl) (by unfold whOk; rw [HG.out, HP.out]; rfl), hb2⟩
    · have HP := hid hP
      go_enter Tryd.func34, Tryd.ntmps34
      go_wp2_with (first
        | (go_at_call 57; refine (goodHullImpl_c l _ _ _ _ rfl h1 ((HA.out.later HB.out).mono HB.out.size) (cell_later HB.out C0.out)).mono ?_; rw [hG]; rintro e w1 ⟨rfl, hb⟩; have r0 := cell_later hb (box0 w x y 30); have r1 := cell_later hb (box1 w x y 30); have hb1 := grew HB.out hb; clear hb)
        | (go_at_call 40; refine (goodImpl_e _ _ _ (cell_later hb1 C0.out)).mono ?_; rw [hP]; rintro e w2 ⟨rfl, hb⟩; have s0 := cell_later hb r0; have s1 := cell_later hb r1; have hb2 := grew hb1 hb; clear hb r0 r1 hb1)
        | (go_at_call 58; refine (whereImpl_c l x y _ _ _ w2 rfl h1 ((HA.out.later hb2).mono hb2.size) (cell_later hb2 C0.out)).mono ?_; rintro e w3 ⟨rfl, hb⟩; have hb3 := grew hb2 hb; clear hb))
      go_ret2
      exact ⟨ret_ib (by unfold whV whOk; rw [HG.out, HP.out]; exact wh_eq (ghB_all HG.out) HP.out) (by unfold whOk; rw [HG.out, HP.out]; rfl), hb3⟩
end Go.Proofs.YtoefllklngnmeaaDoor
