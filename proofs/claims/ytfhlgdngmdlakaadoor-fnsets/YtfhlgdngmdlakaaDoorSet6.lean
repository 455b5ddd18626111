/-
  What PlaceOf answers, in the specification and in the program (contracts for the walks).
  Conditions: as each theorem states them.
-/
import Derived.Test.YtfhlgdngmdlakaaDoorSet5
namespace Go.Proofs.YtfhlgdngmdlakaaDoor
open Go.RowKit
set_option linter.unusedVariables false
def plcOk (l : List (Int × Int)) (x y : Int) : Bool := goodL l && hasB l x y
def plcN (l : List (Int × Int)) (x y : Int) : Nat := if plcOk l x y then plc l x y else 0
theorem goodL_rises {l : List (Int × Int)} (h : goodL l = true) : RisesTo l (l.length - 1) := by
  rw [goodL, Bool.and_eq_true] at h
  exact (rises_iff l).1 h.2
theorem goodL_few {l : List (Int × Int)} (h : goodL l = true) : l.length ≤ 60 := by
  rw [goodL, Bool.and_eq_true, Bool.and_eq_true] at h
  exact of_decide_eq_true h.1.1
theorem goodL_good {l : List (Int × Int)} (h : goodL l = true) : GoodTo l l.length := by
  rw [goodL, Bool.and_eq_true, Bool.and_eq_true] at h
  exact (allGood_iff l).1 h.1.2
set_option maxHeartbeats 2000000 in
theorem placeSpec_c (l : List (Int × Int)) (x y : Int) (a : Option Addr) (len cap : Nat) (w : World) (hl : l.length = len) (h1 : len ≤ 1048576) (hA : At w.heap.size a l w) :
    Calls Tryd.prog 16 #[.slice a len cap, .agg #[.int .i64 x, .int .i64 y]] w fun e w' => e = .returned (.tuple #[.int .i64 (plcN l x y), .bool (plcOk l x y)]) ∧ Below w.heap.size w w' := by
  have HA := hid hA
  clear hA
  cases hG : goodL l
  · have e1 : plcOk l x y = false := by rw [plcOk, hG]; rfl
    have e2 : plcN l x y = 0 := by rw [plcN, e1]; rfl
    rw [e1, e2]
    clear e1 e2
    go_enter Tryd.func16, Tryd.ntmps16
    go_wp2_with (go_at_call 36; refine (l2Good_c l _ _ _ _ hl h1 ((HA.out.later (by go_grown)).mono (by go_size))).mono ?_; rintro e w1 ⟨rfl, hb1⟩)
    go_ret2
    exact ⟨rfl, grew (by go_grown) hb1⟩
  · cases hH : hasB l x y
    · have e1 : plcOk l x y = false := by rw [plcOk, hG, hH]; rfl
      have e2 : plcN l x y = 0 := by rw [plcN, e1]; rfl
      rw [e1, e2]
      clear e1 e2
      go_enter Tryd.func16, Tryd.ntmps16
      go_wp2_with (first | (go_at_call 36; refine (l2Good_c l _ _ _ _ hl h1 ((HA.out.later (by go_grown)).mono (by go_size))).mono ?_; rintro e w1 ⟨rfl, hb1⟩; have hbw : Below w.heap.size w w1 := grew (by go_grown) hb1; have r0 := cell_later hb1 (box0 w x y 26); have r1 := cell_later hb1 (box1 w x y 26)) | (go_at_call 38; refine (l2Has_c l x y _ _ _ _ hl h1 ((HA.out.later hbw).mono hbw.size)).mono ?_; rintro e w2 ⟨rfl, hb2⟩))
      go_ret2
      exact ⟨rfl, grew hbw hb2⟩
    · have e1 : plcOk l x y = true := by rw [plcOk, hG, hH]; rfl
      have e2 : plcN l x y = plc l x y := by rw [plcN, e1]; rfl
      rw [e1, e2]
      clear e1 e2
      go_enter Tryd.func16, Tryd.ntmps16
      go_wp2_with (first | (go_at_call 36; refine (l2Good_c l _ _ _ _ hl h1 ((HA.out.later (by go_grown)).mono (by go_size))).mono ?_; rintro e w1 ⟨rfl, hb1⟩; have hbw : Below w.heap.size w w1 := grew (by go_grown) hb1; have r0 := cell_later hb1 (box0 w x y 26); have r1 := cell_later hb1 (box1 w x y 26)) | (go_at_call 38; refine (l2Has_c l x y _ _ _ _ hl h1 ((HA.out.later hbw).mono hbw.size)).mono ?_; rintro e w2 ⟨rfl, hb2⟩; have hbx := grew hbw hb2; have s0 := cell_later hb2 r0; have s1 := cell_later hb2 r1) | (go_at_call 44; refine (l2Place_c l x y _ _ _ _ hl h1 ((HA.out.later hbx).mono hbx.size)).mono ?_; rintro e w3 ⟨rfl, hb3⟩))
      go_ret2
      exact ⟨rfl, grew hbx hb3⟩
set_option maxHeartbeats 2000000 in
theorem placeImpl_c (l : List (Int × Int)) (x y : Int) (a : Option Addr) (len cap : Nat) (w : World) (hl : l.length = len) (h1 : len ≤ 1048576) (hA : At w.heap.size a l w) (c0 : w.cell? ⟨0, 0, none⟩ = some (.int .i64 1000000)) :
    Calls Tryd.prog 12 #[.slice a len cap, .agg #[.int .i64 x, .int .i64 y]] w fun e w' => e = .returned (.tuple #[.int .i64 (plcN l x y), .bool (plcOk l x y)]) ∧ Below w.heap.size w w' := by
  have HA := hid hA
  have C0 := hid c0
  clear hA c0
  cases hG : goodL l
  · have e1 : plcOk l x y = false := by rw [plcOk, hG]; rfl
    have e2 : plcN l x y = 0 := by rw [plcN, e1]; rfl
    rw [e1, e2]
    clear e1 e2
    go_enter Tryd.func12, Tryd.ntmps12
    go_wp2_with (go_at_call 10; refine (goodSetImpl_c l _ _ _ _ hl h1 ((HA.out.later (by go_grown)).mono (by go_size)) (cell_later (by go_grown : Below w.heap.size w _) C0.out)).mono ?_; rintro e w1 ⟨rfl, hb1⟩)
    go_ret2
    exact ⟨rfl, grew (by go_grown) hb1⟩
  · have HR := hid (goodL_rises hG)
    cases hH : hasB l x y
    · have e1 : plcOk l x y = false := by rw [plcOk, hG, hH]; rfl
      have e2 : plcN l x y = 0 := by rw [plcN, e1]; rfl
      rw [e1, e2]
      clear e1 e2
      go_enter Tryd.func12, Tryd.ntmps12
      go_wp2_with (first | (go_at_call 10; refine (goodSetImpl_c l _ _ _ _ hl h1 ((HA.out.later (by go_grown)).mono (by go_size)) (cell_later (by go_grown : Below w.heap.size w _) C0.out)).mono ?_; rintro e w1 ⟨rfl, hb1⟩; have hbw : Below w.heap.size w w1 := grew (by go_grown) hb1; have r0 := cell_later hb1 (box0 w x y 26); have r1 := cell_later hb1 (box1 w x y 26)) | (go_at_call 34; refine (search_c l x y _ _ _ _ hl h1 HR.out ((HA.out.later hbw).mono hbw.size)).mono ?_; rintro e w2 ⟨rfl, hb2⟩))
      go_ret2
      exact ⟨rfl, grew hbw hb2⟩
    · have e1 : plcOk l x y = true := by rw [plcOk, hG, hH]; rfl
      have e2 : plcN l x y = plc l x y := by rw [plcN, e1]; rfl
      rw [e1, e2]
      clear e1 e2
      go_enter Tryd.func12, Tryd.ntmps12
      go_wp2_with (first | (go_at_call 10; refine (goodSetImpl_c l _ _ _ _ hl h1 ((HA.out.later (by go_grown)).mono (by go_size)) (cell_later (by go_grown : Below w.heap.size w _) C0.out)).mono ?_; rintro e w1 ⟨rfl, hb1⟩; have hbw : Below w.heap.size w w1 := grew (by go_grown) hb1; have r0 := cell_later hb1 (box0 w x y 26); have r1 := cell_later hb1 (box1 w x y 26)) | (go_at_call 34; refine (search_c l x y _ _ _ _ hl h1 HR.out ((HA.out.later hbw).mono hbw.size)).mono ?_; rintro e w2 ⟨rfl, hb2⟩))
      go_ret2
      exact ⟨rfl, grew hbw hb2⟩
end Go.Proofs.YtfhlgdngmdlakaaDoor
