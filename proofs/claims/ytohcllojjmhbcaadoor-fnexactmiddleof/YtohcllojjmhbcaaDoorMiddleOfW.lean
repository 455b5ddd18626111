/-
  The walk of a law (see the text that imports this one).
  Conditions: as the theorem states them.
-/
import Derived.Test.YtohcllojjmhbcaaDoorAr8Q
namespace Go.Proofs.YtohcllojjmhbcaaDoor.fnExactMiddleOf
open Go.RowKit
set_option linter.unusedVariables false
set_option maxRecDepth 8000
set_option maxHeartbeats 4000000 in
theorem walk (l : List (Int × Int)) (a : Option Addr) (len cap : Nat) (w : World) (hl : l.length = len) (hm : len ≤ maxLen) (hA : At w.heap.size a l w) (c0 : w.cell? ⟨0, 0, none⟩ = some (.int .i64 1000000)) (c1 : w.cell? ⟨0, 1, none⟩ = some (.int .i64 1099511627776)) (c2 : w.cell? ⟨0, 2, none⟩ = some (.int .i64 4398046511104)) (c3 : w.cell? ⟨0, 3, none⟩ = some (.int .i64 40)) :
    Calls Tryd.prog 10 #[.slice a len cap] w fun e w' => e = .returned (.bool true) ∧ Below w.heap.size w w' := by
  have HA := hid hA
  have C0 := hid c0
  have CQ := hid c3
  clear hA c0 c1 c2 c3
  by_cases h20 : len ≤ 1048576
  · clear hm
    have hn : (0 : Int) ≤ 1048576 - (len : Int) := by omega

    obtain ⟨⟨ex0, ey0⟩, hE0⟩ : ∃ e, mdV l = e := ⟨_, rfl⟩
    have hQ0 : eqB ex0 ey0 ex0 ey0 = true := by unfold eqB; simp
    go_enter Tryd.func10, Tryd.ntmps10
    go_upto_region 6 with (first
      | (go_at_call 26; refine (szPointS_c _ _ _ _ ?_ ?_ _).mono ?_; (omega); (omega); rintro e w' ⟨rfl, rfl⟩)
      | (go_at_call 28; refine (toPointS_c l _ _ _ _ hl h20 HA.out).mono ?_; rintro e w1 ⟨rfl, hc1⟩; have hb1 := hc1.below; have ha1 := hc1.at; clear hc1)
      | (go_at_call 22; refine (middleSpec_c l _ _ _ _ hl h20 ha1).mono ?_; rw [hE0]; rintro e w2 ⟨rfl, hb2⟩; have hb2' := grew hb1 hb2))
    have hbA : Below w2.heap.size w2 (w2.alloc (.cells #[.int .i64 ex0, .int .i64 ey0] 26)) := by go_grown
    have K0 : BoxP (w2.alloc (.cells #[.int .i64 ex0, .int .i64 ey0] 26)) w2.heap.size (ex0, ey0) := BoxP.new w2 ex0 ey0
    replace hb2' := grew hb2' hbA
    clear hbA hb2 ha1 hb1
    generalize (w2.alloc (.cells #[.int .i64 ex0, .int .i64 ey0] 26)) = v2 at *
    go_upto_region 8 with (first
      | (go_at_call 28; refine (toPointS_c l _ _ _ _ hl h20 ((HA.out.later hb2').mono hb2'.size)).mono ?_; rintro e w3 ⟨rfl, hc3⟩; have hb3 := hc3.below; have ha3 := hc3.at; have hb3' := grew hb2' hb3; replace K0 := K0.later hb3; clear hc3)
      | (go_at_call 21; refine (middleImpl_c l _ _ _ _ hl h20 ha3 (cell_later hb3' C0.out) (cell_later hb3' CQ.out)).mono ?_; rw [hE0]; rintro e w4 ⟨rfl, hb4⟩; have hb4' := grew hb3' hb4; have ha4 := (ha3.later hb4).mono hb4.size; replace K0 := K0.later hb4; clear hb4))
    have hbA : Below w4.heap.size w4 (w4.alloc (.cells #[.int .i64 ex0, .int .i64 ey0] 26)) := by go_grown
    have G0 : BoxP (w4.alloc (.cells #[.int .i64 ex0, .int .i64 ey0] 26)) w4.heap.size (ex0, ey0) := BoxP.new w4 ex0 ey0
    replace hb4' := grew hb4' hbA
    replace ha4 := (ha4.later hbA).mono hbA.size
    replace K0 := K0.later hbA
    clear hbA hb3 ha3 hb2' hb3'
    generalize (w4.alloc (.cells #[.int .i64 ex0, .int .i64 ey0] 26)) = v4 at *
    have k0x := K0.c0; have k0y := K0.c1
    have g0x := G0.c0; have g0y := G0.c1
    go_wp2_with (first
      | (go_at_call 37; refine (eqPoint_c _ _ _ _ _).mono ?_; rw [hQ0]; rintro e w80 ⟨rfl, hb8⟩; replace hb4' := grew hb4' hb8; replace ha4 := (ha4.later hb8).mono hb8.size; replace k0x := cell_later hb8 k0x; replace k0y := cell_later hb8 k0y; replace g0x := cell_later hb8 g0x; replace g0y := cell_later hb8 g0y; clear hb8)
      | (go_at_call 28; refine (toPointS_c l _ _ _ _ hl h20 ((HA.out.later hb4').mono hb4'.size)).mono ?_; rintro e w5 ⟨rfl, hc5⟩; have hb5 := hc5.below; have ha5 := hc5.at; have hb5' := grew hb4' hb5; clear hc5)
      | (go_at_call 29; refine (eqPointS_c l l _ _ _ _ _ _ _ hl hl h20 h20 ((ha4.later hb5).mono hb5.size) ha5).mono ?_; rintro e w6 ⟨rfl, hb6⟩))
    all_goals go_ret
    all_goals exact ⟨rfl, grew hb5' hb6⟩
  · have hn : (1048576 : Int) < (len : Int) := by omega
    go_enter Tryd.func10, Tryd.ntmps10
    go_wp2_with (go_at_call 26; refine (szPointS_f _ _ _ _ ?_ ?_ hm _).mono ?_; (omega); (omega); rintro e w' ⟨rfl, rfl⟩)
    go_ret
    exact ⟨rfl, Below.refl _ _⟩
end Go.Proofs.YtohcllojjmhbcaaDoor.fnExactMiddleOf
