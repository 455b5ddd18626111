/-
  The walk of a law (see the text that imports this one).
  Conditions: as the theorem states them.
-/
import Derived.Test.YtcghpepkphphbaaDoorIns4
namespace Go.Proofs.YtcghpepkphphbaaDoor.fnExactCovers
open Go.RowKit
set_option linter.unusedVariables false
set_option maxHeartbeats 2000000 in
theorem walk (l : List (Int × Int)) (a : Option Addr) (len cap : Nat) (m : List (Int × Int)) (c : Option Addr) (lem cam : Nat) (w : World) (hl : l.length = len) (hm : len ≤ maxLen) (hA : At w.heap.size a l w) (hl2 : m.length = lem) (hm2 : lem ≤ maxLen) (hB : At w.heap.size c m w) (c0 : w.cell? ⟨0, 0, none⟩ = some (.int .i64 1000000)) (c1 : w.cell? ⟨0, 1, none⟩ = some (.int .i64 1099511627776)) (c2 : w.cell? ⟨0, 2, none⟩ = some (.int .i64 4398046511104)) :
    Calls Tryd.prog 8 #[.slice a len cap, .slice c lem cam] w fun e w' => e = .returned (.bool true) ∧ Below w.heap.size w w' := by
  subst hl hl2
  have HA := hid hA
  have HB := hid hB
  have C0 := hid c0
  clear hA hB c0 c1 c2
  by_cases h20 : l.length ≤ 1048576
  · by_cases hs : l.length + m.length ≤ 1048576
    · have h21 : m.length ≤ 1048576 := by omega
      clear hm hm2
      have hn : (0 : Int) ≤ 1048576 - (l.length : Int) := by omega
      have hn2 : (0 : Int) ≤ 1048576 - (l.length : Int) - (m.length : Int) := by omega
      have tz : True := trivial
      have t1 : True := trivial
      have t2 : True := trivial
      have t4 : True := trivial
      have t5 : True := trivial
      have t8 : True := trivial
      have t9 : True := trivial
      go_enter Tryd.func8, Tryd.ntmps8
      go_wp2_with (first
        | (go_at_call 16; clear tz; refine (szPointS_c _ _ _ _ ?_ ?_ _).mono ?_; (omega); (omega); rintro e w' ⟨rfl, rfl⟩)
        | (go_at_call 16; refine (szPointS_c _ _ _ _ ?_ ?_ _).mono ?_; (omega); (omega); rintro e w' ⟨rfl, rfl⟩)
        | (go_at_call 18; clear t1; refine (toPointS_e l _ _ _ w rfl h20 HA.out).mono ?_; rintro e w1 ⟨b1, rfl, hcw1, hbw1⟩)
        | (go_at_call 18; clear t2; refine (toPointS_e m _ _ _ w1 rfl h21 ((HB.out.later hbw1).mono hbw1.size)).mono ?_; rintro e w2 ⟨b2, rfl, hcw2, hbw2⟩; have hx2 := hcw1.later hbw2; have hbA2 := grew hbw1 hbw2)
        | (go_at_call 27; refine (coversSpec_c l m _ _ _ _ _ _ w2 rfl rfl h20 h21 hx2.at hcw2.at).mono ?_; rintro e w3 ⟨rfl, hb3⟩; have hbw3 := grew hbA2 hb3)
        | (go_at_call 18; clear t4; refine (toPointS_e l _ _ _ w3 rfl h20 ((HA.out.later hbw3).mono hbw3.size)).mono ?_; rintro e w4 ⟨b4, rfl, hcw4, hbw4⟩; have hA4 := grew hbw3 hbw4)
        | (go_at_call 18; clear t5; refine (toPointS_e m _ _ _ w4 rfl h21 ((HB.out.later hA4).mono hA4.size)).mono ?_; rintro e w5 ⟨b5, rfl, hcw5, hbw5⟩; have hx5 := hcw4.later hbw5; have hA5 := grew hA4 hbw5)
        | (go_at_call 28; refine (coversImpl_c l m _ _ _ _ _ _ w5 rfl rfl h20 h21 hx5.at hcw5.at (cell_later hA5 C0.out)).mono ?_; rintro e w6 ⟨rfl, hb6⟩; have hx6 := hx5.later hb6; have hy6 := hcw5.later hb6; have hA6 := grew hA5 hb6)
        | (go_at_call 18; clear t8; refine (toPointS_e l _ _ _ w6 rfl h20 ((HA.out.later hA6).mono hA6.size)).mono ?_; rintro e w8 ⟨b8, rfl, hcw8, hbw8⟩; have hx8 := hx6.later hbw8; have hy8 := hy6.later hbw8; have hA8 := grew hA6 hbw8)
        | (go_at_call 20; clear t9; refine (eqPointS_c l l _ _ _ _ _ _ w8 rfl rfl h20 h20 hx8.at hcw8.at).mono ?_; rintro e w9 ⟨rfl, hb9⟩; have hy9 := hy8.later hb9; have hA9 := grew hA8 hb9)
        | (go_at_call 18; refine (toPointS_e m _ _ _ w9 rfl h21 ((HB.out.later hA9).mono hA9.size)).mono ?_; rintro e w10 ⟨b10, rfl, hcw10, hbw10⟩; have hy10 := hy9.later hbw10; have hA10 := grew hA9 hbw10)
        | (go_at_call 20; refine (eqPointS_c m m _ _ _ _ _ _ w10 rfl rfl h21 h21 hy10.at hcw10.at).mono ?_; rintro e w11 ⟨rfl, hb11⟩; have hA11 := grew hA10 hb11))
      all_goals go_ret
      all_goals exact ⟨rfl, hA11⟩
    · have hn : (0 : Int) ≤ 1048576 - (l.length : Int) := by omega
      have hn2 : (1048576 : Int) - (l.length : Int) < (m.length : Int) := by omega
      have tz : True := trivial
      go_enter Tryd.func8, Tryd.ntmps8
      go_wp2_with (first | (go_at_call 16; clear tz; refine (szPointS_c _ _ _ _ ?_ ?_ _).mono ?_; (omega); (omega); rintro e w' ⟨rfl, rfl⟩) | (go_at_call 16; refine (szPointS_f _ _ _ _ ?_ ?_ hm2 _).mono ?_; (omega); (omega); rintro e w' ⟨rfl, rfl⟩))
      go_ret
      exact ⟨rfl, by go_grown⟩
  · have hn : (1048576 : Int) < (l.length : Int) := by omega
    go_enter Tryd.func8, Tryd.ntmps8
    go_wp2_with (go_at_call 16; refine (szPointS_f _ _ _ _ ?_ ?_ hm _).mono ?_; (omega); (omega); rintro e w' ⟨rfl, rfl⟩)
    go_ret
    exact ⟨rfl, by go_grown⟩
end Go.Proofs.YtcghpepkphphbaaDoor.fnExactCovers
