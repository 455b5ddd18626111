/-
  A set gone round from corner to corner, in the program (the contract of the exported function).
  Conditions: as each theorem states them.
-/
import Derived.Test.YtcghpepkphphbaaGreatDoorHWrapS
namespace Go.Proofs.YtcghpepkphphbaaGreatDoor
open Go.RowKit Go.Shelf
set_option linter.unusedVariables false
set_option maxRecDepth 8000
set_option maxHeartbeats 1000000 in
theorem wrapImpl_c (l : List (Int × Int)) (a : Option Addr) (len cap : Nat) (w : World) (hl : l.length = len) (h1 : len ≤ 1048576) (hA : At w.heap.size a l w) (c0 : w.cell? ⟨0, 0, none⟩ = some (.int .i64 1000000)) :
    Calls Tryz.prog 8 #[.slice a len cap] w fun e w' => ∃ v, e = .returned (.tuple #[v, .bool (goodL l)]) ∧ OwnC w.heap.size v (wraL l) w' ∧ Below w.heap.size w w' := by
  subst hl
  have HA := hid hA
  have C0 := hid c0
  clear hA c0
  cases hG : goodL l
  · have e2 : wraL l = [] := by rw [wraL, hG]; rfl
    rw [e2]
    clear e2
    go_enter Tryz.func8, Tryz.ntmps8
    go_wp2_with (go_at_call 23; refine (goodSetImpl_c l _ _ _ _ rfl h1 HA.out C0.out).mono ?_; rintro e w1 ⟨rfl, hb1⟩)
    go_ret2
    exact ⟨_, rfl, OwnC.nil _ _, hb1⟩
  · have e2 : wraL l = wrapR l := by rw [wraL, hG, if_pos rfl]
    rw [e2]
    clear e2
    have hfew := goodL_few hG
    have HG := hid hG
    go_enter Tryz.func8, Tryz.ntmps8
    go_wp2_with (first
      | (go_at_call 23; refine (goodSetImpl_c l _ _ _ _ rfl h1 HA.out C0.out).mono ?_; rintro e w1 ⟨rfl, hb1⟩)
      | (go_at_call 27; refine (wrapped_c l _ _ _ w1 rfl (by omega) HG.out ((HA.out.later hb1).mono hb1.size) (cell_later hb1 C0.out)).mono ?_; rintro e w2 ⟨v2, rfl, ho2, hb2⟩))
    go_ret2
    exact ⟨_, rfl, ho2.mono hb1.size, grew hb1 hb2⟩
end Go.Proofs.YtcghpepkphphbaaGreatDoor
