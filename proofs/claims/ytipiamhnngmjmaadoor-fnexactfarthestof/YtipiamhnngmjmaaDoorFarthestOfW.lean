/-
  The walk of a law (see the text that imports this one).
  Conditions: as the theorem states them.
-/
import Derived.Test.YtipiamhnngmjmaaDoorNr6
namespace Go.Proofs.YtipiamhnngmjmaaDoor.fnExactFarthestOf
open Go.RowKit
set_option linter.unusedVariables false
set_option maxRecDepth 8000
set_option maxHeartbeats 4000000 in
theorem walk (l : List (Int × Int)) (a : Option Addr) (len cap : Nat) (w : World) (hl : l.length = len) (hm : len ≤ maxLen) (hA : At w.heap.size a l w) (c0 : w.cell? ⟨0, 0, none⟩ = some (.int .i64 1000000)) (c1 : w.cell? ⟨0, 1, none⟩ = some (.int .i64 1099511627776)) (c2 : w.cell? ⟨0, 2, none⟩ = some (.int .i64 4398046511104)) (c3 : w.cell? ⟨0, 3, none⟩ = some (.int .i64 40)) :
    Calls Tryd.prog 6 #[.slice a len cap] w fun e w' => e = .returned (.bool true) ∧ Below w.heap.size w w' := by
  have HA := hid hA
  have C0 := hid c0
  clear hA c0 c1 c2 c3
  by_cases h20 : len ≤ 1048576
  · clear hm
    have hn : (0 : Int) ≤ 1048576 - (len : Int) := by omega
    obtain ⟨⟨⟨e0, e1⟩, e2, e3⟩, hE⟩ : ∃ e, bsV (-1) l = e := ⟨_, rfl⟩
    have hQ0 : eqB e0 e1 e0 e1 = true := by unfold eqB; simp
    have hQ1 : eqB e2 e3 e2 e3 = true := by unfold eqB; simp
    have tok2 : True := trivial
    have tok3 : True := trivial
    have tok4 : True := trivial
    go_enter Tryd.func6, Tryd.ntmps6
    go_upto_region 6 with (first
      | (go_at_call 15; refine (szPointS_c _ _ _ _ ?_ ?_ _).mono ?_; (omega); (omega); rintro e w' ⟨rfl, rfl⟩)
      | (go_at_call 17; refine (toPointS_e l _ _ _ _ hl h20 HA.out).mono ?_; rintro e w1 ⟨b1, rfl, hc1, hb1⟩; have ha1 := hc1.at; clear hc1)
      | (go_at_call 23; refine (farthestSpec_c l _ _ _ _ hl h20 (.inr ⟨⟨_, _, rfl⟩, Nat.le_refl _, by unfold maxLen; omega⟩) ha1).mono ?_; rw [hE]; rintro e w2 ⟨rfl, hb2⟩; have hb2' := grew hb1 hb2; have hb3 : Below w2.heap.size w2 ((w2.alloc (.cells #[.int .i64 e0, .int .i64 e1] 26)).alloc (.cells #[.int .i64 e2, .int .i64 e3] 26)) := (by go_grown); have A3 := (BoxP.new w2 e0 e1).later ((Below.refl _ (w2.alloc (.cells #[.int .i64 e0, .int .i64 e1] 26))).alloc (Nat.le_refl _) (.cells #[.int .i64 e2, .int .i64 e3] 26)); have B3 := BoxP.new (w2.alloc (.cells #[.int .i64 e0, .int .i64 e1] 26)) e2 e3; simp only [World.size_alloc] at B3))
    have hw3 := grew hb2' hb3
    generalize w2.heap.size + 1 = Bb at B3 ⊢
    generalize w2.heap.size = Ba at A3 ⊢
    generalize (w2.alloc (.cells #[.int .i64 e0, .int .i64 e1] 26)).alloc (.cells #[.int .i64 e2, .int .i64 e3] 26) = w3 at A3 B3 hw3 hb3 ⊢
    go_upto_region 8 with (first
      | (go_at_call 17; refine (toPointS_e l _ _ _ _ hl h20 ((HA.out.later hw3).mono hw3.size)).mono ?_; rintro e w4 ⟨b4, rfl, hc4, hb4⟩; have ha4 := hc4.at; have hw4 := grew hw3 hb4; replace A3 := A3.later hb4; replace B3 := B3.later hb4; clear hc4)
      | (go_at_call 24; refine (farthestImpl_c l _ _ _ _ hl h20 (.inr ⟨⟨_, _, rfl⟩, Nat.le_refl _, by unfold maxLen; omega⟩) ha4 (cell_later hw4 C0.out)).mono ?_; rw [hE]; rintro e w5 ⟨rfl, hb5⟩; have hw5 := grew hw4 hb5; replace ha4 := (ha4.later hb5).mono hb5.size; replace A3 := A3.later hb5; replace B3 := B3.later hb5; have hb6 : Below w5.heap.size w5 ((w5.alloc (.cells #[.int .i64 e0, .int .i64 e1] 26)).alloc (.cells #[.int .i64 e2, .int .i64 e3] 26)) := (by go_grown); have A6 := (BoxP.new w5 e0 e1).later ((Below.refl _ (w5.alloc (.cells #[.int .i64 e0, .int .i64 e1] 26))).alloc (Nat.le_refl _) (.cells #[.int .i64 e2, .int .i64 e3] 26)); have B6 := BoxP.new (w5.alloc (.cells #[.int .i64 e0, .int .i64 e1] 26)) e2 e3; simp only [World.size_alloc] at B6))
    have hw6 := grew hw5 hb6
    replace ha4 := (ha4.later hb6).mono hb6.size
    replace A3 := A3.later hb6
    replace B3 := B3.later hb6
    generalize w5.heap.size + 1 = Bd at B6 ⊢
    generalize w5.heap.size = Bc at A6 ⊢
    generalize (w5.alloc (.cells #[.int .i64 e0, .int .i64 e1] 26)).alloc (.cells #[.int .i64 e2, .int .i64 e3] 26) = w6 at A3 B3 A6 B6 ha4 hw6 ⊢
    have k0 := A3.c0
    have k1 := A3.c1
    have k2 := B3.c0
    have k3 := B3.c1
    have k4 := A6.c0
    have k5 := A6.c1
    have k6 := B6.c0
    have k7 := B6.c1
    go_wp2_with (first
      | (go_at_call 19; clear tok3; refine (eqPoint_c _ _ _ _ _).mono ?_; rw [hQ0]; rintro e w7 ⟨rfl, hb7⟩; have hw7 := grew hw6 hb7; replace ha4 := (ha4.later hb7).mono hb7.size; have q2 := (B3.later hb7).c0; have q3 := (B3.later hb7).c1; have q6 := (B6.later hb7).c0; have q7 := (B6.later hb7).c1; clear k0 k1 k2 k3 k4 k5 k6 k7)
      | (go_at_call 19; refine (eqPoint_c _ _ _ _ _).mono ?_; rw [hQ1]; rintro e w8 ⟨rfl, hb8⟩; have hw8 := grew hw7 hb8; replace ha4 := (ha4.later hb8).mono hb8.size)
      | (go_at_call 17; refine (toPointS_e l _ _ _ _ hl h20 ((HA.out.later hw8).mono hw8.size)).mono ?_; rintro e w9 ⟨b9, rfl, hc9, hb9⟩; have ha9 := hc9.at; have hw9 := grew hw8 hb9; replace ha4 := (ha4.later hb9).mono hb9.size; clear hc9)
      | (go_at_call 20; refine (eqPointS_c l l _ _ _ _ _ _ _ hl hl h20 h20 ha4 ha9).mono ?_; rintro e wA ⟨rfl, hbA⟩))
    all_goals go_ret
    all_goals exact ⟨rfl, grew hw9 hbA⟩
  · have hn : (1048576 : Int) < (len : Int) := by omega
    go_enter Tryd.func6, Tryd.ntmps6
    go_wp2_with (go_at_call 15; refine (szPointS_f _ _ _ _ ?_ ?_ hm _).mono ?_; (omega); (omega); rintro e w' ⟨rfl, rfl⟩)
    go_ret
    exact ⟨rfl, Below.refl _ _⟩
end Go.Proofs.YtipiamhnngmjmaaDoor.fnExactFarthestOf
