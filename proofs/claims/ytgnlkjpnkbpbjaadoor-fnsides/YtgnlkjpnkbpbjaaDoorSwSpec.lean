/-
  What SideWide answers, in the specification or in the program (a contract for the walks).
  Conditions: as each theorem states them.
-/
import Derived.Test.YtgnlkjpnkbpbjaaDoorMul
namespace Go.Proofs.YtgnlkjpnkbpbjaaDoor
open Go.RowKit Go.Lib
set_option linter.unusedVariables false
set_option maxHeartbeats 4000000 in
theorem sideWideSpec_c (ax ay bx b_y cx cy : Int) (w : World) : Calls Tryd.prog 13 #[.agg #[.int .i64 ax, .int .i64 ay], .agg #[.int .i64 bx, .int .i64 b_y], .agg #[.int .i64 cx, .int .i64 cy]] w fun e w' => e = .returned (.tuple #[.int .i64 (swN ax ay bx b_y cx cy), .bool (swOk ax ay bx b_y cx cy)]) ∧ Below w.heap.size w w' := by
  cases h0 : inW ax
  · have e0 : swOk ax ay bx b_y cx cy = false := by simp [swOk, h0]
    have e1 : swN ax ay bx b_y cx cy = 0 := by unfold swN; rw [e0]; rfl
    have E := hid (And.intro e0 e1)
    clear e0 e1
    go_enter Tryd.func13, Tryd.ntmps13
    go_wp2_with fail
    refine wp_loop_rounds 4 ?_
    repeat any_goals (rw [rounds_succ]; go_wp2_with ((go_at_call 38; refine (l1In_c _ _).mono ?_; rintro e w' ⟨rfl, rfl⟩)))
    go_ret2
    exact ⟨ret_ib E.out.2.symm E.out.1.symm, by go_grown⟩
  · cases h1 : inW ay
    · have e0 : swOk ax ay bx b_y cx cy = false := by simp [swOk, h0, h1]
      have e1 : swN ax ay bx b_y cx cy = 0 := by unfold swN; rw [e0]; rfl
      have E := hid (And.intro e0 e1)
      clear e0 e1
      go_enter Tryd.func13, Tryd.ntmps13
      go_wp2_with fail
      refine wp_loop_rounds 4 ?_
      repeat any_goals (rw [rounds_succ]; go_wp2_with ((go_at_call 38; refine (l1In_c _ _).mono ?_; rintro e w' ⟨rfl, rfl⟩)))
      go_ret2
      exact ⟨ret_ib E.out.2.symm E.out.1.symm, by go_grown⟩
    · cases h2 : inW bx
      · have e0 : swOk ax ay bx b_y cx cy = false := by simp [swOk, h0, h1, h2]
        have e1 : swN ax ay bx b_y cx cy = 0 := by unfold swN; rw [e0]; rfl
        have E := hid (And.intro e0 e1)
        clear e0 e1
        go_enter Tryd.func13, Tryd.ntmps13
        go_wp2_with fail
        refine wp_loop_rounds 4 ?_
        repeat any_goals (rw [rounds_succ]; go_wp2_with ((go_at_call 38; refine (l1In_c _ _).mono ?_; rintro e w' ⟨rfl, rfl⟩)))
        go_ret2
        exact ⟨ret_ib E.out.2.symm E.out.1.symm, by go_grown⟩
      · cases h3 : inW b_y
        · have e0 : swOk ax ay bx b_y cx cy = false := by simp [swOk, h0, h1, h2, h3]
          have e1 : swN ax ay bx b_y cx cy = 0 := by unfold swN; rw [e0]; rfl
          have E := hid (And.intro e0 e1)
          clear e0 e1
          go_enter Tryd.func13, Tryd.ntmps13
          go_wp2_with fail
          refine wp_loop_rounds 4 ?_
          repeat any_goals (rw [rounds_succ]; go_wp2_with ((go_at_call 38; refine (l1In_c _ _).mono ?_; rintro e w' ⟨rfl, rfl⟩)))
          go_ret2
          exact ⟨ret_ib E.out.2.symm E.out.1.symm, by go_grown⟩
        · cases h4 : inW cx
          · have e0 : swOk ax ay bx b_y cx cy = false := by simp [swOk, h0, h1, h2, h3, h4]
            have e1 : swN ax ay bx b_y cx cy = 0 := by unfold swN; rw [e0]; rfl
            have E := hid (And.intro e0 e1)
            clear e0 e1
            go_enter Tryd.func13, Tryd.ntmps13
            go_wp2_with fail
            refine wp_loop_rounds 4 ?_
            repeat any_goals (rw [rounds_succ]; go_wp2_with ((go_at_call 38; refine (l1In_c _ _).mono ?_; rintro e w' ⟨rfl, rfl⟩)))
            go_ret2
            exact ⟨ret_ib E.out.2.symm E.out.1.symm, by go_grown⟩
          · cases h5 : inW cy
            · have e0 : swOk ax ay bx b_y cx cy = false := by simp [swOk, h0, h1, h2, h3, h4, h5]
              have e1 : swN ax ay bx b_y cx cy = 0 := by unfold swN; rw [e0]; rfl
              have E := hid (And.intro e0 e1)
              clear e0 e1
              go_enter Tryd.func13, Tryd.ntmps13
              go_wp2_with fail
              refine wp_loop_rounds 4 ?_
              repeat any_goals (rw [rounds_succ]; go_wp2_with ((go_at_call 38; refine (l1In_c _ _).mono ?_; rintro e w' ⟨rfl, rfl⟩)))
              go_ret2
              exact ⟨ret_ib E.out.2.symm E.out.1.symm, by go_grown⟩
            · have e0 : swOk ax ay bx b_y cx cy = true := by simp [swOk, h0, h1, h2, h3, h4, h5]
              have e1 : swN ax ay bx b_y cx cy = swS ax ay bx b_y cx cy := by unfold swN; rw [e0]; rfl
              have b0 := inW_b h0
              have b1 := inW_b h1
              have b2 := inW_b h2
              have b3 := inW_b h3
              have b4 := inW_b h4
              have b5 := inW_b h5
              have tok1 : True := trivial
              have tok2 : True := trivial
              have E := hid (And.intro e0 e1)
              clear e0 e1
              go_enter Tryd.func13, Tryd.ntmps13
              go_wp2_with fail
              refine wp_loop_rounds 4 ?_
              repeat any_goals (rw [rounds_succ]; go_wp2_with (first
                  | (go_at_call 38; refine (l1In_c _ _).mono ?_; rintro e w' ⟨rfl, rfl⟩)
                  | (go_at_call 39; have _t := tok1; refine (l1MulWide_c _ _ ?_ ?_ ?_ ?_ _).mono ?_; omega; omega; omega; omega; rintro e w1 ⟨rfl, hb1⟩; clear tok1; have hz1 : w.heap.size + 3 ≤ w1.heap.size := (by have := hb1.size; simp only [World.size_alloc] at this; omega); have w1k0 : ∀ o, (w1.alloc o).cell? ⟨w.heap.size, 0, none⟩ = some (.int .i64 ax) := fun o => cell_later ((Below.refl _ _).alloc (Nat.le_refl _) o) ((hb1.cell (by go_size)).trans (by go_simp)); have w1k1 : ∀ o, (w1.alloc o).cell? ⟨w.heap.size, 1, none⟩ = some (.int .i64 ay) := fun o => cell_later ((Below.refl _ _).alloc (Nat.le_refl _) o) ((hb1.cell (by go_size)).trans (by go_simp)); have w1k2 : ∀ o, (w1.alloc o).cell? ⟨w.heap.size + 1, 0, none⟩ = some (.int .i64 bx) := fun o => cell_later ((Below.refl _ _).alloc (Nat.le_refl _) o) ((hb1.cell (by go_size)).trans (by go_simp)); have w1k3 : ∀ o, (w1.alloc o).cell? ⟨w.heap.size + 1, 1, none⟩ = some (.int .i64 b_y) := fun o => cell_later ((Below.refl _ _).alloc (Nat.le_refl _) o) ((hb1.cell (by go_size)).trans (by go_simp)); have w1k4 : ∀ o, (w1.alloc o).cell? ⟨w.heap.size + 1 + 1, 0, none⟩ = some (.int .i64 cx) := fun o => cell_later ((Below.refl _ _).alloc (Nat.le_refl _) o) ((hb1.cell (by go_size)).trans (by go_simp)); have w1k5 : ∀ o, (w1.alloc o).cell? ⟨w.heap.size + 1 + 1, 1, none⟩ = some (.int .i64 cy) := fun o => cell_later ((Below.refl _ _).alloc (Nat.le_refl _) o) ((hb1.cell (by go_size)).trans (by go_simp)); have ht1 : Hid (Below w.heap.size w w1) := (by go_grown : Below w.heap.size w _).trans (hb1.mono (by go_size)))
                  | (go_at_call 39; have _t := tok2; refine (l1MulWide_c _ _ ?_ ?_ ?_ ?_ _).mono ?_; omega; omega; omega; omega; rintro e w2 ⟨rfl, hb2⟩; clear tok2; have hz2 : w1.heap.size + 1 ≤ w2.heap.size := (by have := hb2.size; simp only [World.size_alloc] at this; omega); have w2e0 : ∀ o, (w2.alloc o).cell? ⟨w1.heap.size, 0, none⟩ = some (.int .i64 (mulHi (bx - ax) (cy - ay))) := fun o => cell_later ((Below.refl _ _).alloc (Nat.le_refl _) o) ((hb2.cell (by go_size)).trans (by go_simp)); have w2e1 : ∀ o, (w2.alloc o).cell? ⟨w1.heap.size, 1, none⟩ = some (.int .u64 (mulLo (bx - ax) (cy - ay))) := fun o => cell_later ((Below.refl _ _).alloc (Nat.le_refl _) o) ((hb2.cell (by go_size)).trans (by go_simp)); have ht2 : Hid (Below w.heap.size w w2) := (by have h := ht1.out; exact ((by go_grown : Below w.heap.size w _).trans (hb2.mono (by go_size)))))
                  | (go_at_call 27; refine (subSpec_c _ _ _ _ _ ?_ ?_ ?_ ?_).mono ?_; exact (mulLo_b _ _).1; exact (mulLo_b _ _).2; exact (mulLo_b _ _).1; exact (mulLo_b _ _).2; rintro e w3 ⟨rfl, hb3⟩; have hz3 : w2.heap.size + 1 ≤ w3.heap.size := (by have := hb3.size; simp only [World.size_alloc] at this; omega); have ht3 : Hid (Below w.heap.size w w3) := (by have h := ht2.out; exact ((by go_grown : Below w.heap.size w _).trans (hb3.mono (by go_size)))))
                  | (go_at_call 28; refine (signOfSpec_c _ _ ?_ _).mono ?_; exact subLo_b _ _; rintro e w4 ⟨rfl, hb4⟩; have ht4 : Hid (Below w.heap.size w w4) := (by have h := ht3.out; exact (h.trans (hb4.mono (by go_size)))))))
              go_ret2
              exact ⟨ret_ib E.out.2.symm E.out.1.symm, ht4.out⟩
end Go.Proofs.YtgnlkjpnkbpbjaaDoor
