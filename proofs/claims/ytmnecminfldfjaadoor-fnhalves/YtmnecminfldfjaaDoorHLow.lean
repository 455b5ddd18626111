/-
  Lower and upper points of a set, in the specification and in the program (contracts for the walks).
  Conditions: as each theorem states them.
-/
import Derived.Test.YtmnecminfldfjaaDoorHChain
namespace Go.Proofs.YtmnecminfldfjaaDoor
open Go.RowKit Go.Shelf
set_option linter.unusedVariables false
/-- All points are good. -/
def allG (l : List (Int × Int)) : Prop := ∀ p, p ∈ l → gp p
theorem allG_of {l : List (Int × Int)} (h : GoodTo l l.length) : allG l := fun p hp => by
  obtain ⟨i, hi, rfl⟩ := List.getElem_of_mem hp
  have := h i hi
  rw [show px l i = (l[i]).1 by simp [px, hi], show py l i = (l[i]).2 by simp [py, hi]] at this
  exact this
theorem goodL_all {l : List (Int × Int)} (h : goodL l = true) : allG l := allG_of (goodL_good h)
theorem allG.rev {l : List (Int × Int)} (h : allG l) : allG l.reverse := fun p hp => h p (by simpa using hp)
theorem turn_eq {l : List (Int × Int)} (h : allG l) : ∀ a ∈ l, ∀ b ∈ l, ∀ c ∈ l, tlB a b c = slB a b c := fun a ha b hb c hc => (tlB_eq (h a ha) (h b hb) (h c hc)).trans (slB_eq (h a ha) (h b hb) (h c hc)).symm
theorem chain_eq {l : List (Int × Int)} (h : allG l) : chainB tlB l = chainB slB l := chainB_congr (turn_eq h)
theorem hull_eq {l : List (Int × Int)} (h : allG l) : hullB tlB l = hullB slB l := hullB_congr (turn_eq h)
def lowL (l : List (Int × Int)) : List (Int × Int) := if goodL l then chainB slB l else []
def uppL (l : List (Int × Int)) : List (Int × Int) := if goodL l then chainB slB l.reverse else []
theorem lowL_len (l : List (Int × Int)) : (lowL l).length ≤ l.length := by
  unfold lowL
  split
  · exact chainB_len _
  · simp
theorem uppL_len (l : List (Int × Int)) : (uppL l).length ≤ l.length := by
  unfold uppL
  split
  · have := chainB_len (t := slB) l.reverse
    simpa using this
  · simp
theorem forward_e (a : Option Addr) (len cap : Nat) (w : World) :
    Calls Tryd.prog 17 #[.slice a len cap] w fun e w' => ∃ B, e = .returned (.func (.func 29) #[] #[.pointer (some ⟨B, 0, none⟩)]) ∧ w'.cell? ⟨B, 0, none⟩ = some (.slice a len cap) ∧ Below w.heap.size w w' := by
  refine (forward_c a len cap w).mono ?_
  rintro e w' ⟨he, rfl⟩
  exact ⟨_, he, by simp [go_sem], by go_grown⟩
theorem backward_e (a : Option Addr) (len cap : Nat) (w : World) :
    Calls Tryd.prog 20 #[.slice a len cap] w fun e w' => ∃ B, e = .returned (.func (.func 33) #[] #[.pointer (some ⟨B, 0, none⟩)]) ∧ w'.cell? ⟨B, 0, none⟩ = some (.slice a len cap) ∧ Below w.heap.size w w' := by
  refine (backward_c a len cap w).mono ?_
  rintro e w' ⟨he, rfl⟩
  exact ⟨_, he, by simp [go_sem], by go_grown⟩
theorem chainF_c (l : List (Int × Int)) (B : Nat) (a : Option Addr) (len cap : Nat) (w : World) (hl : l.length = len) (h1 : len ≤ 1048576) (hc : w.cell? ⟨B, 0, none⟩ = some (.slice a len cap)) (hA : At w.heap.size a l w) (c0 : w.cell? ⟨0, 0, none⟩ = some (.int .i64 1000000)) :
    Calls Tryd.prog 16 #[.func (.func 29) #[] #[.pointer (some ⟨B, 0, none⟩)]] w fun e w' => ∃ v, e = .returned v ∧ OwnC w.heap.size v (chainB tlB l) w' ∧ Below w.heap.size w w' := by
  subst hl
  exact chainOf_c _ _ l w h1 c0 (enters_of Tryd.func29 (by kernel_rfl) rfl) (fun n hn => fwd_stops n hn B w.heap.size a l.length cap l w rfl h1 (World.block_lt_of_cell? w _ hc) (Nat.le_refl _) hc hA)
theorem chainR_c (l : List (Int × Int)) (B : Nat) (a : Option Addr) (len cap : Nat) (w : World) (hl : l.length = len) (h1 : len ≤ 1048576) (hc : w.cell? ⟨B, 0, none⟩ = some (.slice a len cap)) (hA : At w.heap.size a l w) (c0 : w.cell? ⟨0, 0, none⟩ = some (.int .i64 1000000)) :
    Calls Tryd.prog 16 #[.func (.func 33) #[] #[.pointer (some ⟨B, 0, none⟩)]] w fun e w' => ∃ v, e = .returned v ∧ OwnC w.heap.size v (chainB tlB l.reverse) w' ∧ Below w.heap.size w w' := by
  subst hl
  exact chainOf_c _ _ l.reverse w (by rw [List.length_reverse]; exact h1) c0 (enters_of Tryd.func33 (by kernel_rfl) rfl) (fun n hn => by rw [List.length_reverse]; exact bwd_stops n hn B w.heap.size a l.length cap l w rfl h1 (World.block_lt_of_cell? w _ hc) (Nat.le_refl _) hc hA)
set_option maxHeartbeats 1000000 in
theorem lowerSpec_c (l : List (Int × Int)) (a : Option Addr) (len cap : Nat) (w : World) (hl : l.length = len) (h1 : len ≤ 1048576) (hA : At w.heap.size a l w) :
    Calls Tryd.prog 7 #[.slice a len cap] w fun e w' => ∃ v, e = .returned (.tuple #[v, .bool (goodL l)]) ∧ OwnC w.heap.size v (lowL l) w' ∧ Below w.heap.size w w' := by
  subst hl
  have HA := hid hA
  clear hA
  cases hG : goodL l
  · have e2 : lowL l = [] := by rw [lowL, hG]; rfl
    rw [e2]
    clear e2
    go_enter Tryd.func7, Tryd.ntmps7
    go_wp2_with (go_at_call 18; refine (l2Good_c l _ _ _ _ rfl h1 HA.out).mono ?_; rintro e w1 ⟨rfl, hb1⟩)
    go_ret2
    exact ⟨_, rfl, OwnC.nil _ _, hb1⟩
  · have e2 : lowL l = chainB slB l := by rw [lowL, hG]; rfl
    rw [e2]
    clear e2
    go_enter Tryd.func7, Tryd.ntmps7
    go_wp2_with (first
      | (go_at_call 18; refine (l2Good_c l _ _ _ _ rfl h1 HA.out).mono ?_; rintro e w1 ⟨rfl, hb1⟩)
      | (go_at_call 19; refine (l3Half_c l _ _ _ w1 rfl h1 ((HA.out.later hb1).mono hb1.size)).mono ?_; rintro e w2 ⟨v2, rfl, ho2, hb2⟩))
    go_ret2
    exact ⟨_, rfl, ho2.mono hb1.size, grew hb1 hb2⟩
set_option maxHeartbeats 1000000 in
theorem upperSpec_c (l : List (Int × Int)) (a : Option Addr) (len cap : Nat) (w : World) (hl : l.length = len) (h1 : len ≤ 1048576) (hA : At w.heap.size a l w) :
    Calls Tryd.prog 9 #[.slice a len cap] w fun e w' => ∃ v, e = .returned (.tuple #[v, .bool (goodL l)]) ∧ OwnC w.heap.size v (uppL l) w' ∧ Below w.heap.size w w' := by
  subst hl
  have HA := hid hA
  clear hA
  cases hG : goodL l
  · have e2 : uppL l = [] := by rw [uppL, hG]; rfl
    rw [e2]
    clear e2
    go_enter Tryd.func9, Tryd.ntmps9
    go_wp2_with (go_at_call 18; refine (l2Good_c l _ _ _ _ rfl h1 HA.out).mono ?_; rintro e w1 ⟨rfl, hb1⟩)
    go_ret2
    exact ⟨_, rfl, OwnC.nil _ _, hb1⟩
  · have e2 : uppL l = chainB slB l.reverse := by rw [uppL, hG]; rfl
    rw [e2]
    clear e2
    go_enter Tryd.func9, Tryd.ntmps9
    go_wp2_with (first
      | (go_at_call 18; refine (l2Good_c l _ _ _ _ rfl h1 HA.out).mono ?_; rintro e w1 ⟨rfl, hb1⟩)
      | (go_at_call 21; refine (l3Back_c l _ _ _ w1 rfl h1 ((HA.out.later hb1).mono hb1.size)).mono ?_; rintro e w2 ⟨v2, rfl, ho2, hb2⟩; obtain ⟨a2, p2, hv2⟩ := ho2.shape; rw [List.length_reverse] at hv2; subst hv2; have hb12 := grew hb1 hb2)
      | (go_at_call 19; refine (l3Half_c l.reverse _ _ _ w2 List.length_reverse h1 ho2.at).mono ?_; rintro e w3 ⟨v3, rfl, ho3, hb3⟩))
    go_ret2
    exact ⟨_, rfl, ho3.mono hb12.size, grew hb12 hb3⟩
set_option maxHeartbeats 1000000 in
theorem lowerImpl_c (l : List (Int × Int)) (a : Option Addr) (len cap : Nat) (w : World) (hl : l.length = len) (h1 : len ≤ 1048576) (hA : At w.heap.size a l w) (c0 : w.cell? ⟨0, 0, none⟩ = some (.int .i64 1000000)) :
    Calls Tryd.prog 6 #[.slice a len cap] w fun e w' => ∃ v, e = .returned (.tuple #[v, .bool (goodL l)]) ∧ OwnC w.heap.size v (lowL l) w' ∧ Below w.heap.size w w' := by
  subst hl
  have HA := hid hA
  have C0 := hid c0
  clear hA c0
  cases hG : goodL l
  · have e2 : lowL l = [] := by rw [lowL, hG]; rfl
    rw [e2]
    clear e2
    go_enter Tryd.func6, Tryd.ntmps6
    go_wp2_with (go_at_call 15; refine (goodSetImpl_c l _ _ _ _ rfl h1 HA.out C0.out).mono ?_; rintro e w1 ⟨rfl, hb1⟩)
    go_ret2
    exact ⟨_, rfl, OwnC.nil _ _, hb1⟩
  · have e2 : lowL l = chainB tlB l := by rw [lowL, hG]; exact (chain_eq (goodL_all hG)).symm
    rw [e2]
    clear e2
    go_enter Tryd.func6, Tryd.ntmps6
    go_wp2_with (first
      | (go_at_call 15; refine (goodSetImpl_c l _ _ _ _ rfl h1 HA.out C0.out).mono ?_; rintro e w1 ⟨rfl, hb1⟩)
      | (go_at_call 17; refine (forward_e _ _ _ _).mono ?_; rintro e w2 ⟨B2, rfl, hc2, hb2⟩; have hb12 := grew hb1 hb2)
      | (go_at_call 16; refine (chainF_c l B2 _ _ _ w2 rfl h1 hc2 ((HA.out.later hb12).mono hb12.size) (cell_later hb12 C0.out)).mono ?_; rintro e w3 ⟨v3, rfl, ho3, hb3⟩))
    go_ret2
    exact ⟨_, rfl, ho3.mono hb12.size, grew hb12 hb3⟩
set_option maxHeartbeats 1000000 in
theorem upperImpl_c (l : List (Int × Int)) (a : Option Addr) (len cap : Nat) (w : World) (hl : l.length = len) (h1 : len ≤ 1048576) (hA : At w.heap.size a l w) (c0 : w.cell? ⟨0, 0, none⟩ = some (.int .i64 1000000)) :
    Calls Tryd.prog 8 #[.slice a len cap] w fun e w' => ∃ v, e = .returned (.tuple #[v, .bool (goodL l)]) ∧ OwnC w.heap.size v (uppL l) w' ∧ Below w.heap.size w w' := by
  subst hl
  have HA := hid hA
  have C0 := hid c0
  clear hA c0
  cases hG : goodL l
  · have e2 : uppL l = [] := by rw [uppL, hG]; rfl
    rw [e2]
    clear e2
    go_enter Tryd.func8, Tryd.ntmps8
    go_wp2_with (go_at_call 15; refine (goodSetImpl_c l _ _ _ _ rfl h1 HA.out C0.out).mono ?_; rintro e w1 ⟨rfl, hb1⟩)
    go_ret2
    exact ⟨_, rfl, OwnC.nil _ _, hb1⟩
  · have e2 : uppL l = chainB tlB l.reverse := by rw [uppL, hG]; exact (chain_eq (goodL_all hG).rev).symm
    rw [e2]
    clear e2
    go_enter Tryd.func8, Tryd.ntmps8
    go_wp2_with (first
      | (go_at_call 15; refine (goodSetImpl_c l _ _ _ _ rfl h1 HA.out C0.out).mono ?_; rintro e w1 ⟨rfl, hb1⟩)
      | (go_at_call 20; refine (backward_e _ _ _ _).mono ?_; rintro e w2 ⟨B2, rfl, hc2, hb2⟩; have hb12 := grew hb1 hb2)
      | (go_at_call 16; refine (chainR_c l B2 _ _ _ w2 rfl h1 hc2 ((HA.out.later hb12).mono hb12.size) (cell_later hb12 C0.out)).mono ?_; rintro e w3 ⟨v3, rfl, ho3, hb3⟩))
    go_ret2
    exact ⟨_, rfl, ho3.mono hb12.size, grew hb12 hb3⟩
end Go.Proofs.YtmnecminfldfjaaDoor
