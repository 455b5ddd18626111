/-
  Lower and upper points of a set, in the specification and in the program (contracts for the walks).
  Conditions: as each theorem states them.
-/
import Derived.Test.YtegmlemejmahiaaDoorHChain
namespace Go.Proofs.YtegmlemejmahiaaDoor
open Go.RowKit Go.Shelf
set_option linter.unusedVariables false
/-- All points are good. -/
def allG (l : List (Int × Int)) : Prop := ∀ p, p ∈ l → gp p
theorem allG_of {l : List (Int × Int)} (h : GoodTo l l.length) : allG l := fun p hp => by
  obtain ⟨i, hi, rfl⟩ := List.getElem_of_mem hp
  have := h i hi
  rw [show px l i = (l[i]).1 by simp [px, hi], show py l i = (l[i]).2 by simp [py, hi]] at this
  exact this
theorem goodL_all {l : List (Int × Int)} (h : goodL l = true) : allG l := allG_of (goodL_good h)
theorem allG.rev {l : List (Int × Int)} (h : allG l) : allG l.reverse := fun p hp => h p (by simpa using hp)
theorem turn_eq {l : List (Int × Int)} (h : allG l) : ∀ a ∈ l, ∀ b ∈ l, ∀ c ∈ l, tlB a b c = slB a b c := fun a ha b hb c hc => (tlB_eq (h a ha) (h b hb) (h c hc)).trans (slB_eq (h a ha) (h b hb) (h c hc)).symm
theorem chain_eq {l : List (Int × Int)} (h : allG l) : chainB tlB l = chainB slB l := chainB_congr (turn_eq h)
theorem hull_eq {l : List (Int × Int)} (h : allG l) : hullB tlB l = hullB slB l := hullB_congr (turn_eq h)
def lowL (l : List (Int × Int)) : List (Int × Int) := if goodL l then chainB slB l else []
def uppL (l : List (Int × Int)) : List (Int × Int) := if goodL l then chainB slB l.reverse else []
theorem lowL_len (l : List (Int × Int)) : (lowL l).length ≤ l.length := by
  unfold lowL
  split
  · exact chainB_len _
  · simp
theorem uppL_len (l : List (Int × Int)) : (uppL l).length ≤ l.length := by
  unfold uppL
  split
  · have := chainB_len (t := slB) l.reverse
    simpa using this
  · simp
theorem forward_e (a : Option Addr) (len cap : Nat) (w : World) :
    Calls Tryd.prog 84 #[.slice a len cap] w fun e w' => ∃ B, e = .returned (.func (.func 103) #[] #[.pointer (some ⟨B, 0, none⟩)]) ∧ w'.cell? ⟨B, 0, none⟩ = some (.slice a len cap) ∧ Below w.heap.size w w' := by
  refine (forward_c a len cap w).mono ?_
  rintro e w' ⟨he, rfl⟩
  exact ⟨_, he, by simp [go_sem], by go_grown⟩
theorem backward_e (a : Option Addr) (len cap : Nat) (w : World) :
    Calls Tryd.prog 85 #[.slice a len cap] w fun e w' => ∃ B, e = .returned (.func (.func 104) #[] #[.pointer (some ⟨B, 0, none⟩)]) ∧ w'.cell? ⟨B, 0, none⟩ = some (.slice a len cap) ∧ Below w.heap.size w w' := by
  refine (backward_c a len cap w).mono ?_
  rintro e w' ⟨he, rfl⟩
  exact ⟨_, he, by simp [go_sem], by go_grown⟩
theorem chainF_c (l : List (Int × Int)) (B : Nat) (a : Option Addr) (len cap : Nat) (w : World) (hl : l.length = len) (h1 : len ≤ 1048576) (hc : w.cell? ⟨B, 0, none⟩ = some (.slice a len cap)) (hA : At w.heap.size a l w) (c0 : w.cell? ⟨0, 0, none⟩ = some (.int .i64 1000000)) :
    Calls Tryd.prog 83 #[.func (.func 103) #[] #[.pointer (some ⟨B, 0, none⟩)]] w fun e w' => ∃ v, e = .returned v ∧ OwnC w.heap.size v (chainB tlB l) w' ∧ Below w.heap.size w w' := by
  subst hl
  exact chainOf_c _ _ l w h1 c0 (enters_of Tryd.func103 (by kernel_rfl) rfl) (fun n hn => fwd_stops n hn B w.heap.size a l.length cap l w rfl h1 (World.block_lt_of_cell? w _ hc) (Nat.le_refl _) hc hA)
theorem chainR_c (l : List (Int × Int)) (B : Nat) (a : Option Addr) (len cap : Nat) (w : World) (hl : l.length = len) (h1 : len ≤ 1048576) (hc : w.cell? ⟨B, 0, none⟩ = some (.slice a len cap)) (hA : At w.heap.size a l w) (c0 : w.cell? ⟨0, 0, none⟩ = some (.int .i64 1000000)) :
    Calls Tryd.prog 83 #[.func (.func 104) #[] #[.pointer (some ⟨B, 0, none⟩)]] w fun e w' => ∃ v, e = .returned v ∧ OwnC w.heap.size v (chainB tlB l.reverse) w' ∧ Below w.heap.size w w' := by
  subst hl
  exact chainOf_c _ _ l.reverse w (by rw [List.length_reverse]; exact h1) c0 (enters_of Tryd.func104 (by kernel_rfl) rfl) (fun n hn => by rw [List.length_reverse]; exact bwd_stops n hn B w.heap.size a l.length cap l w rfl h1 (World.block_lt_of_cell? w _ hc) (Nat.le_refl _) hc hA)
end Go.Proofs.YtegmlemejmahiaaDoor
