/-
  A list copied, in the specification (a contract for the walks).
  Conditions: as each theorem states them.
-/
import Derived.Test.YtegmlemejmahiaaDoorSet10
namespace Go.Proofs.YtegmlemejmahiaaDoor
open Go.RowKit
set_option linter.unusedVariables false
theorem cells_all {N b off : Nat} {l : List (Int × Int)} {w : World} (hA : At N (some ⟨b, off, none⟩) l w) : ∀ ad, some (⟨b, off, none⟩ : Addr) = some ad → ∀ j u, (cells l)[j]? = some u → w.cell? (ad.add j) = some u := by
  have h := cells_src hA (i := 0) (ao := some ⟨b, off, none⟩) (fun _ => by simp)
  rwa [List.drop_zero] at h
theorem own_empty (w : World) : (w.alloc (.cells #[] 26)).ownsRow w.heap.size 26 2 (.slice (some ⟨w.heap.size, 0, none⟩) 0 0) 0 [] :=
  World.ownsRow_made w #[] 0 (Nat.le_refl _) (Nat.zero_le _) rfl
set_option maxHeartbeats 2000000 in
theorem l2Own_c (l : List (Int × Int)) (a : Option Addr) (len cap : Nat) (w : World) (hl : l.length = len) (h1 : len ≤ 1048576) (hF : Fit a len cap) (hA : At w.heap.size a l w) :
    Calls Tryd.prog 54 #[.slice a len cap] w fun e w' => ∃ v, e = .returned v ∧ Own w.heap.size v l w' ∧ Below w.heap.size w w' := by
  subst hl
  have HA := hid hA
  clear hA
  obtain ⟨i0, hi, hz0, hz1, hz2⟩ := info_parts info_pt
  rcases hF with ⟨rfl, rfl, hl0⟩ | ⟨⟨b, off, rfl⟩, hlc, hcm⟩
  · obtain rfl := List.eq_nil_of_length_eq_zero hl0
    simp only [List.length_nil]
    go_enter Tryd.func54, Tryd.ntmps54
    go_wp2_with (at_builtin; refine wpList_append_own_none rfl (.tmp 3) (.tmp 4) 29 rfl w.heap.size 26 i0 2 Tryd.underlying29 hi _ _ _ rfl (own_empty w) rfl ?_)
    go_ret
    exact ⟨_, rfl, own_of (l := []) (own_empty w), by go_grown⟩
  · go_enter Tryd.func54, Tryd.ntmps54
    go_wp2_with (at_builtin; refine wpList_append_own _ rfl (.tmp 3) (.tmp 4) 29 rfl w.heap.size 26 i0 _ 2 16 Tryd.underlying29 hi hz0 hz1 hz2 rfl (by decide) _ _ _ rfl (own_empty w) _ _ _ (cells l) rfl (cells_len l) (by intro j u hu; exact cells_all (HA.out.later (by go_grown)) _ rfl j u hu) (cells_ones _) (by unfold maxLen; omega) (by omega) (by simp) ?_; intro v' w1 hown1 hgrow1 _)
    go_ret
    refine ⟨_, rfl, own_of (by rw [List.nil_append] at hown1; exact hown1), ?_⟩
    exact (by go_grown : Below w.heap.size w _).grown hgrow1 (by simp) (fun k hk => by cases hk; exact Nat.le_refl _)
end Go.Proofs.YtegmlemejmahiaaDoor
