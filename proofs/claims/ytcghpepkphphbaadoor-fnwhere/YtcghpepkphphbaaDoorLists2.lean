/-
  The draws of sets of points (contracts for the walks).
  Conditions: as each theorem states them.
-/
import Derived.Test.YtcghpepkphphbaaDoorLists
namespace Go.Proofs.YtcghpepkphphbaaDoor
open Go.RowKit
set_option linter.unusedVariables false
set_option maxRecDepth 8000
theorem Own.set {N g n cap : Nat} {l : List (Int × Int)} {w : World} (h : Own N (.slice (some ⟨g, 0, none⟩) n cap) l w) (j : Nat) (x : Int) : ∃ l' : List (Int × Int), l'.length = l.length ∧ Own N (.slice (some ⟨g, 0, none⟩) n cap) l' (w.setCell ⟨g, j, none⟩ (.int .i64 x)) := by
  rcases h with ⟨_, e⟩ | ⟨g', c', f, e, h1, h2, h3, h4, h5⟩
  · simp at e
  · simp at e
    obtain ⟨rfl, rfl, rfl⟩ := e
    refine ⟨(List.range l.length).map fun i => (if i * 2 = j then x else px l i, if i * 2 + 1 = j then x else py l i), by simp, .inr ⟨g, cap, _, by simp, h1, by simpa using h2, h3, h4.set j _, fun i hi => ?_⟩⟩
    simp only [List.length_map, List.length_range] at hi
    have h5' := h5 i hi
    unfold cel at h5' ⊢
    by_cases hi2 : i % 2 = 0
    · rw [if_pos hi2] at h5' ⊢
      have hlt : i / 2 < l.length := by omega
      have hx : px ((List.range l.length).map fun i => (if i * 2 = j then x else px l i, if i * 2 + 1 = j then x else py l i)) (i / 2) = if i / 2 * 2 = j then x else px l (i / 2) := by simp [px, hlt]
      rw [hx, show i / 2 * 2 = i by omega]
      by_cases hij : i = j
      · rw [if_pos hij, if_pos hij]
      · rw [if_neg hij, if_neg hij]; exact h5'
    · rw [if_neg hi2] at h5' ⊢
      have hlt : i / 2 < l.length := by omega
      have hx : py ((List.range l.length).map fun i => (if i * 2 = j then x else px l i, if i * 2 + 1 = j then x else py l i)) (i / 2) = if i / 2 * 2 + 1 = j then x else py l (i / 2) := by simp [py, hlt]
      rw [hx, show i / 2 * 2 + 1 = i by omega]
      by_cases hij : i = j
      · rw [if_pos hij, if_pos hij]
      · rw [if_neg hij, if_neg hij]; exact h5'
theorem Own.block {N n cap : Nat} {a : Option Addr} {l : List (Int × Int)} {w : World} (h : Own N (.slice a n cap) l w) (hn : 0 < n) : ∃ g, a = some ⟨g, 0, none⟩ ∧ N ≤ g ∧ g < w.heap.size ∧ ∀ j, w.frozen? ⟨g, j, none⟩ = false := by
  rcases h with ⟨_, e⟩ | ⟨g, c, f, e, h1, _, _, h4, _⟩
  · simp at e; omega
  · simp at e
    exact ⟨g, e.1, h1, h4.lt, fun j => h4.frozen j⟩
set_option maxHeartbeats 1000000 in
theorem set_r (N b m : Nat) (w : World) (h : Rd N b m w) (hm : m ≤ 700000) :
    Calls Tryd.prog 92 #[.pointer (some ⟨b, 0, none⟩)] w fun e w' => ∃ v, e = .returned v ∧ ∃ l, Own w.heap.size v l w' ∧ l.length ≤ 12 ∧ Rd N b (m + 200) w' ∧ Only b w w' := by
  have hb := h.lt
  have H := hid h
  clear h
  go_enter Tryd.func92, Tryd.ntmps92
  go_wp2_with (first
    | (go_at_call 101; refine (points_r N b m _ H.out (by omega)).mono ?_; rintro e w1 ⟨v1, rfl, o, ho1, hl1, _, hR1, hO1⟩; obtain ⟨a1, p1, hv1⟩ := ho1.shape; subst hv1; have hs1 := hO1.size; have hf1 := fromL_len o o.length (Nat.le_refl _))
    | (go_at_call 67; refine (l2From_c o _ _ _ w1 rfl (by omega) ho1.at).mono ?_; rintro e w2 ⟨v2, rfl, ho2, hb2⟩))
  go_ret
  rw [List.take_length] at hf1
  exact ⟨_, rfl, _, ho2.mono hs1, by omega, hR1.below (hb2.mono (by omega)), hO1.trans (Only.ofBelow hb2)⟩
end Go.Proofs.YtcghpepkphphbaaDoor
