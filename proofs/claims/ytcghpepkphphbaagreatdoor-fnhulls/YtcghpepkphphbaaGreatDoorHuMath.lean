/-
  What the law of hulls asks of a good set and its hull (plain).
  Conditions: as each theorem states them.
-/
import Derived.Test.YtcghpepkphphbaaGreatDoorInQ
import Derived.Test.YtcghpepkphphbaaGreatDoorTop4
import Derived.Test.YtcghpepkphphbaaGreatDoorHHalP
namespace Go.Proofs.YtcghpepkphphbaaGreatDoor
open Go.RowKit Go.Shelf
set_option linter.unusedVariables false
/-- What the law asks of a set and its hull. -/
structure Hulled (s h : List (Int × Int)) : Prop where
  hull : hulL s = h
  wrap : wraL s = h
  half : halL s = h
  gh : ghB h = true
  len : h.length ≤ 60
  ok : ihOk s h = true
  is : ihB s h = true
  wok : ∀ i, i < s.length → whOk h (px s i) (py s i) = true
  wv : ∀ i, i < s.length → whV h (px s i) (py s i) ≠ 0
  sok : ∀ k, k < h.length → sideOk (px h k) (py h k) (px h ((k + 1) % h.length)) (py h ((k + 1) % h.length)) (px h ((k + 2) % h.length)) (py h ((k + 2) % h.length)) = true
  turn : ∀ k, k < h.length → 2 < h.length → sideN (px h k) (py h k) (px h ((k + 1) % h.length)) (py h ((k + 1) % h.length)) (px h ((k + 2) % h.length)) (py h ((k + 2) % h.length)) = 1
  mem : ∀ k, k < h.length → (px h k, py h k) ∈ s
theorem sl_tP {a b c : Int × Int} (ha : gp a) (hb : gp b) (hc : gp c) : slB a b c = tP a b c := slB_eq ha hb hc
theorem hull_sl {s : List (Int × Int)} (h : allG s) : hullB slB s = hullB tP s := hullB_congr fun a ha b hb c hc => sl_tP (h a ha) (h b hb) (h c hc)
theorem allG.sub {s l : List (Int × Int)} (h : allG s) (k : ∀ p, p ∈ l → p ∈ s) : allG l := fun p hp => h p (k p hp)
theorem halves_mem (t : Int × Int → Int × Int → Int × Int → Bool) : ∀ (n : Nat) (l : List (Int × Int)) (p : Int × Int), p ∈ halvesB t n l → p ∈ l
  | 0, _, _, h => h
  | n + 1, l, p, h => by
    unfold halvesB at h
    split at h
    · exact h
    · have h1 := fromL_mem (hullB_mem h)
      rcases List.mem_append.1 h1 with h2 | h2
      · exact List.mem_of_mem_take (halves_mem t n _ _ h2)
      · exact List.mem_of_mem_drop (halves_mem t n _ _ h2)
theorem halves_sl : ∀ (n : Nat) (l : List (Int × Int)), allG l → halvesB slB n l = halvesB tP n l
  | 0, _, _ => rfl
  | n + 1, l, h => by
    unfold halvesB
    split
    · rfl
    · have h1 : allG (l.take (l.length / 2)) := h.sub fun p hp => List.mem_of_mem_take hp
      have h2 : allG (l.drop (l.length / 2)) := h.sub fun p hp => List.mem_of_mem_drop hp
      rw [halves_sl n _ h1, halves_sl n _ h2]
      refine hull_sl (fromL_all fun p hp => ?_)
      rcases List.mem_append.1 hp with hp | hp
      · exact h1 p (halves_mem _ _ _ _ hp)
      · exact h2 p (halves_mem _ _ _ _ hp)
theorem hulled {s : List (Int × Int)} (hG : goodL s = true) (hl : s.length ≤ 30) : Hulled s (hulL s) := by
  have hA := goodL_all hG
  have hr : Rise s := goodL_rises hG
  have e0 : hulL s = hullB tP s := by unfold hulL; rw [hG]; exact hull_sl hA
  have hsl : hullB slB s = hullB tP s := hull_sl hA
  have hlen : (hullB tP s).length ≤ 60 := by have := hullB_len (t := tP) s; omega
  have hsub : ∀ p, p ∈ hullB tP s → p ∈ s := fun p hp => hullB_mem hp
  have hAh : allG (hullB tP s) := hA.sub hsub
  rw [e0]
  have hgh : ghB (hullB tP s) = true := by
    unfold ghB
    rw [Bool.and_eq_true, Bool.and_eq_true, decide_eq_true_iff, decide_eq_true_iff]
    exact ⟨(allGood_iff _).2 fun i hi => hAh.pt hi, hlen, by rw [hull_sl (fromL_all hAh)]; exact hull_own hr⟩
  have hok : ihOk s (hullB tP s) = true := by unfold ihOk; rw [hG, decide_eq_true hlen]; rfl
  refine ⟨e0, by unfold wraL; rw [hG]; exact wrap_hull hr, by unfold halL; rw [hG]; exact (halves_sl _ _ hA).trans (halves_hull _ _ (Nat.le_refl _) hr), hgh, hlen, hok, by unfold ihB; rw [hok, decide_eq_true hsl]; rfl, ?_, ?_, ?_, ?_, fun k hk => hsub _ (pt_mem hk)⟩
  · intro i hi
    unfold whOk
    rw [hgh]
    exact hA.pt hi
  · intro i hi
    have hw : whOk (hullB tP s) (px s i) (py s i) = true := by unfold whOk; rw [hgh]; exact hA.pt hi
    unfold whV
    rw [if_pos hw]
    have hne : s ≠ [] := List.ne_nil_of_length_pos (by omega)
    exact (whS_in hAh (hA.pt hi)).2 ((hull_ring hr hne).inside (pt_mem hi))
  · intro k hk
    have h1 : gp (pt (hullB tP s) k) := hAh.pt hk
    have h2 : gp (pt (hullB tP s) ((k + 1) % (hullB tP s).length)) := hAh.pt (Nat.mod_lt _ (by omega))
    have h3 : gp (pt (hullB tP s) ((k + 2) % (hullB tP s).length)) := hAh.pt (Nat.mod_lt _ (by omega))
    unfold sideOk
    rw [Bool.and_eq_true, Bool.and_eq_true]
    exact ⟨⟨h1, h2⟩, h3⟩
  · intro k hk h2
    have hne : s ≠ [] := fun e => by subst e; simp [hullB] at hk
    have h1 : gp (pt (hullB tP s) k) := hAh.pt hk
    have h3 : gp (pt (hullB tP s) ((k + 1) % (hullB tP s).length)) := hAh.pt (Nat.mod_lt _ (by omega))
    have h4 : gp (pt (hullB tP s) ((k + 2) % (hullB tP s).length)) := hAh.pt (Nat.mod_lt _ (by omega))
    exact (sideN_eq h1 h3 h4).trans ((sg_pos _).1.2 ((hull_ring hr hne).turn h2 hk))
end Go.Proofs.YtcghpepkphphbaaGreatDoor
