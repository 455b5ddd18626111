/-
  What the law of layers asks of a good set (plain).
  Conditions: as each theorem states them.
-/
import Derived.Test.YtoefllklngnmeaaDoorInQ
import Derived.Test.YtoefllklngnmeaaDoorIns4
import Derived.Test.YtoefllklngnmeaaDoorHOwnHull
import Derived.Test.YtoefllklngnmeaaDoorLyMath
import Derived.Test.YtoefllklngnmeaaDoorFSS
namespace Go.Proofs.YtoefllklngnmeaaDoor
open Go.RowKit Go.Shelf
set_option linter.unusedVariables false
theorem sl_tPL {a b c : Int × Int} (ha : gp a) (hb : gp b) (hc : gp c) : slB a b c = tP a b c := slB_eq ha hb hc
theorem hull_slL {s : List (Int × Int)} (h : allG s) : hullB slB s = hullB tP s := hullB_congr fun a ha b hb c hc => sl_tPL (h a ha) (h b hb) (h c hc)
/-- What is left behind k layers. -/
def rstK : Nat → List (Int × Int) → List (Int × Int)
  | 0, s => s
  | k + 1, s => rstL (rstK k s)
theorem rstK_good {s : List (Int × Int)} (h : goodL s = true) : ∀ k, goodL (rstK k s) = true
  | 0 => h
  | k + 1 => rstL_good (rstK_good h k)
theorem layL_drop {s : List (Int × Int)} (hG : goodL s = true) : ∀ k, k ≤ (layL s).length → layL (rstK k s) = (layL s).drop k
  | 0, _ => rfl
  | k + 1, hk => by
    have ih := layL_drop hG k (by omega)
    have h0 : 0 < (rstK k s).length := by
      by_cases h : 0 < (rstK k s).length
      · exact h
      · rw [layL_none (by omega)] at ih
        have := congrArg List.length ih
        rw [List.length_drop] at this
        simp at this; omega
    rw [layL_step (rstK_good hG k) h0, List.drop_eq_getElem_cons (by omega)] at ih
    exact (List.cons.inj ih).2
theorem layL_at {s : List (Int × Int)} (hG : goodL s = true) {k : Nat} (hk : k < (layL s).length) : nth (layL s) k = rimL (rstK k s) ∧ 0 < (rstK k s).length := by
  have ih := layL_drop hG k (by omega)
  have h0 : 0 < (rstK k s).length := by
    by_cases h : 0 < (rstK k s).length
    · exact h
    · rw [layL_none (by omega)] at ih
      have := congrArg List.length ih
      rw [List.length_drop] at this
      simp at this; omega
  rw [layL_step (rstK_good hG k) h0, List.drop_eq_getElem_cons (by omega)] at ih
  refine ⟨?_, h0⟩
  unfold nth
  rw [List.getD_eq_getElem?_getD, List.getElem?_eq_getElem hk]
  exact (List.cons.inj ih).1.symm
theorem rstK_sub {s : List (Int × Int)} {p : Int × Int} : ∀ d k, p ∈ rstK (k + d) s → p ∈ rstK k s
  | 0, _, h => h
  | d + 1, k, h => rstK_sub d k (List.mem_filter.1 (show p ∈ (rstK (k + d) s).filter _ from h)).1
/-- How many points the first k layers have. -/
def sumLen : List (List (Int × Int)) → Nat
  | [] => 0
  | x :: r => x.length + sumLen r
theorem sumLen_append (a b : List (List (Int × Int))) : sumLen (a ++ b) = sumLen a + sumLen b := by
  induction a with
  | nil => simp [sumLen]
  | cons x r ih => simp [sumLen, ih]; omega
theorem rim_rest (s : List (Int × Int)) : (rimL s).length + (rstL s).length = s.length := by
  unfold rimL rstL
  induction s with
  | nil => rfl
  | cons x r _ =>
    have : ∀ (f : Int × Int → Bool) (l : List (Int × Int)), (l.filter f).length + (l.filter fun p => !f p).length = l.length := by
      intro f l
      induction l with
      | nil => rfl
      | cons y t ih => cases h : f y <;> simp [h] <;> omega
    exact this _ _
theorem sum_all : ∀ (n : Nat) (s : List (Int × Int)), s.length ≤ n → goodL s = true → sumLen (layL s) = s.length
  | 0, s, h, _ => by rw [layL_none (by omega)]; simp [sumLen]; omega
  | n + 1, s, h, hG => by
    by_cases h0 : 0 < s.length
    · have hl := rst_less hG h0
      rw [layL_step hG h0]
      show (rimL s).length + sumLen (layL (rstL s)) = _
      rw [sum_all n (rstL s) (by omega) (rstL_good hG)]
      exact rim_rest s
    · rw [layL_none (by omega)]; simp [sumLen]; omega
/-- The hull of the rim is the hull. -/
theorem rim_hull {s : List (Int × Int)} (hG : goodL s = true) : hulL (rimL s) = hulL s := by
  have hA := goodL_all hG
  have hr : Rise s := goodL_rises hG
  have hrG := rimL_good hG
  have hA2 := goodL_all hrG
  unfold hulL
  rw [if_pos hG, if_pos hrG, hull_slL hA, hull_slL hA2]
  have hH : hullB slB s = hullB tP s := hull_slL hA
  refine hull_sub hr (goodL_rises hrG) (fun q hq => (List.mem_filter.1 hq).1) fun q hq => ?_
  have hqs : q ∈ s := hullB_mem hq
  refine List.mem_filter.2 ⟨hqs, ?_⟩
  unfold rimOn
  refine decide_eq_true ?_
  rw [hH]
  have hAh : allG (hullB tP s) := fun p hp => hA p (hullB_mem hp)
  obtain ⟨i, hi, e⟩ := mem_pt hq
  refine whS_one.2 ?_
  unfold onS rimS
  refine decide_eq_true ((fstT_lt _).2 ⟨i, hi, ?_⟩)
  unfold sideT
  refine (onB_iff (hAh _ (pt_mem hi)) (hAh _ (pt_mem (Nat.mod_lt _ (by omega)))) (hA q hqs)).2 ?_
  rw [← e]
  refine ⟨sd_start _ _, ?_⟩
  unfold dt vec
  simp
theorem hul_gh {s : List (Int × Int)} (hG : goodL s = true) (hl : s.length ≤ 30) : ghB (hulL s) = true := by
  have hA := goodL_all hG
  have hr : Rise s := goodL_rises hG
  have e0 : hulL s = hullB tP s := by unfold hulL; rw [if_pos hG]; exact hull_slL hA
  have hAh : allG (hullB tP s) := fun p hp => hA p (hullB_mem hp)
  have hlen : (hullB tP s).length ≤ 60 := by have := hullB_len (t := tP) s; omega
  rw [e0]
  unfold ghB
  rw [Bool.and_eq_true, Bool.and_eq_true, decide_eq_true_iff, decide_eq_true_iff]
  exact ⟨(allGood_iff _).2 fun i hi => hAh.pt hi, hlen, by rw [hull_slL (fromL_all hAh)]; exact hull_own hr⟩
theorem hul_in {s : List (Int × Int)} (hG : goodL s = true) {p : Int × Int} (hp : p ∈ s) : inB (hulL s) p = true := by
  have hA := goodL_all hG
  have hr : Rise s := goodL_rises hG
  have e0 : hulL s = hullB tP s := by unfold hulL; rw [if_pos hG]; exact hull_slL hA
  have hAh : allG (hullB tP s) := fun p hp => hA p (hullB_mem hp)
  have hne : s ≠ [] := List.ne_nil_of_mem hp
  rw [e0]
  unfold inB
  have := (whS_in hAh (hA p hp)).2 ((hull_ring hr hne).inside hp)
  rw [decide_eq_false this]; rfl
/-- Each layer is inside the one ahead. -/
theorem lay_cover {s : List (Int × Int)} (hG : goodL s = true) (hl : s.length ≤ 30) {k : Nat} (hk : k + 1 < (layL s).length) : cvOk (hulL (nth (layL s) k)) (hulL (nth (layL s) (k + 1))) = true ∧ cvB (hulL (nth (layL s) k)) (hulL (nth (layL s) (k + 1))) = true := by
  obtain ⟨e1, _⟩ := layL_at hG (k := k) (by omega)
  obtain ⟨e2, _⟩ := layL_at hG hk
  have hlen : ∀ j, (rstK j s).length ≤ 30 := fun j => by
    induction j with
    | zero => exact hl
    | succ j ih => exact Nat.le_trans (rstL_len _) ih
  rw [e1, e2, rim_hull (rstK_good hG k), rim_hull (rstK_good hG (k + 1))]
  have hok : cvOk (hulL (rstK k s)) (hulL (rstK (k + 1) s)) = true := by
    unfold cvOk
    rw [hul_gh (rstK_good hG k) (hlen k), hul_gh (rstK_good hG (k + 1)) (hlen (k + 1))]; rfl
  refine ⟨hok, ?_⟩
  unfold cvB
  rw [hok, Bool.true_and]
  refine allT_iff.2 fun i hi => hul_in (rstK_good hG k) ?_
  have hm : pt (hulL (rstK (k + 1) s)) i ∈ rstK (k + 1) s := by
    have h1 := pt_mem hi
    have e0 : hulL (rstK (k + 1) s) = hullB slB (rstK (k + 1) s) := by unfold hulL; rw [if_pos (rstK_good hG (k + 1))]
    rw [e0] at h1 ⊢
    exact hullB_mem h1
  exact (List.mem_filter.1 (show _ ∈ (rstK k s).filter _ from hm)).1
/-- The number of a point's layer. -/
theorem lay_no {s : List (Int × Int)} (hG : goodL s = true) {k : Nat} (hk : k < (layL s).length) {p : Int × Int} (hp : p ∈ nth (layL s) k) : lyOk s p = true ∧ lyV s p = k := by
  have e : lysL s = layL s := by unfold lysL; rw [if_pos hG]
  obtain ⟨e1, _⟩ := layL_at hG hk
  have hK : lyK s p = k := by
    unfold lyK
    rw [e]
    refine fstT_at (f := fun k => decide (p ∈ (layL s).getD k [])) (fun i hi => decide_eq_false fun hm => ?_) (decide_eq_true (by exact hp)) _ hk
    obtain ⟨e2, _⟩ := layL_at hG (k := i) (by omega)
    have hm' : p ∈ nth (layL s) i := hm
    rw [e2] at hm'
    rw [e1] at hp
    have h1 : p ∈ rstK k s := (List.mem_filter.1 hp).1
    have h2 : p ∈ rstK (i + 1) s := rstK_sub (k - (i + 1)) (i + 1) (by rw [show i + 1 + (k - (i + 1)) = k by omega]; exact h1)
    have h3 := (List.mem_filter.1 hm').2
    have h4 := (List.mem_filter.1 (show p ∈ (rstK i s).filter _ from h2)).2
    rw [h3] at h4
    cases h4
  have hO : lyOk s p = true := by rw [ly_found, hK, e]; exact decide_eq_true hk
  exact ⟨hO, by unfold lyV; rw [if_pos hO, hK]⟩
end Go.Proofs.YtoefllklngnmeaaDoor
