/-
  Layers, in plain words: what is on the rim of a set and what is left; layer behind layer; peeled to a number.
  Conditions: as each theorem states them.
-/
import Derived.Test.YtoefllklngnmeaaDoorDpMath
import Derived.Test.YtoefllklngnmeaaDoorHConv
namespace Go.Proofs.YtoefllklngnmeaaDoor
open Go.RowKit Go.Shelf
set_option linter.unusedVariables false
/-- p is less than q. -/
def Lx (p q : Int × Int) : Prop := lessB p.1 p.2 q.1 q.2 = true
theorem good_iff (s : List (Int × Int)) : goodL s = true ↔ s.length ≤ 60 ∧ allG s ∧ s.Pairwise Lx := by
  constructor
  · intro h
    refine ⟨goodL_few h, goodL_all h, List.pairwise_iff_getElem.2 fun i j hi hj hij => ?_⟩
    have := less_at (goodL_rises h) hij hj
    rw [pt_get hi, pt_get hj] at this
    exact this
  · rintro ⟨h1, h2, h3⟩
    have hG : GoodTo s s.length := fun i hi => by
      have := h2 _ (pt_mem (l := s) hi)
      exact this
    have hR : RisesTo s (s.length - 1) := fun i hi => by
      have := List.pairwise_iff_getElem.1 h3 i (i + 1) (by omega) (by omega) (by omega)
      rw [← pt_get (by omega : i < s.length), ← pt_get (by omega : i + 1 < s.length)] at this
      exact this
    rw [goodL_len hG hR]
    exact decide_eq_true h1
theorem Lx.ne {p q : Int × Int} (h : Lx p q) : p ≠ q := fun e => by
  unfold Lx at h
  rw [e, less_irrefl] at h
  cases h
theorem Lx.asymm {p q : Int × Int} (h : Lx p q) (k : Lx q p) : False := by
  have := less_trans2 h k
  rw [less_irrefl] at this
  cases this
theorem good_nodup {s : List (Int × Int)} (h : goodL s = true) : s.Nodup := ((good_iff s).1 h).2.2.imp fun k => k.ne
theorem good_filter {s : List (Int × Int)} (f : Int × Int → Bool) (h : goodL s = true) : goodL (s.filter f) = true := by
  obtain ⟨h1, h2, h3⟩ := (good_iff s).1 h
  exact (good_iff _).2 ⟨Nat.le_trans (List.length_filter_le _ _) h1, fun p hp => h2 p (List.mem_filter.1 hp).1, h3.filter _⟩
/-- Two rising lists with the same points are one. -/
theorem rise_one {l m : List (Int × Int)} (hl : l.Pairwise Lx) (hm : m.Pairwise Lx) (h : ∀ p, p ∈ l ↔ p ∈ m) : l = m :=
  List.Perm.eq_of_pairwise (le := Lx) (fun a b _ _ h1 h2 => (h1.asymm h2).elim) hl hm
    ((List.perm_ext_iff_of_nodup (hl.imp fun k => k.ne) (hm.imp fun k => k.ne)).2 h)
/-- p is on the rim of s. -/
def rimOn (s : List (Int × Int)) (p : Int × Int) : Bool := decide (whS (hullB slB s) p = 1)
def rimL (s : List (Int × Int)) : List (Int × Int) := s.filter (rimOn s)
def rstL (s : List (Int × Int)) : List (Int × Int) := s.filter fun p => !rimOn s p
theorem rimL_good {s : List (Int × Int)} (h : goodL s = true) : goodL (rimL s) = true := good_filter _ h
theorem rstL_good {s : List (Int × Int)} (h : goodL s = true) : goodL (rstL s) = true := good_filter _ h
theorem rimL_len (s : List (Int × Int)) : (rimL s).length ≤ s.length := List.length_filter_le _ _
theorem rstL_len (s : List (Int × Int)) : (rstL s).length ≤ s.length := List.length_filter_le _ _
theorem wh_head {h : List (Int × Int)} (h0 : 0 < h.length) (hg : allG h) : whS h (pt h 0) = 1 := by
  refine whS_one.2 ?_
  unfold onS rimS
  refine decide_eq_true ((fstT_lt _).2 ⟨0, h0, ?_⟩)
  unfold sideT
  refine (onB_iff (hg _ (pt_mem h0)) (hg _ (pt_mem (Nat.mod_lt _ h0))) (hg _ (pt_mem h0))).2 ⟨sd_start _ _, ?_⟩
  unfold dt vec
  simp
theorem hull_head {s : List (Int × Int)} (hG : goodL s = true) (h0 : 0 < s.length) : 0 < (hullB slB s).length ∧ pt (hullB slB s) 0 = pt s 0 ∧ allG (hullB slB s) := by
  have hA := goodL_all hG
  by_cases h2 : s.length < 2
  · have e : hullB slB s = s := by unfold hullB; rw [if_pos h2]
    rw [e]
    exact ⟨h0, rfl, hA⟩
  · have C := lower_conv hG h0
    rw [chain_eq hA] at C
    have hl : 2 ≤ (chainB slB s).length := by
      have h1 := C.some
      by_cases hl : 2 ≤ (chainB slB s).length
      · exact hl
      · have e1 : (chainB slB s).length - 1 = 0 := by omega
        have e2 := C.last
        rw [e1, C.head] at e2
        have := ahead_rises (goodL_rises hG) 0 (s.length - 1) (by omega) (by omega)
        rw [← e2] at this
        exact (this.not this).elim
    have e : hullB slB s = (chainB slB s).dropLast ++ (chainB slB s.reverse).dropLast := by unfold hullB; rw [if_neg h2]
    have hp : 0 < (chainB slB s).dropLast.length := by rw [List.length_dropLast]; omega
    refine ⟨by rw [e, List.length_append]; omega, ?_, fun p hp' => ?_⟩
    · have h3 : 0 < (hullB slB s).length := by rw [e, List.length_append]; omega
      rw [← C.head, pt_get h3, pt_get (by omega)]
      simp only [e]
      rw [List.getElem_append_left hp, List.getElem_dropLast]
    · rw [e] at hp'
      rcases List.mem_append.1 hp' with h | h
      · exact hA _ (chainB_mem (List.dropLast_subset _ h))
      · exact hA _ (by have := chainB_mem (List.dropLast_subset _ h); simpa using this)
theorem rst_less {s : List (Int × Int)} (hG : goodL s = true) (h0 : 0 < s.length) : (rstL s).length < s.length := by
  obtain ⟨h1, h2, h3⟩ := hull_head hG h0
  have h4 := wh_head h1 h3
  rw [h2] at h4
  refine Nat.lt_of_le_of_ne (rstL_len s) fun e => ?_
  have := List.length_filter_eq_length_iff.1 e _ (pt_mem h0)
  unfold rimOn at this
  rw [decide_eq_true h4] at this
  cases this
/-- Layer behind layer. -/
def layN : Nat → List (Int × Int) → List (List (Int × Int))
  | 0, _ => []
  | n + 1, s => if s.length = 0 then [] else rimL s :: layN n (rstL s)
def layL (s : List (Int × Int)) : List (List (Int × Int)) := layN s.length s
theorem layN_same : ∀ (n m : Nat) (s : List (Int × Int)), goodL s = true → s.length ≤ n → s.length ≤ m → layN n s = layN m s
  | 0, 0, _, _, _, _ => rfl
  | 0, m + 1, s, _, h, _ => by
    show [] = if s.length = 0 then [] else _
    rw [if_pos (by omega)]
  | n + 1, 0, s, _, _, h => by
    show (if s.length = 0 then [] else _) = []
    rw [if_pos (by omega)]
  | n + 1, m + 1, s, hG, h, k => by
    show (if s.length = 0 then [] else _) = (if s.length = 0 then [] else _)
    by_cases h0 : s.length = 0
    · rw [if_pos h0, if_pos h0]
    · have := rst_less hG (by omega)
      rw [if_neg h0, if_neg h0, layN_same n m (rstL s) (rstL_good hG) (by omega) (by omega)]
theorem layL_step {s : List (Int × Int)} (hG : goodL s = true) (h0 : 0 < s.length) : layL s = rimL s :: layL (rstL s) := by
  have := rst_less hG h0
  unfold layL
  obtain ⟨n, hn⟩ : ∃ n, s.length = n + 1 := ⟨s.length - 1, by omega⟩
  rw [hn]
  show (if s.length = 0 then [] else _) = _
  rw [if_neg (by omega), layN_same n (rstL s).length (rstL s) (rstL_good hG) (by omega) (Nat.le_refl _)]
theorem layL_none {s : List (Int × Int)} (h0 : s.length = 0) : layL s = [] := by unfold layL; rw [h0]; rfl
theorem layN_len : ∀ (n : Nat) (s : List (Int × Int)), (layN n s).length ≤ n
  | 0, _ => Nat.le_refl _
  | n + 1, s => by
    show (if s.length = 0 then [] else _ : List (List (Int × Int))).length ≤ _
    split
    · exact Nat.zero_le _
    · have := layN_len n (rstL s)
      simp; omega
theorem layN_in : ∀ (n : Nat) (s : List (Int × Int)), ∀ x ∈ layN n s, x.length ≤ s.length
  | 0, _, x, hx => by cases hx
  | n + 1, s, x, hx => by
    have hx' : x ∈ (if s.length = 0 then [] else rimL s :: layN n (rstL s)) := hx
    split at hx'
    · cases hx'
    · rcases List.mem_cons.1 hx' with rfl | h
      · exact rimL_len s
      · exact Nat.le_trans (layN_in n (rstL s) x h) (rstL_len s)
theorem layL_len (s : List (Int × Int)) : (layL s).length ≤ s.length := layN_len _ _
theorem layL_in (s : List (Int × Int)) : ∀ x ∈ layL s, x.length ≤ s.length := layN_in _ _
/-- Each point of the set is in a layer, and no other one. -/
theorem layL_mem : ∀ (n : Nat) (s : List (Int × Int)), s.length ≤ n → goodL s = true → ∀ p, (∃ x ∈ layL s, p ∈ x) ↔ p ∈ s
  | 0, s, h, _, p => by
    rw [layL_none (by omega)]
    have : s = [] := List.eq_nil_of_length_eq_zero (by omega)
    subst this
    simp
  | n + 1, s, h, hG, p => by
    by_cases h0 : 0 < s.length
    · have hl := rst_less hG h0
      have ih := layL_mem n (rstL s) (by omega) (rstL_good hG) p
      rw [layL_step hG h0]
      simp only [List.mem_cons, exists_eq_or_imp, ih]
      unfold rimL rstL
      simp only [List.mem_filter]
      cases rimOn s p <;> simp
    · rw [layL_none (by omega)]
      have : s = [] := List.eq_nil_of_length_eq_zero (by omega)
      subst this
      simp
/-- Peeled until at most m are left. -/
def peeN : Nat → Nat → List (Int × Int) → List (Int × Int)
  | 0, _, s => s
  | n + 1, m, s => if s.length ≤ m then s else peeN n m (rstL s)
def peeL (m : Nat) (s : List (Int × Int)) : List (Int × Int) := peeN s.length m s
theorem peeN_same : ∀ (n k m : Nat) (s : List (Int × Int)), goodL s = true → s.length ≤ n → s.length ≤ k → peeN n m s = peeN k m s
  | 0, 0, _, _, _, _, _ => rfl
  | 0, k + 1, m, s, _, h, _ => by
    show s = if s.length ≤ m then s else _
    rw [if_pos (by omega)]
  | n + 1, 0, m, s, _, _, h => by
    show (if s.length ≤ m then s else _) = s
    rw [if_pos (by omega)]
  | n + 1, k + 1, m, s, hG, h, h' => by
    show (if s.length ≤ m then s else _) = (if s.length ≤ m then s else _)
    by_cases h0 : s.length ≤ m
    · rw [if_pos h0, if_pos h0]
    · have := rst_less hG (by omega)
      rw [if_neg h0, if_neg h0, peeN_same n k m (rstL s) (rstL_good hG) (by omega) (by omega)]
theorem peeL_step {m : Nat} {s : List (Int × Int)} (hG : goodL s = true) (h0 : m < s.length) : peeL m s = peeL m (rstL s) := by
  have := rst_less hG (by omega)
  unfold peeL
  obtain ⟨n, hn⟩ : ∃ n, s.length = n + 1 := ⟨s.length - 1, by omega⟩
  rw [hn]
  show (if s.length ≤ m then s else _) = _
  rw [if_neg (by omega), peeN_same n (rstL s).length m (rstL s) (rstL_good hG) (by omega) (Nat.le_refl _)]
theorem peeL_stop {m : Nat} {s : List (Int × Int)} (h0 : s.length ≤ m) : peeL m s = s := by
  unfold peeL
  cases hn : s.length with
  | zero => rfl
  | succ n => show (if s.length ≤ m then s else _) = _; rw [if_pos h0]
theorem peeN_len (n m : Nat) : ∀ s : List (Int × Int), (peeN n m s).length ≤ s.length := by
  induction n with
  | zero => exact fun s => Nat.le_refl _
  | succ n ih =>
    intro s
    show (if s.length ≤ m then s else peeN n m (rstL s)).length ≤ _
    split
    · exact Nat.le_refl _
    · exact Nat.le_trans (ih _) (rstL_len s)
theorem peeL_len (m : Nat) (s : List (Int × Int)) : (peeL m s).length ≤ s.length := peeN_len _ _ _
def woL (s : List (Int × Int)) : List (Int × Int) := if goodL s = true then rstL s else []
theorem woL_len (s : List (Int × Int)) : (woL s).length ≤ s.length := by
  unfold woL
  split
  · exact rstL_len s
  · exact Nat.zero_le _
def lysL (s : List (Int × Int)) : List (List (Int × Int)) := if goodL s = true then layL s else []
def peOk (s : List (Int × Int)) (m : Int) : Bool := goodL s && decide (0 ≤ m ∧ m ≤ 60)
def peV (s : List (Int × Int)) (m : Int) : List (Int × Int) := if peOk s m = true then peeL m.toNat s else []
theorem peV_len (s : List (Int × Int)) (m : Int) : (peV s m).length ≤ s.length := by
  unfold peV
  split
  · exact peeL_len _ _
  · exact Nat.zero_le _
theorem lysL_len (s : List (Int × Int)) : (lysL s).length ≤ 60 := by
  unfold lysL
  split
  next h => exact Nat.le_trans (layL_len s) (goodL_few h)
  next => exact Nat.zero_le _
theorem lysL_in (s : List (Int × Int)) : ∀ x ∈ lysL s, x.length ≤ 60 := by
  unfold lysL
  split
  next h => exact fun x hx => Nat.le_trans (layL_in s x hx) (goodL_few h)
  next => exact fun x hx => by cases hx
/-- The number of the layer that p is in. -/
def lyK (s : List (Int × Int)) (p : Int × Int) : Nat := fstT (fun k => decide (p ∈ (lysL s).getD k [])) (lysL s).length
def lyOk (s : List (Int × Int)) (p : Int × Int) : Bool := goodL s && decide (p ∈ s)
def lyV (s : List (Int × Int)) (p : Int × Int) : Nat := if lyOk s p = true then lyK s p else 0
theorem ly_found {s : List (Int × Int)} {p : Int × Int} : lyOk s p = decide (lyK s p < (lysL s).length) := by
  rw [Bool.eq_iff_iff]
  unfold lyOk lyK
  rw [decide_eq_true_iff, fstT_lt]
  by_cases hG : goodL s = true
  · have e : lysL s = layL s := by unfold lysL; rw [if_pos hG]
    rw [hG, Bool.true_and, decide_eq_true_iff, ← layL_mem s.length s (Nat.le_refl _) hG p, e]
    constructor
    · rintro ⟨x, hx, hp⟩
      obtain ⟨i, hi, rfl⟩ := List.getElem_of_mem hx
      exact ⟨i, hi, decide_eq_true (by simpa [hi] using hp)⟩
    · rintro ⟨i, hi, hp⟩
      have := of_decide_eq_true hp
      exact ⟨(layL s)[i], List.getElem_mem hi, by simpa [hi] using this⟩
  · have e : lysL s = [] := by unfold lysL; rw [if_neg hG]
    rw [e]
    simp [hG]
end Go.Proofs.YtoefllklngnmeaaDoor
