/-
  One step of the specification's way round a set is the program's (no walk in it).
  Conditions: as each theorem states them.
-/
import Derived.Test.YtegmlemejmahiaaGreatDoorHWrapP
namespace Go.Proofs.YtegmlemejmahiaaGreatDoor
open Go.RowKit
set_option linter.unusedVariables false
set_option maxRecDepth 8000
/-- Farther in one line, as the specification asks it. -/
def farB (a b c : Int × Int) : Bool := decide (0 < dotW (wrap64 (b.1 - a.1)) (wrap64 (b.2 - a.2)) b.1 b.2 c.1 c.2)
theorem farB_eq {a b c : Int × Int} (ha : gp a) (hb : gp b) (hc : gp c) : farB a b c = decide (0 < dt (vec a b) (vec b c)) := by
  obtain ⟨a1, a2⟩ := goodB_r ha
  obtain ⟨b1, b2⟩ := goodB_r hb
  obtain ⟨c1, c2⟩ := goodB_r hc
  have p := small_mul (x := b.1 - a.1) (y := c.1 - b.1) (by omega) (by omega)
  have q := small_mul (x := b.2 - a.2) (y := c.2 - b.2) (by omega) (by omega)
  unfold farB dotW dt vec
  rw [wrap_in (x := b.1 - a.1) (by omega) (by omega), wrap_in (x := b.2 - a.2) (by omega) (by omega), wrap_in (x := c.1 - b.1) (by omega) (by omega), wrap_in (x := c.2 - b.2) (by omega) (by omega)]
  rw [wrap_in (x := (b.1 - a.1) * (c.1 - b.1)) (by omega) (by omega), wrap_in (x := (b.2 - a.2) * (c.2 - b.2)) (by omega) (by omega)]
  rw [wrap_in (by omega) (by omega)]
/-- The specification's side. -/
def ssd (a b c : Int × Int) : Int := sg (crossW a.1 a.2 b.1 b.2 c.1 c.2)
/-- One step of the specification's way round. -/
def sstep (a best p : Int × Int) : Int × Int := if p ≠ a ∧ (ssd a best p < 0 ∨ (ssd a best p = 0 ∧ farB a best p = true)) then p else best
theorem sstep_eq {a best p : Int × Int} (ha : gp a) (hb : gp best) (hp : gp p) (hba : best ≠ a) : sstep a best p = wstep a best p := by
  unfold sstep wstep ssd
  rw [crossW_eq ha hb hp, farB_eq ha hb hp]
  by_cases hpa : p = a
  · rw [if_pos hpa, if_neg (fun h => h.1 hpa)]
  · rw [if_neg hpa, if_neg hba]
    have s1 := (sg_pos (sd a best p)).2.2.1
    have s2 := (sg_pos (sd a best p)).2.2.2
    by_cases hc : sd a best p < 0 ∨ (sd a best p = 0 ∧ 0 < dt (vec a best) (vec best p))
    · rw [if_pos hc, if_pos]
      refine ⟨hpa, ?_⟩
      rcases hc with hc | hc
      · exact .inl (s1.2 hc)
      · exact .inr ⟨s2.2 hc.1, decide_eq_true hc.2⟩
    · rw [if_neg hc, if_neg]
      rintro ⟨_, h | h⟩
      · exact hc (.inl (s1.1 h))
      · exact hc (.inr ⟨s2.1 h.1, of_decide_eq_true h.2⟩)
theorem wstep_ne {a b p : Int × Int} (h : b ≠ a) : wstep a b p ≠ a := by
  unfold wstep
  split
  · exact h
  · rename_i hp
    split
    · exact hp
    · exact h
theorem wstep_or (a b p : Int × Int) : wstep a b p = b ∨ wstep a b p = p := by
  unfold wstep
  split
  · exact .inl rfl
  · split
    · exact .inr rfl
    · split
      · exact .inr rfl
      · exact .inl rfl
theorem sfold_eq {a : Int × Int} (ha : gp a) (l : List (Int × Int)) (hl : allG l) : ∀ b, gp b → b ≠ a → l.foldl (sstep a) b = l.foldl (wstep a) b := by
  induction l with
  | nil => intro b _ _; rfl
  | cons p l ih =>
    intro b hb hba
    have hp : gp p := hl p (by simp)
    rw [List.foldl_cons, List.foldl_cons, sstep_eq ha hb hp hba]
    refine ih (fun q hq => hl q (by simp [hq])) _ ?_ (wstep_ne hba)
    rcases wstep_or a b p with h | h
    · rw [h]; exact hb
    · rw [h]; exact hp
/-- Where the specification begins to look. -/
def wst (l : List (Int × Int)) (a : Int × Int) : Int × Int := if pt l 0 = a then pt l 1 else pt l 0
theorem nxS_eq {l : List (Int × Int)} {a : Int × Int} (ha : gp a) (hG : goodL l = true) (h2 : 2 ≤ l.length) : l.foldl (sstep a) (wst l a) = nx l a := by
  match l, h2 with
  | s0 :: s1 :: t, h2 =>
    have hl := goodL_all hG
    have hne := first_two (goodL_rises hG)
    rw [nx_start hne]
    have e : wst (s0 :: s1 :: t) a = if s0 = a then s1 else s0 := rfl
    rw [e]
    refine sfold_eq ha _ hl _ ?_ ?_
    · split
      · exact hl s1 (by simp)
      · exact hl s0 (by simp)
    · split
      · rename_i h
        exact fun e => hne (h.trans e.symm)
      · rename_i h
        exact h
theorem sstep_yes1 {a b p : Int × Int} (hp : p ≠ a) (h : ssd a b p < 0) : sstep a b p = p := by unfold sstep; rw [if_pos ⟨hp, .inl h⟩]
theorem sstep_yes2 {a b p : Int × Int} (hp : p ≠ a) (h : ssd a b p = 0) (k : farB a b p = true) : sstep a b p = p := by unfold sstep; rw [if_pos ⟨hp, .inr ⟨h, k⟩⟩]
theorem sstep_no0 {a b : Int × Int} : sstep a b a = b := by unfold sstep; rw [if_neg (fun h => h.1 rfl)]
theorem sstep_no1 {a b p : Int × Int} (h : ¬ ssd a b p < 0) (k : ssd a b p ≠ 0) : sstep a b p = b := by
  unfold sstep
  rw [if_neg]
  rintro ⟨_, e | e⟩
  · exact h e
  · exact k e.1
theorem sstep_no2 {a b p : Int × Int} (h : ¬ ssd a b p < 0) (k : farB a b p = false) : sstep a b p = b := by
  unfold sstep
  rw [if_neg]
  rintro ⟨_, e | e⟩
  · exact h e
  · rw [k] at e; cases e.2
end Go.Proofs.YtegmlemejmahiaaGreatDoor
