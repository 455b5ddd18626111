/-
  What is between two points: by the order of points, or by a product (plain geometry).
  Conditions: as each theorem states them.
-/
import Derived.Test.YtoefllklngnmeaaDoorWh4
namespace Go.Proofs.YtoefllklngnmeaaDoor
open Go.RowKit Go.Shelf
set_option linter.unusedVariables false
set_option maxRecDepth 8000
theorem neg_of_mul {a b : Int} (h : 0 < a * b) (hb : b < 0) : a < 0 := by
  rcases Int.lt_trichotomy a 0 with ha | ha | ha
  · exact ha
  · subst ha; simp at h
  · have := Int.mul_neg_of_pos_of_neg ha hb; omega
theorem par_dot {a b c d : Int} (h : a * d = b * c) : ((0 < a ∨ a = 0 ∧ 0 ≤ b) ∧ (0 < c ∨ c = 0 ∧ 0 ≤ d) ∨ (a < 0 ∨ a = 0 ∧ b ≤ 0) ∧ (c < 0 ∨ c = 0 ∧ d ≤ 0)) ↔ 0 ≤ a * c + b * d := by
  have e1 : (a * c + b * d) * a = c * (a * a + b * b) := by grind
  have hnn := sq_nn b
  rcases Int.lt_trichotomy a 0 with ha | ha | ha
  · have hp : 0 < a * a + b * b := by have := sq_pos (x := a) (by omega); omega
    rcases Int.lt_trichotomy c 0 with hc | hc | hc
    · refine ⟨fun _ => ?_, fun _ => .inr ⟨.inl ha, .inl hc⟩⟩
      have h2 : (a * c + b * d) * a < 0 := by rw [e1]; exact Int.mul_neg_of_neg_of_pos hc hp
      have := pos_of_mul_neg h2 ha
      omega
    · have hd : d = 0 := by
        have h3 : a * d = 0 := by rw [h, hc]; simp
        rcases Int.mul_eq_zero.1 h3 with h4 | h4
        · omega
        · exact h4
      refine ⟨fun _ => by rw [hc, hd]; simp, fun _ => .inr ⟨.inl ha, .inr ⟨hc, by omega⟩⟩⟩
    · have h2 : 0 < (a * c + b * d) * a := by rw [e1]; exact Int.mul_pos hc hp
      have := neg_of_mul h2 ha
      exact ⟨fun h => by omega, fun h => by omega⟩
  · subst ha
    rcases Int.mul_eq_zero.1 (show b * c = 0 by rw [← h]; simp) with hb | hc
    · subst hb
      refine ⟨fun _ => by simp, fun _ => ?_⟩
      omega
    · subst hc
      have e2 : 0 * (0 : Int) + b * d = b * d := by omega
      rw [e2]
      constructor
      · rintro (⟨h1, h2⟩ | ⟨h1, h2⟩)
        · exact Int.mul_nonneg (by omega) (by omega)
        · exact Int.mul_nonneg_of_nonpos_of_nonpos (by omega) (by omega)
      · intro h1
        rcases Int.lt_trichotomy b 0 with hb | hb | hb
        · rcases Int.lt_or_le 0 d with hd | hd
          · have := Int.mul_neg_of_neg_of_pos hb hd; omega
          · omega
        · omega
        · rcases Int.lt_or_le d 0 with hd | hd
          · have := Int.mul_neg_of_pos_of_neg hb hd; omega
          · omega
  · have hp : 0 < a * a + b * b := by have := sq_pos (x := a) (by omega); omega
    rcases Int.lt_trichotomy c 0 with hc | hc | hc
    · have h2 : (a * c + b * d) * a < 0 := by rw [e1]; exact Int.mul_neg_of_neg_of_pos hc hp
      refine ⟨fun h => by omega, fun h => ?_⟩
      have := Int.mul_nonneg h (Int.le_of_lt ha)
      omega
    · have hd : d = 0 := by
        have h3 : a * d = 0 := by rw [h, hc]; simp
        rcases Int.mul_eq_zero.1 h3 with h4 | h4
        · omega
        · exact h4
      refine ⟨fun _ => by rw [hc, hd]; simp, fun _ => .inl ⟨.inl ha, .inr ⟨hc, by omega⟩⟩⟩
    · have h2 : 0 < (a * c + b * d) * a := by rw [e1]; exact Int.mul_pos hc hp
      have := pos_of_mul h2 ha
      exact ⟨fun _ => by omega, fun _ => .inl ⟨.inl ha, .inl hc⟩⟩
/-- p is less than q. -/
def Lex (p q : Int × Int) : Prop := p.1 < q.1 ∨ p.1 = q.1 ∧ p.2 < q.2
theorem lt_lex (p q : Int × Int) : ltOf cmpP p q = true ↔ Lex p q := by
  unfold ltOf cmpP orI cmpI Lex
  rw [decide_eq_true_iff]
  by_cases h1 : p.1 < q.1
  · simp [h1]
  · by_cases h2 : q.1 < p.1
    · simp [h1, h2]; omega
    · by_cases h3 : p.2 < q.2
      · simp [h1, h2, h3]; omega
      · by_cases h4 : q.2 < p.2
        · simp [h1, h2, h3, h4]
        · simp [h1, h2, h3, h4]
theorem srt_iff (a q b : Int × Int) : ((a, q, b) = srt3 a q b ∨ (b, q, a) = srt3 a q b) ↔ (¬ Lex q a ∧ ¬ Lex b q) ∨ (¬ Lex q b ∧ ¬ Lex a q) := by
  have h1 := lt_lex q a
  have h2 := lt_lex b q
  have h3 := lt_lex b a
  obtain ⟨a1, a2⟩ := a
  obtain ⟨b1, b2⟩ := b
  obtain ⟨q1, q2⟩ := q
  unfold srt3 srt2
  cases e1 : ltOf cmpP (q1, q2) (a1, a2)
  · cases e2 : ltOf cmpP (b1, b2) (q1, q2)
    · simp [e2] ; simp [e1, e2, Lex] at h1 h2; unfold Lex; simp; omega
    · cases e3 : ltOf cmpP (b1, b2) (a1, a2)
      · simp [e1, e2, e3, Lex] at h1 h2 h3 ⊢; omega
      · simp [e1, e2, e3, Lex] at h1 h2 h3 ⊢; omega
  · cases e3 : ltOf cmpP (b1, b2) (a1, a2)
    · cases e2 : ltOf cmpP (b1, b2) (q1, q2)
      · simp [e1, e2, e3, Lex] at h1 h2 h3 ⊢; omega
      · simp [e1, e2, e3, Lex] at h1 h2 h3 ⊢; omega
    · cases e2 : ltOf cmpP (b1, b2) (q1, q2)
      · simp [e1, e2, e3, Lex] at h1 h2 h3 ⊢; omega
      · simp [e1, e2, e3, Lex] at h1 h2 h3 ⊢; omega
theorem between_iff {a b q : Int × Int} (h : sd a b q = 0) : ((¬ Lex q a ∧ ¬ Lex b q) ∨ (¬ Lex q b ∧ ¬ Lex a q)) ↔ 0 ≤ dt (vec a q) (vec q b) := by
  have h0 : (q.1 - a.1) * (b.2 - q.2) = (q.2 - a.2) * (b.1 - q.1) := by unfold sd at h; grind
  have := par_dot h0
  unfold dt vec Lex
  rw [← this]
  omega
/-- q is on the way from a to b. -/
def OnQ (a b q : Int × Int) : Prop := sd a b q = 0 ∧ 0 ≤ dt (vec a q) (vec q b)
end Go.Proofs.YtoefllklngnmeaaDoor
