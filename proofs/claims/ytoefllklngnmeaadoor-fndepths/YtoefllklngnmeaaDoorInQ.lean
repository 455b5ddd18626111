/-
  Where a point is of a ring, and the plain geometry (plain).
  Conditions: as each theorem states them.
-/
import Derived.Test.YtoefllklngnmeaaDoorEqv
import Derived.Test.YtoefllklngnmeaaDoorHFan
namespace Go.Proofs.YtoefllklngnmeaaDoor
open Go.RowKit Go.Shelf
set_option linter.unusedVariables false
set_option maxRecDepth 8000
/-- Not outside: as the plain geometry has it. -/
theorem whS_in {h : List (Int × Int)} {q : Int × Int} (H : allG h) (hq : gp q) : whS h q ≠ 0 ↔ InP h q := by
  have e1 : onS h q = true ↔ ∃ i, i < h.length ∧ OnS (Go.Proofs.YtoefllklngnmeaaDoor.pt h i) (Go.Proofs.YtoefllklngnmeaaDoor.pt h ((i + 1) % h.length)) q := by
    unfold onS rimS
    rw [decide_eq_true_iff, fstT_lt]
    constructor
    · rintro ⟨i, hi, h1⟩; exact ⟨i, hi, (onB_iff (H.pt hi) (H.nxt hi) hq).1 h1⟩
    · rintro ⟨i, hi, h1⟩; exact ⟨i, hi, (onB_iff (H.pt hi) (H.nxt hi) hq).2 h1⟩
  have e2 : allT (sideT slB h q) h.length = true ↔ ∀ i, i < h.length → 0 < sd (Go.Proofs.YtoefllklngnmeaaDoor.pt h i) (Go.Proofs.YtoefllklngnmeaaDoor.pt h ((i + 1) % h.length)) q := by
    rw [allT_iff]
    constructor
    · intro h1 i hi; have := h1 i hi; unfold sideT at this; rw [slB_eq (H.pt hi) (H.nxt hi) hq, decide_eq_true_iff] at this; exact this
    · intro h1 i hi; unfold sideT; rw [slB_eq (H.pt hi) (H.nxt hi) hq, decide_eq_true_iff]; exact h1 i hi
  unfold whS InP
  rw [← e1, ← e2]
  by_cases ho : onS h q = true
  · simp [ho]
  · rw [if_neg ho]
    by_cases h3 : h.length < 3
    · rw [if_pos h3]; simp [ho]; omega
    · rw [if_neg h3]
      by_cases ha : allT (sideT slB h q) h.length = true
      · simp [ha]; omega
      · simp [ha, ho]
end Go.Proofs.YtoefllklngnmeaaDoor
