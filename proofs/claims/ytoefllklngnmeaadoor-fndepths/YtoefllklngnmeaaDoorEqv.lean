/-
  The program's tests and the specification's are the same at good points (plain).
  Conditions: as each theorem states them.
-/
import Derived.Test.YtoefllklngnmeaaDoorPar
import Derived.Test.YtoefllklngnmeaaDoorB2
namespace Go.Proofs.YtoefllklngnmeaaDoor
open Go.RowKit Go.Shelf
set_option linter.unusedVariables false
set_option maxRecDepth 8000
theorem btB_iff {a b q : Int × Int} (ha : gp a) (hb : gp b) (hq : gp q) : btB a b q = true ↔ OnQ a b q := by
  unfold btB OnQ
  rw [sideN_eq ha hb hq, Bool.and_eq_true, Bool.or_eq_true, decide_eq_true_iff, decide_eq_true_iff, decide_eq_true_iff, (sg_pos _).2.2.2, srt_iff]
  constructor
  · rintro ⟨h1, h2⟩; exact ⟨h1, (between_iff h1).1 h2⟩
  · rintro ⟨h1, h2⟩; exact ⟨h1, (between_iff h1).2 h2⟩
theorem dotW_eq {a b q : Int × Int} (ha : gp a) (hb : gp b) (hq : gp q) : dotW (wrap64 (q.1 - a.1)) (wrap64 (q.2 - a.2)) q.1 q.2 b.1 b.2 = dt (vec a q) (vec q b) := by
  have h1 := goodB_r ha
  have h2 := goodB_r hb
  have h3 := goodB_r hq
  unfold dotW dt vec
  rw [wrap_in (x := q.1 - a.1) (by omega) (by omega), wrap_in (x := q.2 - a.2) (by omega) (by omega), wrap_in (x := b.1 - q.1) (by omega) (by omega), wrap_in (x := b.2 - q.2) (by omega) (by omega)]
  have m1 := small_mul (x := q.1 - a.1) (y := b.1 - q.1) (by omega) (by omega)
  have m2 := small_mul (x := q.2 - a.2) (y := b.2 - q.2) (by omega) (by omega)
  rw [wrap_in (x := (q.1 - a.1) * (b.1 - q.1)) (by omega) (by omega), wrap_in (x := (q.2 - a.2) * (b.2 - q.2)) (by omega) (by omega), wrap_in (by omega) (by omega)]
theorem onB_iff {a b q : Int × Int} (ha : gp a) (hb : gp b) (hq : gp q) : onB a b q = true ↔ OnQ a b q := by
  unfold onB OnQ
  rw [crossW_eq ha hb hq, dotW_eq ha hb hq, Bool.and_eq_true, decide_eq_true_iff, decide_eq_true_iff, (sg_pos _).2.2.2]
theorem bt_on {a b q : Int × Int} (ha : gp a) (hb : gp b) (hq : gp q) : btB a b q = onB a b q := by
  rw [Bool.eq_iff_iff, btB_iff ha hb hq, onB_iff ha hb hq]
theorem tl_sl {a b q : Int × Int} (ha : gp a) (hb : gp b) (hq : gp q) : tlB a b q = slB a b q := by rw [tlB_eq ha hb hq, slB_eq ha hb hq]
theorem allG.pt {h : List (Int × Int)} (H : allG h) {i : Nat} (hi : i < h.length) : gp (pt h i) := H _ (pt_mem hi)
theorem allG.nxt {h : List (Int × Int)} (H : allG h) {i : Nat} (hi : i < h.length) : gp (Go.Proofs.YtoefllklngnmeaaDoor.pt h ((i + 1) % h.length)) := H _ (pt_mem (Nat.mod_lt _ (by omega)))
theorem rim_eq {h : List (Int × Int)} {q : Int × Int} (H : allG h) (hq : gp q) : rimI h q = rimS h q := fstT_congr _ fun i hi => bt_on (H.pt hi) (H.nxt hi) hq
theorem on_eq {h : List (Int × Int)} {q : Int × Int} (H : allG h) (hq : gp q) : onI h q = onS h q := by unfold onI onS; rw [rim_eq H hq]
theorem rimV_eq {h : List (Int × Int)} {q : Int × Int} (H : allG h) (hq : gp q) : rimV h q = rimW h q := by unfold rimV rimW; rw [rim_eq H hq, on_eq H hq]
theorem allT_congr {f g : Nat → Bool} {n : Nat} (h : ∀ i, i < n → f i = g i) : allT f n = allT g n := by
  rw [Bool.eq_iff_iff, allT_iff, allT_iff]
  exact ⟨fun a i hi => by rw [← h i hi]; exact a i hi, fun a i hi => by rw [h i hi]; exact a i hi⟩
theorem few_no {h : List (Int × Int)} {q : Int × Int} (H : allG h) (hq : gp q) (h0 : h.length ≠ 0) (h3 : h.length < 3) : allT (sideT tlB h q) h.length = false := by
  cases e : allT (sideT tlB h q) h.length
  · rfl
  · exfalso
    have a0 := allT_iff.1 e 0 (by omega)
    unfold sideT at a0
    rw [tlB_eq (H.pt (by omega)) (H.nxt (by omega)) hq, decide_eq_true_iff] at a0
    by_cases h1 : h.length = 1
    · rw [h1] at a0
      simp [sd] at a0
    · have h2 : h.length = 2 := by omega
      have a1 := allT_iff.1 e 1 (by omega)
      unfold sideT at a1
      rw [tlB_eq (H.pt (by omega)) (H.nxt (by omega)) hq, decide_eq_true_iff] at a1
      rw [h2] at a0 a1
      have e1 := sd_swap (Go.Proofs.YtoefllklngnmeaaDoor.pt h 0) (Go.Proofs.YtoefllklngnmeaaDoor.pt h 1) q
      simp only [show (0 + 1) % 2 = 1 from rfl, show (1 + 1) % 2 = 0 from rfl] at a0 a1
      omega
theorem wh_eq {h : List (Int × Int)} {q : Int × Int} (H : allG h) (hq : gp q) : whI h q = whS h q := by
  unfold whI whS
  rw [on_eq H hq]
  by_cases ho : onS h q = true
  · rw [if_pos ho, if_pos ho]
  · rw [if_neg ho, if_neg ho]
    by_cases h0 : h.length = 0
    · rw [if_pos h0, if_pos (by omega)]
    · rw [if_neg h0]
      by_cases h3 : h.length < 3
      · rw [if_pos h3, few_no H hq h0 h3]; rfl
      · rw [if_neg h3, show allT (sideT tlB h q) h.length = allT (sideT slB h q) h.length from allT_congr fun i hi => tl_sl (H.pt hi) (H.nxt hi) hq]
theorem whS_one {h : List (Int × Int)} {q : Int × Int} : whS h q = 1 ↔ onS h q = true := by
  unfold whS
  by_cases ho : onS h q = true
  · simp [ho]
  · rw [if_neg ho]
    simp only [ho]
    split
    · simp
    · split <;> simp
end Go.Proofs.YtoefllklngnmeaaDoor
