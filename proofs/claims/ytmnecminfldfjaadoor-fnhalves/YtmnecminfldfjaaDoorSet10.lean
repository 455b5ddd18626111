/-
  A point laid into a list, in the program (a contract for the walks).
  Conditions: as each theorem states them.
-/
import Derived.Test.YtmnecminfldfjaaDoorSet8
import Derived.Deep.DeepCutAuto
namespace Go.Proofs.YtmnecminfldfjaaDoor
open Go.RowKit
set_option linter.unusedVariables false
/-- A slice as Go has it: nil, or at an address, no longer than its room. -/
def Fit (a : Option Addr) (len cap : Nat) : Prop := (a = none ∧ cap = 0 ∧ len = 0) ∨ ((∃ b off, a = some ⟨b, off, none⟩) ∧ len ≤ cap ∧ cap ≤ maxLen)
theorem cells_src {N b off : Nat} {l : List (Int × Int)} {w : World} (hA : At N (some ⟨b, off, none⟩) l w) {i : Nat} {ao : Option Addr} (hao : i < l.length → ao = some ⟨b, off + i * 2, none⟩) :
    ∀ ad, ao = some ad → ∀ j u, (cells (l.drop i))[j]? = some u → w.cell? (ad.add j) = some u := by
  intro ad had j u hu
  have hj : j < (l.drop i).length * 2 := by
    have := (List.getElem?_eq_some_iff.1 hu).1
    rwa [cells_len] at this
  have hil : i < l.length := by rw [List.length_drop] at hj; omega
  rw [hao hil] at had
  obtain rfl := Option.some.inj had
  rw [cells_get _ _ hj] at hu
  obtain rfl := Option.some.inj hu
  rw [List.length_drop] at hj
  obtain ⟨b', off', e, _, h0, h1⟩ := hA (i + j / 2) (by omega)
  obtain ⟨rfl, rfl⟩ : b = b' ∧ off = off' := by simp at e; exact e
  rw [Go.WideShapes.add_plain]
  unfold cel
  by_cases h2 : j % 2 = 0
  · rw [if_pos h2, show off + i * 2 + j = off + (i + j / 2) * 2 by omega, h0]
    simp [px]
  · rw [if_neg h2, show off + i * 2 + j = off + (i + j / 2) * 2 + 1 by omega, h1]
    simp [py]
theorem cells_pre {N b off : Nat} {l : List (Int × Int)} {w : World} (hA : At N (some ⟨b, off, none⟩) l w) {k : Nat} {ao : Option Addr} (hao : 0 < l.length → ao = some ⟨b, off, none⟩) :
    ∀ ad, ao = some ad → ∀ j u, (cells (l.take k))[j]? = some u → w.cell? (ad.add j) = some u := by
  intro ad had j u hu
  have hj : j < (l.take k).length * 2 := by
    have := (List.getElem?_eq_some_iff.1 hu).1
    rwa [cells_len] at this
  have hj2 : j / 2 < k ∧ j / 2 < l.length := by rw [List.length_take] at hj; omega
  rw [hao (by omega)] at had
  obtain rfl := Option.some.inj had
  rw [cells_get _ _ hj] at hu
  obtain rfl := Option.some.inj hu
  obtain ⟨b', off', e, _, h0, h1⟩ := hA (j / 2) hj2.2
  obtain ⟨rfl, rfl⟩ : b = b' ∧ off = off' := by simp at e; exact e
  rw [Go.WideShapes.add_plain]
  unfold cel
  by_cases h2 : j % 2 = 0
  · rw [if_pos h2, show off + j = off + (j / 2) * 2 by omega, h0]
    simp [px, hj2.1]
  · rw [if_neg h2, show off + j = off + (j / 2) * 2 + 1 by omega, h1]
    simp [py, hj2.1]
theorem one_src (w : World) (x y : Int) : ∀ ad, some (⟨w.heap.size, 0, none⟩ : Addr) = some ad → ∀ j u, (cells [(x, y)])[j]? = some u → (w.alloc (.cells #[.int .i64 x, .int .i64 y] 30)).cell? (ad.add j) = some u := by
  intro ad h j u hu
  obtain rfl := Option.some.inj h
  rw [Go.WideShapes.add_plain, Nat.zero_add]
  match j, hu with
  | 0, hu => simp [cells] at hu; subst hu; exact box0 w x y _
  | 1, hu => simp [cells] at hu; subst hu; exact box1 w x y _
theorem put_cells (l : List (Int × Int)) (k : Nat) (x y : Int) : cells (l.take k) ++ cells [(x, y)] ++ cells (l.drop k) = cells (l.take k ++ (x, y) :: l.drop k) := by
  rw [← cells_append, ← cells_append, List.append_assoc]; rfl
theorem At.laterB {N B : Nat} {a : Option Addr} {l : List (Int × Int)} {w w' : World} (h : At N a l w) (hb : Below B w w') (hN : N ≤ B) : At N a l w' := fun i hi => by
  obtain ⟨b, off, e, hb', h0, h1⟩ := h i hi
  exact ⟨b, off, e, hb', (hb.cell (show b < B by omega)).trans h0, (hb.cell (show b < B by omega)).trans h1⟩
theorem growNone {w w' : World} (h : w.grownBy w' none) : Below w.heap.size w w' := (Below.refl _ _).grown h (Nat.le_refl _) (fun k hk => by cases hk)
theorem grownB {B : Nat} {w w' : World} {g : Nat} (h : w.grownBy w' (some g)) (hB : B ≤ w.heap.size) (hg : B ≤ g) : Below B w w' := (Below.refl _ _).grown h hB (fun k hk => by cases hk; exact hg)
end Go.Proofs.YtmnecminfldfjaaDoor
