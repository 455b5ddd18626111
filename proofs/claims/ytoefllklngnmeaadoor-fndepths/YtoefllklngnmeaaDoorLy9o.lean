/-
  Lists of lists beside a map that is written (words for the walks).
  Conditions: as each theorem states them.
-/
import Derived.Test.YtoefllklngnmeaaDoorLy9p
namespace Go.Proofs.YtoefllklngnmeaaDoor
open Go.RowKit Go.Shelf
set_option linter.unusedVariables false
theorem grown_ne {N B : Nat} {v : Value} {l : List (Int × Int)} {w : World} (h : OwnC N v l w) (hB : B < N) : v.ownBlock = none ∨ v.ownBlock ≠ some B := by
  cases hx : v.ownBlock with
  | none => exact .inl rfl
  | some b => exact .inr (fun e => by have := (h.lt hx).1; simp at e; omega)
theorem OwnV.grown {N : Nat} {v : Value} {vs : List Value} {w w' : World} {row : Option Nat} (h : OwnV N v vs w) (hg : w.grownBy w' row) (hne : v.ownBlock = none ∨ v.ownBlock ≠ row) : OwnV N v vs w' := by
  rcases h with h | ⟨g, cap, cur, e, h1, h2, h3⟩
  · exact .inl h
  · refine .inr ⟨g, cap, cur, e, h1, (hg.block g (heap_lt h2) (fun e' => ?_)).trans h2, h3⟩
    rcases hne with hn | hn
    · rw [e] at hn; simp [Value.ownBlock] at hn
    · exact hn (by rw [e]; simpa [Value.ownBlock] using e')
theorem OwnSS.grownB {N B : Nat} {v : Value} {L : List (List (Int × Int))} {vs : List Value} {w w' : World} (h : OwnSS N v L vs w) (hg : w.grownBy w' (some B)) (hB : B < N) : OwnSS N v L vs w' :=
  ⟨h.out.grown hg (by
    cases hx : v.ownBlock with
    | none => exact .inl rfl
    | some b => exact .inr (fun e => by have := (h.out.lt hx).1; simp at e; omega)), h.len, fun i hi => (h.inn i hi).grown hg (grown_ne (h.inn i hi) hB), h.apart, h.far⟩
theorem OwnSS.pushB {N B g cap : Nat} {v u : Value} {L : List (List (Int × Int))} {l : List (Int × Int)} {vs : List Value} {w0 w w' : World} (h : OwnSS N v L vs w0) (hb : w0.grownBy w (some B)) (hB : B < N) (hN : N ≤ w0.heap.size) (hu : OwnC w0.heap.size u l w)
    (hO : OwnV N (.slice (Option.some ⟨g, 0, none⟩) (vs.length + 1) cap) (vs ++ [u]) w') (hg : w.grownBy w' v.ownBlock) (hgg : v.ownBlock = Option.some g ∨ g = w.heap.size) :
    OwnSS N (.slice (Option.some ⟨g, 0, none⟩) (vs.length + 1) cap) (L ++ [l]) (vs ++ [u]) w' := by
  have hs := hb.size
  have hold : ∀ i (hi : i < vs.length) b, vs[i].ownBlock = Option.some b → b < w0.heap.size := fun i hi b e => ((h.inn i hi).lt e).2
  have hvb : ∀ b, v.ownBlock = Option.some b → b < w0.heap.size := fun b e => (h.out.lt e).2
  have hub : ∀ b, u.ownBlock = Option.some b → w0.heap.size ≤ b ∧ b < w.heap.size := fun b e => hu.lt e
  have hgi : ∀ i (hi : i < vs.length), vs[i].ownBlock = none ∨ vs[i].ownBlock ≠ Option.some g := by
    intro i hi
    rcases hgg with e | e
    · rw [← e]; exact h.far i hi
    · cases hx : vs[i].ownBlock with
      | none => exact .inl rfl
      | some b => exact .inr (fun e2 => by have := hold i hi b hx; simp at e2; omega)
  have hgu : u.ownBlock = none ∨ u.ownBlock ≠ Option.some g := by
    cases hx : u.ownBlock with
    | none => exact .inl rfl
    | some b =>
      refine .inr (fun e2 => ?_)
      have h1 := hub b hx
      simp at e2
      rcases hgg with e | e
      · have := hvb g e; omega
      · omega
  have huv : u.ownBlock = none ∨ u.ownBlock ≠ v.ownBlock := by
    cases hx : u.ownBlock with
    | none => exact .inl rfl
    | some b =>
      refine .inr (fun e2 => ?_)
      have h1 := hub b hx
      have := hvb b e2.symm
      omega
  refine ⟨hO, by simp [h.len], fun i hi => ?_, fun i j hi hj hij => ?_, fun i hi => ?_⟩
  · rw [List.length_append, List.length_singleton] at hi
    by_cases e : i < vs.length
    · rw [List.getElem_append_left e, nth_left (by rw [← h.len]; exact e)]
      exact ((h.inn i e).grown hb (grown_ne (h.inn i e) hB)).grown hg (h.far i e)
    · have e2 : i = vs.length := by omega
      subst e2
      rw [List.getElem_append_right (Nat.le_refl _)]
      simp only [Nat.sub_self, List.getElem_cons_zero]
      rw [h.len, nth_last]
      exact (hu.mono hN).grown hg huv
  · rw [List.length_append, List.length_singleton] at hi hj
    by_cases e : i < vs.length
    · rw [List.getElem_append_left e]
      by_cases e2 : j < vs.length
      · rw [List.getElem_append_left e2]; exact h.apart i j e e2 hij
      · have e3 : j = vs.length := by omega
        subst e3
        rw [List.getElem_append_right (Nat.le_refl _)]
        simp only [Nat.sub_self, List.getElem_cons_zero]
        cases hx : vs[i].ownBlock with
        | none => exact .inl rfl
        | some b => exact .inr (fun e4 => by have h1 := hold i e b hx; have h2 := hub b e4.symm; omega)
    · have e3 : i = vs.length := by omega
      subst e3
      rw [List.getElem_append_right (Nat.le_refl _)]
      simp only [Nat.sub_self, List.getElem_cons_zero]
      have e2 : j < vs.length := by omega
      rw [List.getElem_append_left e2]
      cases hx : u.ownBlock with
      | none => exact .inl rfl
      | some b => exact .inr (fun e4 => by have h1 := hold j e2 b e4.symm; have h2 := hub b hx; omega)
  · rw [List.length_append, List.length_singleton] at hi
    show _ ∨ _ ≠ Option.some g
    by_cases e : i < vs.length
    · rw [List.getElem_append_left e]; exact hgi i e
    · have e2 : i = vs.length := by omega
      subst e2
      rw [List.getElem_append_right (Nat.le_refl _)]
      simp only [Nat.sub_self, List.getElem_cons_zero]
      exact hgu
/-- How many entries a map's block has. -/
def mapMany (w : World) (b : Nat) : Nat := match w.heap[b]? with | some (.map es _) => es.size | _ => 0
theorem PM.many {w : World} {b n : Nat} {s : List (Int × Int)} {D : DataW Unit} (h : PM w b n s D) : mapMany w b = s.length := by
  have hs := h.size
  obtain ⟨es, clock, hb, F, hn, rfl⟩ := h.own
  unfold mapMany
  rw [hb]
  rw [← hs]
  simp [Go.Maps.size, length_sorted]
/-- How long a slice is. -/
def sliceLen : Value → Nat
  | .slice _ n _ => n
  | _ => 0
end Go.Proofs.YtoefllklngnmeaaDoor
