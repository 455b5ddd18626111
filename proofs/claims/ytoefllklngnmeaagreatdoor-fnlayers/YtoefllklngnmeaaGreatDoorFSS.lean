/-
  Lists of triangles: compared, marked, and looked at again, as the laws do it (contracts for the walks).
  Conditions: as each theorem states them.
-/
import Derived.Test.YtoefllklngnmeaaGreatDoorFOwn
import Derived.Deep.DeepCutAuto
namespace Go.Proofs.YtoefllklngnmeaaGreatDoor
open Go.RowKit
set_option linter.unusedVariables false
set_option maxRecDepth 8000
/-- The i-th list. -/
def nth (L : List (List (Int × Int))) (i : Nat) : List (Int × Int) := L.getD i []
/-- Lists of points lie at an address, below block N. -/
def AtSS (N : Nat) (a : Option Addr) (L : List (List (Int × Int))) (w : World) : Prop :=
  ∀ i, i < L.length → ∃ b off ai ci, a = some ⟨b, off, none⟩ ∧ b < N ∧ w.cell? ⟨b, off + i, none⟩ = some (.slice ai (nth L i).length ci) ∧ At N ai (nth L i) w
theorem AtSS.later {N : Nat} {a : Option Addr} {L : List (List (Int × Int))} {w w' : World} (h : AtSS N a L w) (hb : Below w.heap.size w w') : AtSS N a L w' := fun i hi => by
  obtain ⟨b, off, ai, ci, e, hN, h0, h1⟩ := h i hi
  exact ⟨b, off, ai, ci, e, hN, cell_later hb h0, h1.later hb⟩
theorem AtSS.mono {N M : Nat} {a : Option Addr} {L : List (List (Int × Int))} {w : World} (h : AtSS N a L w) (hNM : N ≤ M) : AtSS M a L w := fun i hi => by
  obtain ⟨b, off, ai, ci, e, hN, h0, h1⟩ := h i hi
  exact ⟨b, off, ai, ci, e, by omega, h0, h1.mono hNM⟩
theorem AtSS.kept {N : Nat} {a : Option Addr} {L : List (List (Int × Int))} {w w' : World} (h : AtSS N a L w) (hb : Below N w w') : AtSS N a L w' := fun i hi => by
  obtain ⟨b, off, ai, ci, e, hN, h0, h1⟩ := h i hi
  refine ⟨b, off, ai, ci, e, hN, (hb.cell hN).trans h0, fun j hj => ?_⟩
  obtain ⟨b', off', e', hN', g0, g1⟩ := h1 j hj
  exact ⟨b', off', e', hN', (hb.cell hN').trans g0, (hb.cell hN').trans g1⟩
/-- Lists of points that a call made, each in memory of its own. -/
structure OwnSS (N : Nat) (v : Value) (L : List (List (Int × Int))) (vs : List Value) (w : World) : Prop where
  out : OwnV N v vs w
  len : vs.length = L.length
  inn : ∀ i (h : i < vs.length), OwnC N vs[i] (nth L i) w
  apart : ∀ i j (hi : i < vs.length) (hj : j < vs.length), i ≠ j → vs[i].ownBlock = none ∨ vs[i].ownBlock ≠ vs[j].ownBlock
  far : ∀ i (hi : i < vs.length), vs[i].ownBlock = none ∨ vs[i].ownBlock ≠ v.ownBlock
theorem OwnSS.nil (N : Nat) (w : World) : OwnSS N (.slice none 0 0) [] [] w :=
  ⟨OwnV.nil _ _, rfl, fun i h => absurd h (Nat.not_lt_zero _), fun i _ h => absurd h (Nat.not_lt_zero _), fun i h => absurd h (Nat.not_lt_zero _)⟩
theorem OwnSS.later {N : Nat} {v : Value} {L : List (List (Int × Int))} {vs : List Value} {w w' : World} (h : OwnSS N v L vs w) (hb : Below w.heap.size w w') : OwnSS N v L vs w' :=
  ⟨h.out.later hb, h.len, fun i hi => (h.inn i hi).later hb, h.apart, h.far⟩
theorem OwnSS.mono {N K : Nat} {v : Value} {L : List (List (Int × Int))} {vs : List Value} {w : World} (h : OwnSS N v L vs w) (hK : K ≤ N) : OwnSS K v L vs w :=
  ⟨h.out.mono hK, h.len, fun i hi => (h.inn i hi).mono hK, h.apart, h.far⟩
theorem OwnSS.shape {N : Nat} {v : Value} {L : List (List (Int × Int))} {vs : List Value} {w : World} (h : OwnSS N v L vs w) : ∃ a cap, v = .slice a L.length cap := by
  obtain ⟨a, cap, e⟩ := h.out.shape
  exact ⟨a, cap, by rw [e, h.len]⟩
theorem OwnC.lt {N : Nat} {v : Value} {l : List (Int × Int)} {w : World} (h : OwnC N v l w) {g : Nat} (e : v.ownBlock = Option.some g) : N ≤ g ∧ g < w.heap.size := by
  rcases h with ⟨_, rfl⟩ | ⟨g', c, M, f, rfl, h1, _, _, _, h4, _⟩
  · simp [Value.ownBlock] at e
  · simp [Value.ownBlock] at e
    subst e
    exact ⟨h1, h4.lt⟩
theorem OwnC.other {N : Nat} {v : Value} {a : Option Addr} {l : List (Int × Int)} {w w' : World} (h : OwnC N v l w) (hs : Spared a w w') (hb : ∀ b off, a = Option.some ⟨b, off, none⟩ → v.ownBlock ≠ Option.some b) : OwnC N v l w' := by
  rcases h with h | ⟨g, c, M, f, e, h1, h2, h3, hM, ⟨cc, k1, k2, k3⟩, h5⟩
  · exact .inl h
  · refine .inr ⟨g, c, M, f, e, h1, h2, h3, hM, ⟨cc, (hs.block g (heap_lt k1) (fun b off e' => fun eb => hb b off e' (by rw [e, eb]; rfl))).trans k1, k2, k3⟩, h5⟩
theorem OwnV.other {N : Nat} {v : Value} {a : Option Addr} {vs : List Value} {w w' : World} (h : OwnV N v vs w) (hs : Spared a w w') (hb : ∀ b off, a = Option.some ⟨b, off, none⟩ → v.ownBlock ≠ Option.some b) : OwnV N v vs w' := by
  rcases h with h | ⟨g, cap, cur, e, h1, h2, h3⟩
  · exact .inl h
  · exact .inr ⟨g, cap, cur, e, h1, (hs.block g (heap_lt h2) (fun b off e' => fun eb => hb b off e' (by rw [e, eb]; rfl))).trans h2, h3⟩
theorem OwnSS.at {N n cap : Nat} {a : Option Addr} {L : List (List (Int × Int))} {vs : List Value} {w : World} (h : OwnSS N (.slice a n cap) L vs w) : AtSS w.heap.size a L w := fun i hi => by
  have hi' : i < vs.length := by rw [h.len]; exact hi
  obtain ⟨g, e, h1, h2, h3⟩ := h.out.cell hi'
  obtain ⟨ai, ci, e2⟩ := (h.inn i hi').shape
  refine ⟨g, 0, ai, ci, e, h2, ?_, ?_⟩
  · rw [Nat.zero_add, h3, e2]
  · have := h.inn i hi'
    rw [e2] at this
    exact this.at
end Go.Proofs.YtoefllklngnmeaaGreatDoor
