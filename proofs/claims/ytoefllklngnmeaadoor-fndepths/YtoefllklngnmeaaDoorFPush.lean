/-
  One triangle more, behind a list of triangles (contracts for the walks).
  Conditions: as each theorem states them.
-/
import Derived.Test.YtoefllklngnmeaaDoorFClone
namespace Go.Proofs.YtoefllklngnmeaaDoor
open Go.RowKit
set_option linter.unusedVariables false
set_option maxRecDepth 8000
theorem OwnC.grown {N : Nat} {u : Value} {l : List (Int × Int)} {w w' : World} {row : Option Nat} (h : OwnC N u l w) (hg : w.grownBy w' row) (hne : u.ownBlock = none ∨ u.ownBlock ≠ row) : OwnC N u l w' := by
  rcases h with h | ⟨g, c, M, f, e, h1, h2, h3, hM, ⟨cc, k1, k2, k3⟩, h5⟩
  · exact .inl h
  · refine .inr ⟨g, c, M, f, e, h1, h2, h3, hM, ⟨cc, (hg.block g (heap_lt k1) (fun e' => ?_)).trans k1, k2, k3⟩, h5⟩
    rcases hne with h6 | h6
    · rw [e] at h6; simp [Value.ownBlock] at h6
    · exact h6 (by rw [e]; simpa [Value.ownBlock] using e')
theorem OwnV.lt {N : Nat} {v : Value} {vs : List Value} {w : World} (h : OwnV N v vs w) {g : Nat} (e : v.ownBlock = Option.some g) : N ≤ g ∧ g < w.heap.size := by
  rcases h with ⟨_, rfl⟩ | ⟨g', cap, cur, rfl, h1, h2, _⟩
  · simp [Value.ownBlock] at e
  · simp [Value.ownBlock] at e
    subst e
    exact ⟨h1, heap_lt h2⟩
theorem nth_left {L : List (List (Int × Int))} {l : List (Int × Int)} {i : Nat} (h : i < L.length) : nth (L ++ [l]) i = nth L i := by simp [nth, h, List.getElem?_append_left h]
theorem nth_last (L : List (List (Int × Int))) (l : List (Int × Int)) : nth (L ++ [l]) L.length = l := by simp [nth]
theorem OwnSS.push {N g cap : Nat} {v u : Value} {L : List (List (Int × Int))} {l : List (Int × Int)} {vs : List Value} {w0 w w' : World} (h : OwnSS N v L vs w0) (hb : Below w0.heap.size w0 w) (hN : N ≤ w0.heap.size) (hu : OwnC w0.heap.size u l w)
    (hO : OwnV N (.slice (Option.some ⟨g, 0, none⟩) (vs.length + 1) cap) (vs ++ [u]) w') (hg : w.grownBy w' v.ownBlock) (hgg : v.ownBlock = Option.some g ∨ g = w.heap.size) :
    OwnSS N (.slice (Option.some ⟨g, 0, none⟩) (vs.length + 1) cap) (L ++ [l]) (vs ++ [u]) w' := by
  have hs := hb.size
  have hold : ∀ i (hi : i < vs.length) b, vs[i].ownBlock = Option.some b → b < w0.heap.size := fun i hi b e => ((h.inn i hi).lt e).2
  have hvb : ∀ b, v.ownBlock = Option.some b → b < w0.heap.size := fun b e => (h.out.lt e).2
  have hub : ∀ b, u.ownBlock = Option.some b → w0.heap.size ≤ b ∧ b < w.heap.size := fun b e => hu.lt e
  have hgi : ∀ i (hi : i < vs.length), vs[i].ownBlock = none ∨ vs[i].ownBlock ≠ Option.some g := by
    intro i hi
    rcases hgg with e | e
    · rw [← e]; exact h.far i hi
    · cases hx : vs[i].ownBlock with
      | none => exact .inl rfl
      | some b => exact .inr (fun e2 => by have := hold i hi b hx; simp at e2; omega)
  have hgu : u.ownBlock = none ∨ u.ownBlock ≠ Option.some g := by
    cases hx : u.ownBlock with
    | none => exact .inl rfl
    | some b =>
      refine .inr (fun e2 => ?_)
      have h1 := hub b hx
      simp at e2
      rcases hgg with e | e
      · have := hvb g e; omega
      · omega
  have huv : u.ownBlock = none ∨ u.ownBlock ≠ v.ownBlock := by
    cases hx : u.ownBlock with
    | none => exact .inl rfl
    | some b =>
      refine .inr (fun e2 => ?_)
      have h1 := hub b hx
      have := hvb b e2.symm
      omega
  refine ⟨hO, by simp [h.len], fun i hi => ?_, fun i j hi hj hij => ?_, fun i hi => ?_⟩
  · rw [List.length_append, List.length_singleton] at hi
    by_cases e : i < vs.length
    · rw [List.getElem_append_left e, nth_left (by rw [← h.len]; exact e)]
      exact ((h.inn i e).later hb).grown hg (h.far i e)
    · have e2 : i = vs.length := by omega
      subst e2
      rw [List.getElem_append_right (Nat.le_refl _)]
      simp only [Nat.sub_self, List.getElem_cons_zero]
      rw [h.len, nth_last]
      exact (hu.mono hN).grown hg huv
  · rw [List.length_append, List.length_singleton] at hi hj
    by_cases e : i < vs.length
    · rw [List.getElem_append_left e]
      by_cases e2 : j < vs.length
      · rw [List.getElem_append_left e2]; exact h.apart i j e e2 hij
      · have e3 : j = vs.length := by omega
        subst e3
        rw [List.getElem_append_right (Nat.le_refl _)]
        simp only [Nat.sub_self, List.getElem_cons_zero]
        cases hx : vs[i].ownBlock with
        | none => exact .inl rfl
        | some b => exact .inr (fun e4 => by have h1 := hold i e b hx; have h2 := hub b e4.symm; omega)
    · have e3 : i = vs.length := by omega
      subst e3
      rw [List.getElem_append_right (Nat.le_refl _)]
      simp only [Nat.sub_self, List.getElem_cons_zero]
      have e2 : j < vs.length := by omega
      rw [List.getElem_append_left e2]
      cases hx : u.ownBlock with
      | none => exact .inl rfl
      | some b => exact .inr (fun e4 => by have h1 := hold j e2 b e4.symm; have h2 := hub b hx; omega)
  · rw [List.length_append, List.length_singleton] at hi
    show _ ∨ _ ≠ Option.some g
    by_cases e : i < vs.length
    · rw [List.getElem_append_left e]; exact hgi i e
    · have e2 : i = vs.length := by omega
      subst e2
      rw [List.getElem_append_right (Nat.le_refl _)]
      simp only [Nat.sub_self, List.getElem_cons_zero]
      exact hgu
/-- At the operation. -/
theorem wp_append_one {P : Program} {w : World} {o : Oper} {a : Act} {K : Act → World → Prop} {Q : Exit → Act → World → Prop} (s x : Operand) (t : TypeId) (ho : o.op = .call { callee := .builtin .append, args := #[s, x], argTypes := #[t, t] })
    (N : Nat) {i : TypeInfo} {z : Value} (ht : P.underlying t = some (.slice 28)) (hi : P.info? 28 = some i) (hz : i.zero = some z) (hz1 : i.size = 1) (hz2 : i.bytes = 24) (hz3 : z.cells.size = 1)
    (v u : Value) (vs : List Value) (hs : a.eval s = v) (hu : u.oneCell' = true) (hown : OwnV N v vs w) (ad : Addr) (c : Nat) (hx : a.eval x = .slice (some ad) 1 c) (hnew : w.cell? ad = some u) (hpl : ad.spot = none)
    (hlen : vs.length + 1 ≤ 1048576) (hbase : N ≤ w.heap.size)
    (h : ∀ g cap w', OwnV N (.slice (some ⟨g, 0, none⟩) (vs.length + 1) cap) (vs ++ [u]) w' → w.grownBy w' v.ownBlock → (v.ownBlock = some g ∨ g = w.heap.size) → K (a.put o.dst (.slice (some ⟨g, 0, none⟩) (vs.length + 1) cap)) w') : o.wp P a w K Q := by
  obtain ⟨g, cap, w', hr, h2, h3, h4⟩ := run_append_one (P := P) (t := t) (ty := o.type) ht hi hz hz1 hz2 hz3 hu hown ad c hnew hpl hlen hbase
  unfold Oper.wp execOp
  simp only [ho, resolve, invoke, builtin, Sem.run_bind, Sem.run_pure, Result.andThen_ok, List.map_toArray, List.map_cons, List.map_nil, hs, hx, hr]
  exact h g cap w' h2 h3 h4
theorem wpList_append_one {P : Program} {w : World} {ops : Array Oper} {rest : List Oper} {o : Oper} {a : Act} {Q : Exit → Act → World → Prop} (hgd : o.guard = none) (s x : Operand) (t : TypeId) (ho : o.op = .call { callee := .builtin .append, args := #[s, x], argTypes := #[t, t] })
    (N : Nat) {i : TypeInfo} {z : Value} (ht : P.underlying t = some (.slice 28)) (hi : P.info? 28 = some i) (hz : i.zero = some z) (hz1 : i.size = 1) (hz2 : i.bytes = 24) (hz3 : z.cells.size = 1)
    (v u : Value) (vs : List Value) (hs : a.eval s = v) (hu : u.oneCell' = true) (hown : OwnV N v vs w) (ad : Addr) (c : Nat) (hx : a.eval x = .slice (some ad) 1 c) (hnew : w.cell? ad = some u) (hpl : ad.spot = none)
    (hlen : vs.length + 1 ≤ 1048576) (hbase : N ≤ w.heap.size)
    (h : ∀ g cap w', OwnV N (.slice (some ⟨g, 0, none⟩) (vs.length + 1) cap) (vs ++ [u]) w' → w.grownBy w' v.ownBlock → (v.ownBlock = some g ∨ g = w.heap.size) → wpList P ops Q rest (a.put o.dst (.slice (some ⟨g, 0, none⟩) (vs.length + 1) cap)) w') : wpList P ops Q (o :: rest) a w :=
  wpList_plain hgd fun _ hK => wp_append_one s x t ho N ht hi hz hz1 hz2 hz3 v u vs hs hu hown ad c hx hnew hpl hlen hbase fun g cap w' h2 h3 h4 => hK _ _ (h g cap w' h2 h3 h4)
theorem OwnV.grownBelow {N : Nat} {v : Value} {vs : List Value} {w w' : World} (ho : OwnV N v vs w) (hg : w.grownBy w' v.ownBlock) (hN : N ≤ w.heap.size) : Below N w w' :=
  (Below.refl _ _).grown hg hN (fun k hk => (ho.lt hk).1)
def fanT (h : List (Int × Int)) (j : Nat) : List (Int × Int) := [(px h 0, py h 0), (px h (j + 1), py h (j + 1)), (px h (j + 2), py h (j + 2))]
def fanTo (h : List (Int × Int)) (j : Nat) : List (List (Int × Int)) := (List.range j).map (fanT h)
theorem fanTo_succ (h : List (Int × Int)) (j : Nat) : fanTo h (j + 1) = fanTo h j ++ [fanT h j] := by simp [fanTo, List.range_succ]
theorem fanTo_len (h : List (Int × Int)) (j : Nat) : (fanTo h j).length = j := by simp [fanTo]
theorem nth_fanTo {h : List (Int × Int)} {i j : Nat} (k : i < j) : nth (fanTo h j) i = fanT h i := by simp [nth, fanTo, k]
end Go.Proofs.YtoefllklngnmeaaDoor
