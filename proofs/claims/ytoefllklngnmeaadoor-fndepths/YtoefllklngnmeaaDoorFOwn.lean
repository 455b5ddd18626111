/-
  Lists of lists of points: what lies where, and what an append leaves (contracts for the walks).
  Conditions: as each theorem states them.
-/
import Derived.Test.YtoefllklngnmeaaDoorB2
namespace Go.Proofs.YtoefllklngnmeaaDoor
open Go.RowKit
set_option linter.unusedVariables false
set_option maxRecDepth 8000
theorem info_sl : (Tryd.prog.info? 28).map (fun i => (i.zero, i.size, i.bytes)) = some (some (.slice none 0 0), 1, 24) := by kernel_rfl
/-- The slice v, made at block N or later, holds the slices vs at its head. -/
def OwnV (N : Nat) (v : Value) (vs : List Value) (w : World) : Prop :=
  (vs = [] ∧ v = .slice none 0 0) ∨ ∃ (g cap : Nat) (cur : Array Value), v = .slice (some ⟨g, 0, none⟩) vs.length cap ∧ N ≤ g ∧ w.heap[g]? = some (.cells cur 28 (0, 0)) ∧ vs.length ≤ cap ∧ cap ≤ maxLen ∧ cap ≤ cur.size ∧ cur.toList.take vs.length = vs
theorem OwnV.nil (N : Nat) (w : World) : OwnV N (.slice none 0 0) [] w := .inl ⟨rfl, rfl⟩
theorem heap_lt {w : World} {g : Nat} {o : Obj} (h : w.heap[g]? = some o) : g < w.heap.size := by
  by_cases hg : g < w.heap.size
  · exact hg
  · rw [Array.getElem?_eq_none (by omega)] at h; cases h
theorem OwnV.later {N : Nat} {v : Value} {vs : List Value} {w w' : World} (h : OwnV N v vs w) (hb : Below w.heap.size w w') : OwnV N v vs w' := by
  rcases h with h | ⟨g, cap, cur, e, h1, h2, h3, h4, h5, h6⟩
  · exact .inl h
  · exact .inr ⟨g, cap, cur, e, h1, (hb.block g (heap_lt h2)).trans h2, h3, h4, h5, h6⟩
theorem OwnV.mono {N K : Nat} {v : Value} {vs : List Value} {w : World} (h : OwnV N v vs w) (hK : K ≤ N) : OwnV K v vs w := by
  rcases h with h | ⟨g, cap, cur, e, h1, h2⟩
  · exact .inl h
  · exact .inr ⟨g, cap, cur, e, Nat.le_trans hK h1, h2⟩
theorem OwnV.shape {N : Nat} {v : Value} {vs : List Value} {w : World} (h : OwnV N v vs w) : ∃ a cap, v = .slice a vs.length cap := by
  rcases h with ⟨rfl, rfl⟩ | ⟨g, cap, cur, e, _⟩
  · exact ⟨none, 0, rfl⟩
  · exact ⟨_, _, e⟩
theorem OwnV.cell {N n cap : Nat} {a : Option Addr} {vs : List Value} {w : World} (h : OwnV N (.slice a n cap) vs w) {i : Nat} (hi : i < vs.length) : ∃ g, a = Option.some ⟨g, 0, none⟩ ∧ N ≤ g ∧ g < w.heap.size ∧ w.cell? ⟨g, i, none⟩ = Option.some (vs[i]) := by
  rcases h with ⟨rfl, _⟩ | ⟨g, c, cur, e, h1, h2, h3, h4, h5, h6⟩
  · exact absurd hi (Nat.not_lt_zero _)
  · simp at e
    refine ⟨g, e.1, h1, heap_lt h2, ?_⟩
    rw [cell_of_row w g i cur 28 (0, 0) h2]
    have : cur.toList[i]? = Option.some vs[i] := by
      have h7 : (cur.toList.take vs.length)[i]? = vs[i]? := by rw [h6]
      rw [List.getElem?_take, if_pos hi] at h7
      rw [h7, List.getElem?_eq_getElem hi]
    simpa using this
/-- One slice more, behind a list of slices. -/
theorem run_append_one {P : Program} {w : World} {N : Nat} {t ty : TypeId} {i : TypeInfo} {z : Value} (ht : P.underlying t = some (.slice 28)) (hi : P.info? 28 = some i) (hz : i.zero = some z) (hz1 : i.size = 1) (hz2 : i.bytes = 24) (hz3 : z.cells.size = 1)
    {v : Value} {vs : List Value} {u : Value} (hu : u.oneCell' = true) (hown : OwnV N v vs w) (ad : Addr) (c : Nat) (hnew : w.cell? ad = some u) (hpl : ad.spot = none)
    (hlen : vs.length + 1 ≤ 1048576) (hbase : N ≤ w.heap.size) :
    ∃ g cap w', (Builtin.append_ #[t, t] ty #[v, .slice (some ad) 1 c]).run P w = .ok (.slice (some ⟨g, 0, none⟩) (vs.length + 1) cap) w' ∧
      OwnV N (.slice (some ⟨g, 0, none⟩) (vs.length + 1) cap) (vs ++ [u]) w' ∧ w.grownBy w' v.ownBlock ∧ (v.ownBlock = some g ∨ g = w.heap.size) := by
  have hle : (vs ++ [u]).length = vs.length + 1 := by simp
  have hnews : ∀ j x, [u][j]? = some x → w.cell? (ad.add j) = some x := by
    intro j x hx
    match j, hx with
    | 0, hx =>
      simp at hx
      subst hx
      obtain ⟨b, o, s⟩ := ad
      simp at hpl
      subst hpl
      exact hnew
    | j + 1, hx => simp at hx
  have grown : ∀ (old : Nat), old < vs.length + 1 → ∀ (row : Option Nat),
      OwnV N (.slice (some ⟨w.heap.size, 0, none⟩) (vs.length + 1) (grownCap w (vs.length + 1) old 28)) (vs ++ [u]) (w.drew.alloc (.cells (vs.toArray ++ [u].toArray ++ Builtin.zeroCells z.cells (grownCap w (vs.length + 1) old 28 - (vs.length + 1))) 28)) ∧
      w.grownBy (w.drew.alloc (.cells (vs.toArray ++ [u].toArray ++ Builtin.zeroCells z.cells (grownCap w (vs.length + 1) old 28 - (vs.length + 1))) 28)) row := by
    intro old ho row
    have hge := grownCap_ge w (vs.length + 1) old 28
    have hcm : grownCap w (vs.length + 1) old 28 ≤ maxLen := grownCap_le_maxLen w (vs.length + 1) old 28 (by unfold maxLen; omega)
    refine ⟨.inr ⟨w.heap.size, _, _, by rw [hle], hbase, heap_alloc_new w.drew _, by rw [hle]; exact hge, hcm, ?_, ?_⟩, ⟨rfl, rfl, rfl, by simp, fun k hk _ => _root_.Go.heap_alloc_old w.drew _ hk⟩⟩
    · simp only [Array.size_append, List.size_toArray, size_zeroCells, hz3, List.length_cons, List.length_nil]
      omega
    · rw [hle]
      simp only [Array.toList_append]
      rw [show vs.length + 1 = (vs ++ [u]).length by simp]
      exact List.take_left
  rcases hown with ⟨rfl, rfl⟩ | ⟨g, cap, cur, rfl, hbg, hg, hnc, hcm, hcs, htake⟩
  · have hr := run_append_nil (P := P) w t ty 28 i z ht hi hz ad 1 c [u] (by rw [hz1]; rfl) hnews (by omega) (by omega) (by rw [hz2]; omega)
    have hgr := grown 0 (by simp) (Value.ownBlock (.slice none 0 0))
    simp only [List.length_nil, Nat.zero_add, List.nil_append, Array.empty_append] at hgr ⊢
    exact ⟨_, _, _, hr, hgr.1, hgr.2, .inr rfl⟩
  · by_cases hroom : vs.length + 1 ≤ cap
    · have hr := run_append_room (P := P) w t ty 28 i ht hi g vs.length cap cur hg ad 1 c [u] (by rw [hz1]; rfl) hnews (by intro x hx; simp at hx; subst hx; exact hu) hroom (by rw [hz1]; simp; omega)
      rw [hz1] at hr
      refine ⟨g, cap, _, hr, ?_, ⟨rfl, rfl, rfl, by simp, fun k _ hk => setRow_other w g k _ (fun e => hk (by simp [Value.ownBlock, e]))⟩, .inl rfl⟩
      refine .inr ⟨g, cap, _, by rw [hle], hbg, setRow_heap w g cur _ _ _ hg, by rw [hle]; exact hroom, hcm, ?_, ?_⟩
      · simp only [List.size_toArray, List.length_append, List.length_take, List.length_drop, Array.length_toList, List.length_cons, List.length_nil]
        omega
      · rw [hle, Nat.mul_one, htake, show vs.length + 1 = (vs ++ [u]).length by simp]
        exact List.take_left
    · have holds : ∀ j x, vs[j]? = some x → w.cell? ((⟨g, 0, none⟩ : Addr).add j) = some x := by
        intro j x hx
        rw [Go.WideShapes.add_plain, Nat.zero_add, cell_of_row w g j cur 28 (0, 0) hg]
        rw [← htake, List.getElem?_take] at hx
        split at hx
        · simpa using hx
        · cases hx
      have hr := run_append_grow (P := P) w t ty 28 i z ht hi hz ⟨g, 0, none⟩ vs.length cap vs (by rw [hz1]; omega) holds ad 1 c [u] (by rw [hz1]; rfl) hnews (by omega) (by omega) (growslice_fits (by omega) (by rw [hz2]; omega))
      have hgr := grown cap (by omega) (Value.ownBlock (.slice (some ⟨g, 0, none⟩) vs.length cap))
      exact ⟨_, _, _, hr, hgr.1, hgr.2, .inr rfl⟩
end Go.Proofs.YtoefllklngnmeaaDoor
