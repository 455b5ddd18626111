/-
  Points, sets and hulls: contracts for the walks (FOwn, FSS, FMark in one text).
  Conditions: as each theorem states them.
-/
import Derived.Test.YtegmlemejmahiaaGreatDoorB2
import Derived.Deep.DeepCutAuto
namespace Go.Proofs.YtegmlemejmahiaaGreatDoor
open Go.RowKit
set_option linter.unusedVariables false
set_option maxRecDepth 8000
theorem info_sl : (Tryz.prog.info? 24).map (fun i => (i.zero, i.size, i.bytes)) = some (some (.slice none 0 0), 1, 24) := by kernel_rfl
/-- The slice v, made at block N or later, holds the slices vs at its head. -/
def OwnV (N : Nat) (v : Value) (vs : List Value) (w : World) : Prop :=
  (vs = [] ∧ v = .slice none 0 0) ∨ ∃ (g cap : Nat) (cur : Array Value), v = .slice (some ⟨g, 0, none⟩) vs.length cap ∧ N ≤ g ∧ w.heap[g]? = some (.cells cur 24 (0, 0)) ∧ vs.length ≤ cap ∧ cap ≤ maxLen ∧ cap ≤ cur.size ∧ cur.toList.take vs.length = vs
theorem OwnV.nil (N : Nat) (w : World) : OwnV N (.slice none 0 0) [] w := .inl ⟨rfl, rfl⟩
theorem heap_lt {w : World} {g : Nat} {o : Obj} (h : w.heap[g]? = some o) : g < w.heap.size := by
  by_cases hg : g < w.heap.size
  · exact hg
  · rw [Array.getElem?_eq_none (by omega)] at h; cases h
theorem OwnV.later {N : Nat} {v : Value} {vs : List Value} {w w' : World} (h : OwnV N v vs w) (hb : Below w.heap.size w w') : OwnV N v vs w' := by
  rcases h with h | ⟨g, cap, cur, e, h1, h2, h3, h4, h5, h6⟩
  · exact .inl h
  · exact .inr ⟨g, cap, cur, e, h1, (hb.block g (heap_lt h2)).trans h2, h3, h4, h5, h6⟩
theorem OwnV.mono {N K : Nat} {v : Value} {vs : List Value} {w : World} (h : OwnV N v vs w) (hK : K ≤ N) : OwnV K v vs w := by
  rcases h with h | ⟨g, cap, cur, e, h1, h2⟩
  · exact .inl h
  · exact .inr ⟨g, cap, cur, e, Nat.le_trans hK h1, h2⟩
theorem OwnV.shape {N : Nat} {v : Value} {vs : List Value} {w : World} (h : OwnV N v vs w) : ∃ a cap, v = .slice a vs.length cap := by
  rcases h with ⟨rfl, rfl⟩ | ⟨g, cap, cur, e, _⟩
  · exact ⟨none, 0, rfl⟩
  · exact ⟨_, _, e⟩
theorem OwnV.cell {N n cap : Nat} {a : Option Addr} {vs : List Value} {w : World} (h : OwnV N (.slice a n cap) vs w) {i : Nat} (hi : i < vs.length) : ∃ g, a = Option.some ⟨g, 0, none⟩ ∧ N ≤ g ∧ g < w.heap.size ∧ w.cell? ⟨g, i, none⟩ = Option.some (vs[i]) := by
  rcases h with ⟨rfl, _⟩ | ⟨g, c, cur, e, h1, h2, h3, h4, h5, h6⟩
  · exact absurd hi (Nat.not_lt_zero _)
  · simp at e
    refine ⟨g, e.1, h1, heap_lt h2, ?_⟩
    rw [cell_of_row w g i cur 24 (0, 0) h2]
    have : cur.toList[i]? = Option.some vs[i] := by
      have h7 : (cur.toList.take vs.length)[i]? = vs[i]? := by rw [h6]
      rw [List.getElem?_take, if_pos hi] at h7
      rw [h7, List.getElem?_eq_getElem hi]
    simpa using this
/-- One slice more, behind a list of slices. -/
theorem run_append_one {P : Program} {w : World} {N : Nat} {t ty : TypeId} {i : TypeInfo} {z : Value} (ht : P.underlying t = some (.slice 24)) (hi : P.info? 24 = some i) (hz : i.zero = some z) (hz1 : i.size = 1) (hz2 : i.bytes = 24) (hz3 : z.cells.size = 1)
    {v : Value} {vs : List Value} {u : Value} (hu : u.oneCell' = true) (hown : OwnV N v vs w) (ad : Addr) (c : Nat) (hnew : w.cell? ad = some u) (hpl : ad.spot = none)
    (hlen : vs.length + 1 ≤ 1048576) (hbase : N ≤ w.heap.size) :
    ∃ g cap w', (Builtin.append_ #[t, t] ty #[v, .slice (some ad) 1 c]).run P w = .ok (.slice (some ⟨g, 0, none⟩) (vs.length + 1) cap) w' ∧
      OwnV N (.slice (some ⟨g, 0, none⟩) (vs.length + 1) cap) (vs ++ [u]) w' ∧ w.grownBy w' v.ownBlock ∧ (v.ownBlock = some g ∨ g = w.heap.size) := by
  have hle : (vs ++ [u]).length = vs.length + 1 := by simp
  have hnews : ∀ j x, [u][j]? = some x → w.cell? (ad.add j) = some x := by
    intro j x hx
    match j, hx with
    | 0, hx =>
      simp at hx
      subst hx
      obtain ⟨b, o, s⟩ := ad
      simp at hpl
      subst hpl
      exact hnew
    | j + 1, hx => simp at hx
  have grown : ∀ (old : Nat), old < vs.length + 1 → ∀ (row : Option Nat),
      OwnV N (.slice (some ⟨w.heap.size, 0, none⟩) (vs.length + 1) (grownCap w (vs.length + 1) old 24)) (vs ++ [u]) (w.drew.alloc (.cells (vs.toArray ++ [u].toArray ++ Builtin.zeroCells z.cells (grownCap w (vs.length + 1) old 24 - (vs.length + 1))) 24)) ∧
      w.grownBy (w.drew.alloc (.cells (vs.toArray ++ [u].toArray ++ Builtin.zeroCells z.cells (grownCap w (vs.length + 1) old 24 - (vs.length + 1))) 24)) row := by
    intro old ho row
    have hge := grownCap_ge w (vs.length + 1) old 24
    have hcm : grownCap w (vs.length + 1) old 24 ≤ maxLen := grownCap_le_maxLen w (vs.length + 1) old 24 (by unfold maxLen; omega)
    refine ⟨.inr ⟨w.heap.size, _, _, by rw [hle], hbase, heap_alloc_new w.drew _, by rw [hle]; exact hge, hcm, ?_, ?_⟩, ⟨rfl, rfl, rfl, by simp, fun k hk _ => _root_.Go.heap_alloc_old w.drew _ hk⟩⟩
    · simp only [Array.size_append, List.size_toArray, size_zeroCells, hz3, List.length_cons, List.length_nil]
      omega
    · rw [hle]
      simp only [Array.toList_append]
      rw [show vs.length + 1 = (vs ++ [u]).length by simp]
      exact List.take_left
  rcases hown with ⟨rfl, rfl⟩ | ⟨g, cap, cur, rfl, hbg, hg, hnc, hcm, hcs, htake⟩
  · have hr := run_append_nil (P := P) w t ty 24 i z ht hi hz ad 1 c [u] (by rw [hz1]; rfl) hnews (by omega) (by omega) (by rw [hz2]; omega)
    have hgr := grown 0 (by simp) (Value.ownBlock (.slice none 0 0))
    simp only [List.length_nil, Nat.zero_add, List.nil_append, Array.empty_append] at hgr ⊢
    exact ⟨_, _, _, hr, hgr.1, hgr.2, .inr rfl⟩
  · by_cases hroom : vs.length + 1 ≤ cap
    · have hr := run_append_room (P := P) w t ty 24 i ht hi g vs.length cap cur hg ad 1 c [u] (by rw [hz1]; rfl) hnews (by intro x hx; simp at hx; subst hx; exact hu) hroom (by rw [hz1]; simp; omega)
      rw [hz1] at hr
      refine ⟨g, cap, _, hr, ?_, ⟨rfl, rfl, rfl, by simp, fun k _ hk => setRow_other w g k _ (fun e => hk (by simp [Value.ownBlock, e]))⟩, .inl rfl⟩
      refine .inr ⟨g, cap, _, by rw [hle], hbg, setRow_heap w g cur _ _ _ hg, by rw [hle]; exact hroom, hcm, ?_, ?_⟩
      · simp only [List.size_toArray, List.length_append, List.length_take, List.length_drop, Array.length_toList, List.length_cons, List.length_nil]
        omega
      · rw [hle, Nat.mul_one, htake, show vs.length + 1 = (vs ++ [u]).length by simp]
        exact List.take_left
    · have holds : ∀ j x, vs[j]? = some x → w.cell? ((⟨g, 0, none⟩ : Addr).add j) = some x := by
        intro j x hx
        rw [Go.WideShapes.add_plain, Nat.zero_add, cell_of_row w g j cur 24 (0, 0) hg]
        rw [← htake, List.getElem?_take] at hx
        split at hx
        · simpa using hx
        · cases hx
      have hr := run_append_grow (P := P) w t ty 24 i z ht hi hz ⟨g, 0, none⟩ vs.length cap vs (by rw [hz1]; omega) holds ad 1 c [u] (by rw [hz1]; rfl) hnews (by omega) (by omega) (growslice_fits (by omega) (by rw [hz2]; omega))
      have hgr := grown cap (by omega) (Value.ownBlock (.slice (some ⟨g, 0, none⟩) vs.length cap))
      exact ⟨_, _, _, hr, hgr.1, hgr.2, .inr rfl⟩
end Go.Proofs.YtegmlemejmahiaaGreatDoor
namespace Go.Proofs.YtegmlemejmahiaaGreatDoor
open Go.RowKit
set_option linter.unusedVariables false
set_option maxRecDepth 8000
/-- The i-th list. -/
def nth (L : List (List (Int × Int))) (i : Nat) : List (Int × Int) := L.getD i []
/-- Lists of points lie at an address, below block N. -/
def AtSS (N : Nat) (a : Option Addr) (L : List (List (Int × Int))) (w : World) : Prop :=
  ∀ i, i < L.length → ∃ b off ai ci, a = some ⟨b, off, none⟩ ∧ b < N ∧ w.cell? ⟨b, off + i, none⟩ = some (.slice ai (nth L i).length ci) ∧ At N ai (nth L i) w
theorem AtSS.later {N : Nat} {a : Option Addr} {L : List (List (Int × Int))} {w w' : World} (h : AtSS N a L w) (hb : Below w.heap.size w w') : AtSS N a L w' := fun i hi => by
  obtain ⟨b, off, ai, ci, e, hN, h0, h1⟩ := h i hi
  exact ⟨b, off, ai, ci, e, hN, cell_later hb h0, h1.later hb⟩
theorem AtSS.mono {N M : Nat} {a : Option Addr} {L : List (List (Int × Int))} {w : World} (h : AtSS N a L w) (hNM : N ≤ M) : AtSS M a L w := fun i hi => by
  obtain ⟨b, off, ai, ci, e, hN, h0, h1⟩ := h i hi
  exact ⟨b, off, ai, ci, e, by omega, h0, h1.mono hNM⟩
theorem AtSS.kept {N : Nat} {a : Option Addr} {L : List (List (Int × Int))} {w w' : World} (h : AtSS N a L w) (hb : Below N w w') : AtSS N a L w' := fun i hi => by
  obtain ⟨b, off, ai, ci, e, hN, h0, h1⟩ := h i hi
  refine ⟨b, off, ai, ci, e, hN, (hb.cell hN).trans h0, fun j hj => ?_⟩
  obtain ⟨b', off', e', hN', g0, g1⟩ := h1 j hj
  exact ⟨b', off', e', hN', (hb.cell hN').trans g0, (hb.cell hN').trans g1⟩
/-- Lists of points that a call made, each in memory of its own. -/
structure OwnSS (N : Nat) (v : Value) (L : List (List (Int × Int))) (vs : List Value) (w : World) : Prop where
  out : OwnV N v vs w
  len : vs.length = L.length
  inn : ∀ i (h : i < vs.length), OwnC N vs[i] (nth L i) w
  apart : ∀ i j (hi : i < vs.length) (hj : j < vs.length), i ≠ j → vs[i].ownBlock = none ∨ vs[i].ownBlock ≠ vs[j].ownBlock
  far : ∀ i (hi : i < vs.length), vs[i].ownBlock = none ∨ vs[i].ownBlock ≠ v.ownBlock
theorem OwnSS.nil (N : Nat) (w : World) : OwnSS N (.slice none 0 0) [] [] w :=
  ⟨OwnV.nil _ _, rfl, fun i h => absurd h (Nat.not_lt_zero _), fun i _ h => absurd h (Nat.not_lt_zero _), fun i h => absurd h (Nat.not_lt_zero _)⟩
theorem OwnSS.later {N : Nat} {v : Value} {L : List (List (Int × Int))} {vs : List Value} {w w' : World} (h : OwnSS N v L vs w) (hb : Below w.heap.size w w') : OwnSS N v L vs w' :=
  ⟨h.out.later hb, h.len, fun i hi => (h.inn i hi).later hb, h.apart, h.far⟩
theorem OwnSS.mono {N K : Nat} {v : Value} {L : List (List (Int × Int))} {vs : List Value} {w : World} (h : OwnSS N v L vs w) (hK : K ≤ N) : OwnSS K v L vs w :=
  ⟨h.out.mono hK, h.len, fun i hi => (h.inn i hi).mono hK, h.apart, h.far⟩
theorem OwnSS.shape {N : Nat} {v : Value} {L : List (List (Int × Int))} {vs : List Value} {w : World} (h : OwnSS N v L vs w) : ∃ a cap, v = .slice a L.length cap := by
  obtain ⟨a, cap, e⟩ := h.out.shape
  exact ⟨a, cap, by rw [e, h.len]⟩
theorem OwnC.lt {N : Nat} {v : Value} {l : List (Int × Int)} {w : World} (h : OwnC N v l w) {g : Nat} (e : v.ownBlock = Option.some g) : N ≤ g ∧ g < w.heap.size := by
  rcases h with ⟨_, rfl⟩ | ⟨g', c, M, f, rfl, h1, _, _, _, h4, _⟩
  · simp [Value.ownBlock] at e
  · simp [Value.ownBlock] at e
    subst e
    exact ⟨h1, h4.lt⟩
theorem OwnC.other {N : Nat} {v : Value} {a : Option Addr} {l : List (Int × Int)} {w w' : World} (h : OwnC N v l w) (hs : Spared a w w') (hb : ∀ b off, a = Option.some ⟨b, off, none⟩ → v.ownBlock ≠ Option.some b) : OwnC N v l w' := by
  rcases h with h | ⟨g, c, M, f, e, h1, h2, h3, hM, ⟨cc, k1, k2, k3⟩, h5⟩
  · exact .inl h
  · refine .inr ⟨g, c, M, f, e, h1, h2, h3, hM, ⟨cc, (hs.block g (heap_lt k1) (fun b off e' => fun eb => hb b off e' (by rw [e, eb]; rfl))).trans k1, k2, k3⟩, h5⟩
theorem OwnV.other {N : Nat} {v : Value} {a : Option Addr} {vs : List Value} {w w' : World} (h : OwnV N v vs w) (hs : Spared a w w') (hb : ∀ b off, a = Option.some ⟨b, off, none⟩ → v.ownBlock ≠ Option.some b) : OwnV N v vs w' := by
  rcases h with h | ⟨g, cap, cur, e, h1, h2, h3⟩
  · exact .inl h
  · exact .inr ⟨g, cap, cur, e, h1, (hs.block g (heap_lt h2) (fun b off e' => fun eb => hb b off e' (by rw [e, eb]; rfl))).trans h2, h3⟩
theorem OwnSS.at {N n cap : Nat} {a : Option Addr} {L : List (List (Int × Int))} {vs : List Value} {w : World} (h : OwnSS N (.slice a n cap) L vs w) : AtSS w.heap.size a L w := fun i hi => by
  have hi' : i < vs.length := by rw [h.len]; exact hi
  obtain ⟨g, e, h1, h2, h3⟩ := h.out.cell hi'
  obtain ⟨ai, ci, e2⟩ := (h.inn i hi').shape
  refine ⟨g, 0, ai, ci, e, h2, ?_, ?_⟩
  · rw [Nat.zero_add, h3, e2]
  · have := h.inn i hi'
    rw [e2] at this
    exact this.at
end Go.Proofs.YtegmlemejmahiaaGreatDoor
namespace Go.Proofs.YtegmlemejmahiaaGreatDoor
open Go.RowKit
set_option linter.unusedVariables false
set_option maxRecDepth 8000
/-- n triangles with the marks from k on. -/
def mk3 (n : Nat) (k : Int) : List (List (Int × Int)) := (List.range n).map fun (j : Nat) => marks 3 (k + 6 * (j : Int))
/-- The first i of n triangles are marked. -/
def upd (L : List (List (Int × Int))) (k : Int) (i : Nat) : List (List (Int × Int)) := (List.range L.length).map fun (j : Nat) => if j < i then marks 3 (k + 6 * (j : Int)) else nth L j
theorem mk3_len (n : Nat) (k : Int) : (mk3 n k).length = n := by simp [mk3]
theorem upd_len (L : List (List (Int × Int))) (k : Int) (i : Nat) : (upd L k i).length = L.length := by simp [upd]
theorem nth_mk3 {n j : Nat} (k : Int) (h : j < n) : nth (mk3 n k) j = marks 3 (k + 6 * (j : Int)) := by simp [nth, mk3, h]
theorem nth_upd {L : List (List (Int × Int))} {j : Nat} (k : Int) (i : Nat) (h : j < L.length) : nth (upd L k i) j = if j < i then marks 3 (k + 6 * (j : Int)) else nth L j := by simp [nth, upd, h]
theorem upd_zero (L : List (List (Int × Int))) (k : Int) : upd L k 0 = L := by
  refine List.ext_getElem (upd_len L k 0) fun i h1 h2 => ?_
  simp [upd, nth, h2]
theorem upd_all (L : List (List (Int × Int))) (k : Int) : upd L k L.length = mk3 L.length k := by
  refine List.ext_getElem (by rw [upd_len, mk3_len]) fun i h1 h2 => ?_
  rw [upd_len] at h1
  simp [upd, mk3, h1]
theorem OwnSS.marked {N : Nat} {v : Value} {L : List (List (Int × Int))} {vs : List Value} {w w' : World} {k : Int} {i : Nat} {ai : Option Addr} {n ci : Nat} (h : OwnSS N v (upd L k i) vs w) (hi : i < vs.length) (e : vs[i] = .slice ai n ci) (hO : OwnC N (.slice ai n ci) (marks 3 (k + 6 * (i : Int))) w') (hs : Spared ai w w') :
    OwnSS N v (upd L k (i + 1)) vs w' := by
  have hlen : vs.length = L.length := by rw [h.len, upd_len]
  have hblk : ∀ b off, ai = Option.some ⟨b, off, none⟩ → vs[i].ownBlock = Option.some b := by
    intro b off e'; rw [e, e']; rfl
  refine ⟨h.out.other hs fun b off e' eb => ?_, by rw [hlen, upd_len], fun j hj => ?_, h.apart, h.far⟩
  · rcases h.far i hi with h1 | h1
    · rw [hblk b off e'] at h1; cases h1
    · exact h1 (by rw [hblk b off e', eb])
  · rw [nth_upd k (i + 1) (by omega)]
    by_cases hji : j = i
    · subst hji
      rw [if_pos (by omega), e]
      exact hO
    · have h2 := h.inn j hj
      rw [nth_upd k i (by omega)] at h2
      have h3 := h2.other hs (fun b off e' eb => by
        rcases h.apart i j hi hj (fun x => hji x.symm) with h1 | h1
        · rw [hblk b off e'] at h1; cases h1
        · exact h1 (by rw [hblk b off e', eb]))
      by_cases hlt : j < i
      · rw [if_pos hlt] at h3
        rw [if_pos (by omega)]
        exact h3
      · rw [if_neg hlt] at h3
        rw [if_neg (by omega)]
        exact h3
end Go.Proofs.YtegmlemejmahiaaGreatDoor
