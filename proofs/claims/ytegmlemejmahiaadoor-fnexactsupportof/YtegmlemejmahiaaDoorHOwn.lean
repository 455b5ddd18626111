/-
  Lists of points that a call has made, cut behind their length: what is owned, marked, appended to (contracts for the walks).
  Conditions: as each theorem states them.
-/
import Derived.Test.YtegmlemejmahiaaDoorSet16
import Derived.Test.YtegmlemejmahiaaDoorHSide
namespace Go.Proofs.YtegmlemejmahiaaDoor
open Go.RowKit
set_option linter.unusedVariables false
/-- The slice v, made at block N or later, holds the points of l at its head; its room may be cut. -/
def OwnC (N : Nat) (v : Value) (l : List (Int × Int)) (w : World) : Prop :=
  (l = [] ∧ v = .slice none 0 0) ∨ ∃ (g cap M : Nat) (f : Nat → Value), v = .slice (some ⟨g, 0, none⟩) l.length cap ∧ N ≤ g ∧ l.length ≤ cap ∧ cap ≤ maxLen ∧ cap * 2 ≤ M ∧ w.rowIs g 26 M f ∧ ∀ i, i < l.length * 2 → f i = cel l i
theorem Own.cut {N : Nat} {v : Value} {l : List (Int × Int)} {w : World} (h : Own N v l w) : OwnC N v l w := by
  rcases h with h | ⟨g, c, f, e, h1, h2, h3, h4, h5⟩
  · exact .inl h
  · exact .inr ⟨g, c, c * 2, f, e, h1, h2, h3, Nat.le_refl _, h4, h5⟩
theorem OwnC.at {N n cap : Nat} {a : Option Addr} {l : List (Int × Int)} {w : World} (h : OwnC N (.slice a n cap) l w) : At w.heap.size a l w := by
  rcases h with ⟨rfl, e⟩ | ⟨g, c, M, f, e, h1, h2, h3, hM, h4, h5⟩
  · exact fun i hi => absurd hi (Nat.not_lt_zero _)
  · simp at e
    obtain ⟨rfl, rfl, rfl⟩ := e
    intro i hi
    have q0 := h4.cell (i := i * 2) (by omega)
    have q1 := h4.cell (i := i * 2 + 1) (by omega)
    rw [h5 _ (by omega), cel0] at q0
    rw [h5 _ (by omega), cel1] at q1
    exact ⟨g, 0, rfl, h4.lt, by rw [Nat.zero_add]; exact q0, by rw [Nat.zero_add]; exact q1⟩
theorem OwnC.len {N n cap : Nat} {a : Option Addr} {l : List (Int × Int)} {w : World} (h : OwnC N (.slice a n cap) l w) : l.length = n := by
  rcases h with ⟨rfl, e⟩ | ⟨g, c, M, f, e, _⟩
  · simp at e; simp [e.2.1]
  · simp at e; exact e.2.1.symm
theorem OwnC.shape {N : Nat} {v : Value} {l : List (Int × Int)} {w : World} (h : OwnC N v l w) : ∃ a cap, v = .slice a l.length cap := by
  rcases h with ⟨rfl, e⟩ | ⟨g, c, M, f, e, _⟩
  · exact ⟨none, 0, e⟩
  · exact ⟨_, _, e⟩
theorem OwnC.fit {N n cap : Nat} {a : Option Addr} {l : List (Int × Int)} {w : World} (h : OwnC N (.slice a n cap) l w) : Fit a n cap := by
  rcases h with ⟨rfl, e⟩ | ⟨g, c, M, f, e, h1, h2, h3, _⟩
  · simp at e; exact .inl ⟨e.1, e.2.2, e.2.1⟩
  · simp at e
    obtain ⟨rfl, rfl, rfl⟩ := e
    exact .inr ⟨⟨_, _, rfl⟩, h2, h3⟩
theorem OwnC.ge {N n cap : Nat} {a : Option Addr} {l : List (Int × Int)} {w : World} (h : OwnC N (.slice a n cap) l w) : ∀ b off, a = some ⟨b, off, none⟩ → N ≤ b := by
  rcases h with ⟨rfl, e⟩ | ⟨g, c, M, f, e, h1, _⟩
  · simp at e; intro b off hb; rw [e.1] at hb; cases hb
  · simp at e; intro b off hb; rw [e.1] at hb; cases hb; exact h1
theorem OwnC.later {N : Nat} {v : Value} {l : List (Int × Int)} {w w' : World} (h : OwnC N v l w) (hb : Below w.heap.size w w') : OwnC N v l w' := by
  rcases h with h | ⟨g, c, M, f, e, h1, h2, h3, hM, h4, h5⟩
  · exact .inl h
  · exact .inr ⟨g, c, M, f, e, h1, h2, h3, hM, rowIs_later h4 hb h4.lt, h5⟩
theorem OwnC.mono {N K : Nat} {v : Value} {l : List (Int × Int)} {w : World} (h : OwnC N v l w) (hM : K ≤ N) : OwnC K v l w := by
  rcases h with h | ⟨g, c, M, f, e, h1, h2⟩
  · exact .inl h
  · exact .inr ⟨g, c, M, f, e, by omega, h2⟩
theorem OwnC.spared {N : Nat} {v : Value} {a : Option Addr} {l : List (Int × Int)} {w w' : World} (h : OwnC N v l w) (hs : Spared a w w') (hb : ∀ b off, a = some ⟨b, off, none⟩ → b < N) : OwnC N v l w' := by
  rcases h with h | ⟨g, c, M, f, e, h1, h2, h3, hM, ⟨cc, k1, k2, k3⟩, h5⟩
  · exact .inl h
  · have hlt : g < w.heap.size := by
      by_cases hg : g < w.heap.size
      · exact hg
      · rw [Array.getElem?_eq_none (by omega)] at k1; cases k1
    exact .inr ⟨g, c, M, f, e, h1, h2, h3, hM, ⟨cc, (hs.block g hlt (fun b off e' => by have := hb b off e'; omega)).trans k1, k2, k3⟩, h5⟩
theorem OwnC.nil (N : Nat) (w : World) : OwnC N (.slice none 0 0) [] w := .inl ⟨rfl, rfl⟩
/-- Cut behind its n-th point. -/
theorem OwnC.take {N n cap c : Nat} {a : Option Addr} {l : List (Int × Int)} {w : World} (h : OwnC N (.slice a n cap) l w) {k : Nat} (hk : k ≤ n) (hkc : k ≤ c) (hc : c ≤ cap) : OwnC N (.slice a k c) (l.take k) w := by
  have hl := h.len
  rcases h with ⟨rfl, e⟩ | ⟨g, cc, M, f, e, h1, h2, h3, hM, h4, h5⟩
  · simp at e
    obtain ⟨rfl, rfl, rfl⟩ := e
    obtain rfl : k = 0 := by omega
    obtain rfl : c = 0 := by omega
    exact .inl ⟨rfl, rfl⟩
  · simp at e
    obtain ⟨rfl, rfl, rfl⟩ := e
    have ht : (l.take k).length = k := by rw [List.length_take]; omega
    refine .inr ⟨g, c, M, f, by rw [ht], h1, by omega, by omega, by omega, h4, fun i hi => ?_⟩
    rw [ht] at hi
    rw [h5 i (by omega)]
    have hi2 : i / 2 < k := by omega
    unfold cel px py
    simp only [List.getD_eq_getElem?_getD, List.getElem?_take, if_pos hi2]
/-- The same, whole: for the laws on rows. -/
theorem OwnC.rows {N : Nat} {v : Value} {l : List (Int × Int)} {w : World} (h : OwnC N v l w) : (l = [] ∧ v = .slice none 0 0) ∨ ∃ (g cap : Nat) (cur : Array Value), v = .slice (some ⟨g, 0, none⟩) l.length cap ∧ N ≤ g ∧ w.heap[g]? = some (.cells cur 26 (0, 0)) ∧ l.length ≤ cap ∧ cap ≤ maxLen ∧ cap * 2 ≤ cur.size ∧ cur.toList.take (l.length * 2) = cells l := by
  rcases h with h | ⟨g, c, M, f, e, h1, h2, h3, hM, ⟨cc, k1, k2, k3⟩, h5⟩
  · exact .inl h
  · refine .inr ⟨g, c, cc, e, h1, k1, h2, h3, by omega, ?_⟩
    refine List.ext_getElem? fun i => ?_
    by_cases hi : i < l.length * 2
    · rw [List.getElem?_take, if_pos hi, Array.getElem?_toList, k3 i (by omega), h5 i hi, cells_get l i hi]
    · rw [List.getElem?_eq_none (by simp; omega), List.getElem?_eq_none (by rw [cells_len]; omega)]
theorem ownC_of {N : Nat} {l : List (Int × Int)} {w : World} {g cap : Nat} {cur : Array Value} (h1 : N ≤ g) (h2 : w.heap[g]? = some (.cells cur 26 (0, 0))) (h3 : l.length ≤ cap) (h4 : cap ≤ maxLen) (h5 : cap * 2 ≤ cur.size) (h6 : cur.toList.take (l.length * 2) = cells l) : OwnC N (.slice (some ⟨g, 0, none⟩) l.length cap) l w := by
  refine .inr ⟨g, cap, cur.size, fun i => (cur[i]?).getD undef, rfl, h1, h3, h4, h5, ⟨cur, h2, rfl, fun i hi => ?_⟩, fun i hi => ?_⟩
  · show cur[i]? = some ((cur[i]?).getD undef)
    rw [Array.getElem?_eq_getElem (by omega)]; rfl
  · have h := cells_get l i hi
    rw [← h6, List.getElem?_take, if_pos hi, Array.getElem?_toList] at h
    show (cur[i]?).getD undef = cel l i
    rw [h]; rfl
/-- How far a row is marked. -/
structure MarkC (g M : Nat) (k : Int) (j : Nat) (w wr : World) : Prop where
  spared : Spared (some ⟨g, 0, none⟩) w wr
  row : ∃ f, wr.rowIs g 26 M f ∧ ∀ i, i < j * 2 → f i = .int .i64 (k + i)
theorem MarkC.cell {g M : Nat} {k : Int} {j : Nat} {w wr : World} (h : MarkC g M k j w wr) {i : Nat} (hi : i < M) : ∃ v, wr.cell? ⟨g, i, none⟩ = some v := by
  obtain ⟨f, hf, _⟩ := h.row
  exact ⟨_, hf.cell hi⟩
theorem MarkC.frozen {g M : Nat} {k : Int} {j : Nat} {w wr : World} (h : MarkC g M k j w wr) (i : Nat) : wr.frozen? ⟨g, i, none⟩ = false := by
  obtain ⟨f, hf, _⟩ := h.row
  exact hf.frozen i
theorem MarkC.step {g M : Nat} {k x y : Int} {j : Nat} {w wr : World} (h : MarkC g M k j w wr) (hx : x = k + 2 * (j : Int)) (hy : y = k + 2 * (j : Int) + 1) :
    MarkC g M k (j + 1) w ((wr.setCell ⟨g, j * 2, none⟩ (.int .i64 x)).setCell ⟨g, j * 2 + 1, none⟩ (.int .i64 y)) := by
  obtain ⟨f, hf, he⟩ := h.row
  refine ⟨(h.spared.setCell _ _).setCell _ _, _, (hf.set (j * 2) _).set (j * 2 + 1) _, fun i hi => ?_⟩
  by_cases e1 : i = j * 2 + 1
  · subst e1; rw [if_pos rfl, hy]; congr 1; omega
  · by_cases e0 : i = j * 2
    · subst e0; rw [if_neg e1, if_pos rfl, hx]; congr 1; omega
    · rw [if_neg e1, if_neg e0]; exact he i (by omega)
theorem markC_own {N : Nat} {g cap M : Nat} {k : Int} {n : Nat} {w wr : World} (h : MarkC g M k n w wr) (hN : N ≤ g) (hn : n ≤ cap) (hm : cap ≤ maxLen) (hM : cap * 2 ≤ M) : OwnC N (.slice (some ⟨g, 0, none⟩) n cap) (marks n k) wr := by
  obtain ⟨f, hf, he⟩ := h.row
  refine .inr ⟨g, cap, M, f, by rw [marks_len], hN, by rw [marks_len]; exact hn, hm, hM, hf, fun i hi => ?_⟩
  rw [marks_len] at hi
  rw [he i hi, cel_marks k hi]
set_option maxHeartbeats 4000000 in
theorem markC_c (l : List (Int × Int)) (N : Nat) (a : Option Addr) (n cap : Nat) (k : Int) (w : World) (h0 : 0 ≤ k) (h1 : k ≤ 1073741824) (h2 : n ≤ 1048576) (hO : OwnC N (.slice a n cap) l w) :
    Calls Tryd.prog 24 #[.slice a n cap, .int .i64 k] w fun e w' => e = .returned (.int .i64 (k + 2 * (n : Int))) ∧ OwnC N (.slice a n cap) (marks n k) w' ∧ Spared a w w' := by
  rcases hO with ⟨rfl, e⟩ | ⟨g, c, M, f, e, g1, g2, g3, gM, g4, g5⟩
  · simp at e
    obtain ⟨rfl, rfl, rfl⟩ := e
    go_enter Tryd.func24, Tryd.ntmps24
    go_wp2
    refine wp_loop_rounds 1 ?_
    rw [rounds_succ]
    go_wp2
    go_ret
    exact ⟨by first | rfl | simp, .inl ⟨rfl, rfl⟩, Spared.refl _ _⟩
  · simp at e
    obtain ⟨rfl, rfl, rfl⟩ := e
    have hM : MarkC g M k 0 w w := ⟨Spared.refl _ _, f, g4, fun i hi => absurd hi (by omega)⟩
    have hlc := g2
    have hlM := gM
    have HG := hid (⟨g1, g2, g3, gM⟩ : N ≤ g ∧ l.length ≤ cap ∧ cap ≤ maxLen ∧ cap * 2 ≤ M)
    obtain ⟨n, hn⟩ : ∃ n, l.length = n := ⟨_, rfl⟩
    rw [hn] at h2 hlc HG ⊢
    clear g1 g2 g3 g4 g5 gM hn
    go_enter Tryd.func24, Tryd.ntmps24
    go_wp2
    go_loopw [1, 5] (fun q i wr => ∃ j : Nat, j ≤ n ∧ i = .int .i64 j ∧ q = .int .i64 (k + 2 * (j : Int)) ∧ MarkC g M k j w wr) (fun q i _ => n - (intOf i).toNat)
    case atStart => exact ⟨0, Nat.zero_le _, rfl, by simp, hM⟩
    case round =>
      obtain ⟨j, hj, rfl, rfl, hC⟩ := hrel
      have HC := hid hC
      clear hC
      by_cases hjn : j < n
      · obtain ⟨v0, q0⟩ := HC.out.cell (i := j * 2) (by omega)
        obtain ⟨v1, q1⟩ := HC.out.cell (i := j * 2 + 1) (by omega)
        have f0 := HC.out.frozen (j * 2)
        have f1 := HC.out.frozen (j * 2 + 1)
        go_wp2
        go_roundw
        case rel => exact ⟨j + 1, by omega, by go_num, by first | go_num | (congr 1; omega), HC.out.step rfl (by omega)⟩
        case measure => simp [intOf]; omega
      · obtain rfl : j = n := by omega
        go_wp2
        go_ret
        exact ⟨rfl, markC_own HC.out HG.out.1 HG.out.2.1 HG.out.2.2.1 HG.out.2.2.2, HC.out.spared⟩
/-- Points laid behind a list that is owned, and maybe cut: in place, or in new memory. -/
theorem run_append_cut {P : Program} {w : World} {N : Nat} {t ty : TypeId} {i : TypeInfo} {z : Value} (ht : P.underlying t = some (.slice 26)) (hi : P.info? 26 = some i) (hz : i.zero = some z) (hz1 : i.size = 2) (hz2 : i.bytes = 16) (hz3 : z.cells.size = 2)
    {v : Value} {l m : List (Int × Int)} (hown : OwnC N v l w) (ad : Addr) (c : Nat) (hnews : ∀ j u, (cells m)[j]? = some u → w.cell? (ad.add j) = some u)
    (hm : 0 < m.length) (hlen : l.length + m.length ≤ 1048576) (hbase : N ≤ w.heap.size) :
    ∃ g cap w', (Builtin.append_ #[t, t] ty #[v, .slice (some ad) m.length c]).run P w = .ok (.slice (some ⟨g, 0, none⟩) (l.length + m.length) cap) w' ∧
      OwnC N (.slice (some ⟨g, 0, none⟩) (l.length + m.length) cap) (l ++ m) w' ∧ w.grownBy w' v.ownBlock ∧ (v.ownBlock = some g ∨ g = w.heap.size) := by
  have hle : (l ++ m).length = l.length + m.length := List.length_append
  have hcl : (cells m).length = m.length * 2 := cells_len m
  have grown : ∀ (old : Nat), old < l.length + m.length → ∀ (row : Option Nat),
      OwnC N (.slice (some ⟨w.heap.size, 0, none⟩) (l.length + m.length) (grownCap w (l.length + m.length) old 26)) (l ++ m) (w.drew.alloc (.cells ((cells l).toArray ++ (cells m).toArray ++ Builtin.zeroCells z.cells (grownCap w (l.length + m.length) old 26 - (l.length + m.length))) 26)) ∧
      w.grownBy (w.drew.alloc (.cells ((cells l).toArray ++ (cells m).toArray ++ Builtin.zeroCells z.cells (grownCap w (l.length + m.length) old 26 - (l.length + m.length))) 26)) row := by
    intro old ho row
    have hge := grownCap_ge w (l.length + m.length) old 26
    have hcm : grownCap w (l.length + m.length) old 26 ≤ maxLen := grownCap_le_maxLen w (l.length + m.length) old 26 (by unfold maxLen; omega)
    refine ⟨?_, ⟨rfl, rfl, rfl, by simp, fun k hk _ => _root_.Go.heap_alloc_old w.drew _ hk⟩⟩
    rw [← hle]
    refine ownC_of hbase (heap_alloc_new w.drew _) (by rw [hle]; exact hge) (by rw [hle]; exact hcm) ?_ ?_
    · simp only [Array.size_append, List.size_toArray, size_zeroCells, hz3, cells_len, hle]
      omega
    · simp only [Array.toList_append, List.append_assoc]
      rw [← List.append_assoc, ← cells_append, ← cells_len (l ++ m)]
      exact List.take_left
  rcases hown.rows with ⟨rfl, rfl⟩ | ⟨g, cap, cur, rfl, hbg, hg, hnc, hcm, hcs, htake⟩
  · have hr := run_append_nil (P := P) w t ty 26 i z ht hi hz ad m.length c (cells m) (by rw [hcl, hz1]) hnews (by omega) (by simp at hlen; omega) (by rw [hz2]; simp at hlen; omega)
    have hgr := grown 0 (by simp; omega) (Value.ownBlock (.slice none 0 0))
    simp only [List.length_nil, Nat.zero_add, List.nil_append, show cells [] = [] from rfl, Array.empty_append] at hgr ⊢
    exact ⟨_, _, _, hr, hgr.1, hgr.2, .inr rfl⟩
  · by_cases hroom : l.length + m.length ≤ cap
    · have hr := run_append_room (P := P) w t ty 26 i ht hi g l.length cap cur hg ad m.length c (cells m) (by rw [hcl, hz1]) hnews (cells_ones m) hroom (by rw [hz1, hcl]; omega)
      rw [hz1] at hr
      refine ⟨g, cap, _, hr, ?_, ⟨rfl, rfl, rfl, by simp, fun k _ hk => setRow_other w g k _ (fun e => hk (by simp [Value.ownBlock, e]))⟩, .inl rfl⟩
      rw [← hle]
      refine ownC_of hbg (setRow_heap w g cur _ _ _ hg) (by rw [hle]; exact hroom) hcm ?_ ?_
      · simp only [List.size_toArray, List.length_append, List.length_take, List.length_drop, Array.length_toList, hcl]
        omega
      · rw [htake, ← cells_append, ← cells_len (l ++ m)]
        exact List.take_left
    · have holds : ∀ j u, (cells l)[j]? = some u → w.cell? ((⟨g, 0, none⟩ : Addr).add j) = some u := by
        intro j u hu
        rw [Go.WideShapes.add_plain, Nat.zero_add, cell_of_row w g j cur 26 (0, 0) hg]
        rw [← htake, List.getElem?_take] at hu
        split at hu
        · simpa using hu
        · cases hu
      have hr := run_append_grow (P := P) w t ty 26 i z ht hi hz ⟨g, 0, none⟩ l.length cap (cells l) (by rw [cells_len, hz1]) holds ad m.length c (cells m) (by rw [hcl, hz1]) hnews (by omega) (by omega) (growslice_fits (by omega) (by rw [hz2]; omega))
      have hgr := grown cap (by omega) (Value.ownBlock (.slice (some ⟨g, 0, none⟩) l.length cap))
      exact ⟨_, _, _, hr, hgr.1, hgr.2, .inr rfl⟩
/-- At the operation. -/
theorem wp_append_cut {P : Program} {w : World} {o : Oper} {a : Act} {K : Act → World → Prop} {Q : Exit → Act → World → Prop} (s x : Operand) (t : TypeId) (ho : o.op = .call { callee := .builtin .append, args := #[s, x], argTypes := #[t, t] })
    (N : Nat) {i : TypeInfo} {z : Value} (ht : P.underlying t = some (.slice 26)) (hi : P.info? 26 = some i) (hz : i.zero = some z) (hz1 : i.size = 2) (hz2 : i.bytes = 16) (hz3 : z.cells.size = 2)
    (v : Value) (l m : List (Int × Int)) (hs : a.eval s = v) (hown : OwnC N v l w) (ad : Addr) (n c : Nat) (hx : a.eval x = .slice (some ad) n c) (hn : m.length = n) (hnews : ∀ j u, (cells m)[j]? = some u → w.cell? (ad.add j) = some u)
    (hm : 0 < m.length) (hlen : l.length + m.length ≤ 1048576) (hbase : N ≤ w.heap.size)
    (h : ∀ g cap w', OwnC N (.slice (some ⟨g, 0, none⟩) (l.length + m.length) cap) (l ++ m) w' → w.grownBy w' v.ownBlock → (v.ownBlock = some g ∨ g = w.heap.size) → K (a.put o.dst (.slice (some ⟨g, 0, none⟩) (l.length + m.length) cap)) w') : o.wp P a w K Q := by
  subst hn
  obtain ⟨g, cap, w', hr, h2, h3, h4⟩ := run_append_cut (P := P) (t := t) (ty := o.type) ht hi hz hz1 hz2 hz3 hown ad c hnews hm hlen hbase
  unfold Oper.wp execOp
  simp only [ho, resolve, invoke, builtin, Sem.run_bind, Sem.run_pure, Result.andThen_ok, List.map_toArray, List.map_cons, List.map_nil, hs, hx, hr]
  exact h g cap w' h2 h3 h4
theorem wpList_append_cut {P : Program} {w : World} {ops : Array Oper} {rest : List Oper} {o : Oper} {a : Act} {Q : Exit → Act → World → Prop} (hgd : o.guard = none) (s x : Operand) (t : TypeId) (ho : o.op = .call { callee := .builtin .append, args := #[s, x], argTypes := #[t, t] })
    (N : Nat) {i : TypeInfo} {z : Value} (ht : P.underlying t = some (.slice 26)) (hi : P.info? 26 = some i) (hz : i.zero = some z) (hz1 : i.size = 2) (hz2 : i.bytes = 16) (hz3 : z.cells.size = 2)
    (v : Value) (l m : List (Int × Int)) (hs : a.eval s = v) (hown : OwnC N v l w) (ad : Addr) (n c : Nat) (hx : a.eval x = .slice (some ad) n c) (hn : m.length = n) (hnews : ∀ j u, (cells m)[j]? = some u → w.cell? (ad.add j) = some u)
    (hm : 0 < m.length) (hlen : l.length + m.length ≤ 1048576) (hbase : N ≤ w.heap.size)
    (h : ∀ g cap w', OwnC N (.slice (some ⟨g, 0, none⟩) (l.length + m.length) cap) (l ++ m) w' → w.grownBy w' v.ownBlock → (v.ownBlock = some g ∨ g = w.heap.size) → wpList P ops Q rest (a.put o.dst (.slice (some ⟨g, 0, none⟩) (l.length + m.length) cap)) w') : wpList P ops Q (o :: rest) a w :=
  wpList_plain hgd fun _ hK => wp_append_cut s x t ho N ht hi hz hz1 hz2 hz3 v l m hs hown ad n c hx hn hnews hm hlen hbase fun g cap w' h2 h3 h4 => hK _ _ (h g cap w' h2 h3 h4)
/-- What an append leaves. -/
theorem OwnC.grownBelow {N : Nat} {v : Value} {l : List (Int × Int)} {w w' : World} (ho : OwnC N v l w) (hg : w.grownBy w' v.ownBlock) (hN : N ≤ w.heap.size) : Below N w w' :=
  (Below.refl _ _).grown hg hN (fun k hk => by
    rcases ho with ⟨rfl, rfl⟩ | ⟨g, c, M, f, rfl, h1, _⟩
    · simp [Value.ownBlock] at hk
    · simp [Value.ownBlock] at hk; omega)
end Go.Proofs.YtegmlemejmahiaaDoor
