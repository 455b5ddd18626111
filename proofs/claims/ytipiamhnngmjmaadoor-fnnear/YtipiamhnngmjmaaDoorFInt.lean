/-
  Lists of numbers that a call has made: what is owned, appended, compared, marked and held (contracts for the walks).
  Conditions: as each theorem states them.
-/
import Derived.Test.YtipiamhnngmjmaaDoorB2
namespace Go.Proofs.YtipiamhnngmjmaaDoor
open Go.RowKit
set_option linter.unusedVariables false
theorem info_int : (Tryd.prog.info? 3).map (fun i => (i.zero, i.size, i.bytes)) = some (some (.int .i64 0), 1, 8) := by kernel_rfl
/-- The k-th number. -/
def ix (l : List Int) (k : Nat) : Int := l.getD k 0
def vals (l : List Int) : List Value := l.map (fun x => .int .i64 x)
theorem vals_len (l : List Int) : (vals l).length = l.length := by unfold vals; rw [List.length_map]
theorem vals_get {l : List Int} {i : Nat} (h : i < l.length) : (vals l)[i]? = some (.int .i64 (ix l i)) := by
  unfold vals ix
  rw [List.getElem?_map, List.getElem?_eq_getElem h, List.getD_eq_getElem?_getD, List.getElem?_eq_getElem h]; rfl
theorem vals_append (l m : List Int) : vals (l ++ m) = vals l ++ vals m := by unfold vals; rw [List.map_append]
/-- The slice v, made at block N or later, holds the numbers of l at its head. -/
def OwnI (N : Nat) (v : Value) (l : List Int) (w : World) : Prop :=
  (l = [] ∧ v = .slice none 0 0) ∨ ∃ (g cap M : Nat) (f : Nat → Value), v = .slice (some ⟨g, 0, none⟩) l.length cap ∧ N ≤ g ∧ l.length ≤ cap ∧ cap ≤ maxLen ∧ cap ≤ M ∧ w.rowIs g 3 M f ∧ ∀ i, i < l.length → f i = .int .i64 (ix l i)
/-- The numbers of l lie below block N, from a on. -/
def AtI (N : Nat) (a : Option Addr) (l : List Int) (w : World) : Prop := ∀ i, i < l.length → ∃ b off, a = some ⟨b, off, none⟩ ∧ b < N ∧ w.cell? ⟨b, off + i, none⟩ = some (.int .i64 (ix l i))
theorem AtI.later {N : Nat} {a : Option Addr} {l : List Int} {w w' : World} (h : AtI N a l w) (hb : Below N w w') : AtI N a l w' := fun i hi => by
  obtain ⟨b, off, e, h1, h2⟩ := h i hi
  exact ⟨b, off, e, h1, (hb.cell (p := ⟨b, off + i, none⟩) h1).trans h2⟩
theorem AtI.mono {N K : Nat} {a : Option Addr} {l : List Int} {w : World} (h : AtI N a l w) (hK : N ≤ K) : AtI K a l w := fun i hi => by
  obtain ⟨b, off, e, h1, h2⟩ := h i hi
  exact ⟨b, off, e, by omega, h2⟩
theorem OwnI.at {N n cap : Nat} {a : Option Addr} {l : List Int} {w : World} (h : OwnI N (.slice a n cap) l w) : AtI w.heap.size a l w := by
  rcases h with ⟨rfl, e⟩ | ⟨g, c, M, f, e, h1, h2, h3, hM, h4, h5⟩
  · exact fun i hi => absurd hi (Nat.not_lt_zero _)
  · simp at e
    obtain ⟨rfl, rfl, rfl⟩ := e
    intro i hi
    have q0 := h4.cell (i := i) (by omega)
    rw [h5 _ hi] at q0
    exact ⟨g, 0, rfl, h4.lt, by rw [Nat.zero_add]; exact q0⟩
theorem OwnI.len {N n cap : Nat} {a : Option Addr} {l : List Int} {w : World} (h : OwnI N (.slice a n cap) l w) : l.length = n := by
  rcases h with ⟨rfl, e⟩ | ⟨g, c, M, f, e, _⟩
  · simp at e; simp [e.2.1]
  · simp at e; exact e.2.1.symm
theorem OwnI.shape {N : Nat} {v : Value} {l : List Int} {w : World} (h : OwnI N v l w) : ∃ a cap, v = .slice a l.length cap := by
  rcases h with ⟨rfl, e⟩ | ⟨g, c, M, f, e, _⟩
  · exact ⟨none, 0, e⟩
  · exact ⟨_, _, e⟩
theorem OwnI.ge {N n cap : Nat} {a : Option Addr} {l : List Int} {w : World} (h : OwnI N (.slice a n cap) l w) : ∀ b off, a = some ⟨b, off, none⟩ → N ≤ b := by
  rcases h with ⟨rfl, e⟩ | ⟨g, c, M, f, e, h1, _⟩
  · simp at e; intro b off hb; rw [e.1] at hb; cases hb
  · simp at e; intro b off hb; rw [e.1] at hb; cases hb; exact h1
theorem OwnI.later {N : Nat} {v : Value} {l : List Int} {w w' : World} (h : OwnI N v l w) (hb : Below w.heap.size w w') : OwnI N v l w' := by
  rcases h with h | ⟨g, c, M, f, e, h1, h2, h3, hM, h4, h5⟩
  · exact .inl h
  · exact .inr ⟨g, c, M, f, e, h1, h2, h3, hM, rowIs_later h4 hb h4.lt, h5⟩
theorem OwnI.mono {N K : Nat} {v : Value} {l : List Int} {w : World} (h : OwnI N v l w) (hM : K ≤ N) : OwnI K v l w := by
  rcases h with h | ⟨g, c, M, f, e, h1, h2⟩
  · exact .inl h
  · exact .inr ⟨g, c, M, f, e, by omega, h2⟩
theorem OwnI.spared {N : Nat} {v : Value} {a : Option Addr} {l : List Int} {w w' : World} (h : OwnI N v l w) (hs : Spared a w w') (hb : ∀ b off, a = some ⟨b, off, none⟩ → b < N) : OwnI N v l w' := by
  rcases h with h | ⟨g, c, M, f, e, h1, h2, h3, hM, ⟨cc, k1, k2, k3⟩, h5⟩
  · exact .inl h
  · have hlt : g < w.heap.size := by
      by_cases hg : g < w.heap.size
      · exact hg
      · rw [Array.getElem?_eq_none (by omega)] at k1; cases k1
    exact .inr ⟨g, c, M, f, e, h1, h2, h3, hM, ⟨cc, (hs.block g hlt (fun b off e' => by have := hb b off e'; omega)).trans k1, k2, k3⟩, h5⟩
theorem OwnI.nil (N : Nat) (w : World) : OwnI N (.slice none 0 0) [] w := .inl ⟨rfl, rfl⟩
theorem OwnI.rows {N : Nat} {v : Value} {l : List Int} {w : World} (h : OwnI N v l w) : (l = [] ∧ v = .slice none 0 0) ∨ ∃ (g cap : Nat) (cur : Array Value), v = .slice (some ⟨g, 0, none⟩) l.length cap ∧ N ≤ g ∧ w.heap[g]? = some (.cells cur 3 (0, 0)) ∧ l.length ≤ cap ∧ cap ≤ maxLen ∧ cap ≤ cur.size ∧ cur.toList.take l.length = vals l := by
  rcases h with h | ⟨g, c, M, f, e, h1, h2, h3, hM, ⟨cc, k1, k2, k3⟩, h5⟩
  · exact .inl h
  · refine .inr ⟨g, c, cc, e, h1, k1, h2, h3, by omega, ?_⟩
    refine List.ext_getElem? fun i => ?_
    by_cases hi : i < l.length
    · rw [List.getElem?_take, if_pos hi, Array.getElem?_toList, k3 i (by omega), h5 i hi, vals_get hi]
    · rw [List.getElem?_eq_none (by simp; omega), List.getElem?_eq_none (by rw [vals_len]; omega)]
theorem ownI_of {N : Nat} {l : List Int} {w : World} {g cap : Nat} {cur : Array Value} (h1 : N ≤ g) (h2 : w.heap[g]? = some (.cells cur 3 (0, 0))) (h3 : l.length ≤ cap) (h4 : cap ≤ maxLen) (h5 : cap ≤ cur.size) (h6 : cur.toList.take l.length = vals l) : OwnI N (.slice (some ⟨g, 0, none⟩) l.length cap) l w := by
  refine .inr ⟨g, cap, cur.size, fun i => (cur[i]?).getD undef, rfl, h1, h3, h4, h5, ⟨cur, h2, rfl, fun i hi => ?_⟩, fun i hi => ?_⟩
  · show cur[i]? = some ((cur[i]?).getD undef)
    rw [Array.getElem?_eq_getElem (by omega)]; rfl
  · have h := vals_get (l := l) hi
    rw [← h6, List.getElem?_take, if_pos hi, Array.getElem?_toList] at h
    show (cur[i]?).getD undef = _
    rw [h]; rfl
/-- One number more, behind a list of numbers. -/
theorem run_append_i {P : Program} {w : World} {N : Nat} {t ty : TypeId} {i : TypeInfo} {z : Value} (ht : P.underlying t = some (.slice 3)) (hi : P.info? 3 = some i) (hz : i.zero = some z) (hz1 : i.size = 1) (hz2 : i.bytes = 8) (hz3 : z.cells.size = 1)
    {v : Value} {l : List Int} {x : Int} (hown : OwnI N v l w) (ad : Addr) (c : Nat) (hnew : w.cell? ad = some (.int .i64 x)) (hpl : ad.spot = none)
    (hlen : l.length + 1 ≤ 1048576) (hbase : N ≤ w.heap.size) :
    ∃ g cap w', (Builtin.append_ #[t, t] ty #[v, .slice (some ad) 1 c]).run P w = .ok (.slice (some ⟨g, 0, none⟩) (l.length + 1) cap) w' ∧
      OwnI N (.slice (some ⟨g, 0, none⟩) (l.length + 1) cap) (l ++ [x]) w' ∧ w.grownBy w' v.ownBlock ∧ (v.ownBlock = some g ∨ g = w.heap.size) := by
  have hle : (l ++ [x]).length = l.length + 1 := by simp
  have hva : vals (l ++ [x]) = vals l ++ [.int .i64 x] := vals_append l [x]
  have hnews : ∀ j y, [Value.int .i64 x][j]? = some y → w.cell? (ad.add j) = some y := by
    intro j y hy
    match j, hy with
    | 0, hy =>
      simp at hy
      subst hy
      obtain ⟨b, o, s⟩ := ad
      simp at hpl
      subst hpl
      exact hnew
    | j + 1, hy => simp at hy
  have grown : ∀ (old : Nat), old < l.length + 1 → ∀ (row : Option Nat),
      OwnI N (.slice (some ⟨w.heap.size, 0, none⟩) (l.length + 1) (grownCap w (l.length + 1) old 3)) (l ++ [x]) (w.drew.alloc (.cells ((vals l).toArray ++ [Value.int .i64 x].toArray ++ Builtin.zeroCells z.cells (grownCap w (l.length + 1) old 3 - (l.length + 1))) 3)) ∧
      w.grownBy (w.drew.alloc (.cells ((vals l).toArray ++ [Value.int .i64 x].toArray ++ Builtin.zeroCells z.cells (grownCap w (l.length + 1) old 3 - (l.length + 1))) 3)) row := by
    intro old ho row
    have hge := grownCap_ge w (l.length + 1) old 3
    have hcm : grownCap w (l.length + 1) old 3 ≤ maxLen := grownCap_le_maxLen w (l.length + 1) old 3 (by unfold maxLen; omega)
    refine ⟨?_, ⟨rfl, rfl, rfl, by simp, fun k hk _ => _root_.Go.heap_alloc_old w.drew _ hk⟩⟩
    rw [← hle]
    refine ownI_of hbase (heap_alloc_new w.drew _) (by rw [hle]; exact hge) (by rw [hle]; exact hcm) ?_ ?_
    · simp only [Array.size_append, List.size_toArray, size_zeroCells, hz3, vals_len, hle, List.length_cons, List.length_nil]
      omega
    · simp only [Array.toList_append, List.append_assoc]
      rw [← List.append_assoc, ← hva, ← vals_len (l ++ [x])]
      exact List.take_left
  rcases hown.rows with ⟨rfl, rfl⟩ | ⟨g, cap, cur, rfl, hbg, hg, hnc, hcm, hcs, htake⟩
  · have hr := run_append_nil (P := P) w t ty 3 i z ht hi hz ad 1 c [.int .i64 x] (by rw [hz1]; rfl) hnews (by omega) (by omega) (by rw [hz2]; omega)
    have hgr := grown 0 (by simp) (Value.ownBlock (.slice none 0 0))
    simp only [List.length_nil, Nat.zero_add, List.nil_append, show vals [] = [] from rfl, Array.empty_append] at hgr ⊢
    exact ⟨_, _, _, hr, hgr.1, hgr.2, .inr rfl⟩
  · by_cases hroom : l.length + 1 ≤ cap
    · have hr := run_append_room (P := P) w t ty 3 i ht hi g l.length cap cur hg ad 1 c [.int .i64 x] (by rw [hz1]; rfl) hnews (by intro y hy; simp at hy; subst hy; rfl) hroom (by rw [hz1]; simp; omega)
      rw [hz1] at hr
      refine ⟨g, cap, _, hr, ?_, ⟨rfl, rfl, rfl, by simp, fun k _ hk => setRow_other w g k _ (fun e => hk (by simp [Value.ownBlock, e]))⟩, .inl rfl⟩
      rw [← hle]
      refine ownI_of hbg (setRow_heap w g cur _ _ _ hg) (by rw [hle]; exact hroom) hcm ?_ ?_
      · simp only [List.size_toArray, List.length_append, List.length_take, List.length_drop, Array.length_toList, List.length_cons, List.length_nil]
        omega
      · rw [Nat.mul_one, htake, ← hva, ← vals_len (l ++ [x])]
        exact List.take_left
    · have holds : ∀ j u, (vals l)[j]? = some u → w.cell? ((⟨g, 0, none⟩ : Addr).add j) = some u := by
        intro j u hu
        rw [Go.WideShapes.add_plain, Nat.zero_add, cell_of_row w g j cur 3 (0, 0) hg]
        rw [← htake, List.getElem?_take] at hu
        split at hu
        · simpa using hu
        · cases hu
      have hr := run_append_grow (P := P) w t ty 3 i z ht hi hz ⟨g, 0, none⟩ l.length cap (vals l) (by rw [vals_len, hz1]; omega) holds ad 1 c [.int .i64 x] (by rw [hz1]; rfl) hnews (by omega) (by omega) (growslice_fits (by omega) (by rw [hz2]; omega))
      have hgr := grown cap (by omega) (Value.ownBlock (.slice (some ⟨g, 0, none⟩) l.length cap))
      exact ⟨_, _, _, hr, hgr.1, hgr.2, .inr rfl⟩
/-- At the operation. -/
theorem wp_append_i {P : Program} {w : World} {o : Oper} {a : Act} {K : Act → World → Prop} {Q : Exit → Act → World → Prop} (s x : Operand) (t : TypeId) (ho : o.op = .call { callee := .builtin .append, args := #[s, x], argTypes := #[t, t] })
    (N : Nat) {i : TypeInfo} {z : Value} (ht : P.underlying t = some (.slice 3)) (hi : P.info? 3 = some i) (hz : i.zero = some z) (hz1 : i.size = 1) (hz2 : i.bytes = 8) (hz3 : z.cells.size = 1)
    (v : Value) (l : List Int) (y : Int) (hs : a.eval s = v) (hown : OwnI N v l w) (ad : Addr) (c : Nat) (hx : a.eval x = .slice (some ad) 1 c) (hnew : w.cell? ad = some (.int .i64 y)) (hpl : ad.spot = none)
    (hlen : l.length + 1 ≤ 1048576) (hbase : N ≤ w.heap.size)
    (h : ∀ g cap w', OwnI N (.slice (some ⟨g, 0, none⟩) (l.length + 1) cap) (l ++ [y]) w' → w.grownBy w' v.ownBlock → (v.ownBlock = some g ∨ g = w.heap.size) → K (a.put o.dst (.slice (some ⟨g, 0, none⟩) (l.length + 1) cap)) w') : o.wp P a w K Q := by
  obtain ⟨g, cap, w', hr, h2, h3, h4⟩ := run_append_i (P := P) (t := t) (ty := o.type) ht hi hz hz1 hz2 hz3 hown ad c hnew hpl hlen hbase
  unfold Oper.wp execOp
  simp only [ho, resolve, invoke, builtin, Sem.run_bind, Sem.run_pure, Result.andThen_ok, List.map_toArray, List.map_cons, List.map_nil, hs, hx, hr]
  exact h g cap w' h2 h3 h4
theorem wpList_append_i {P : Program} {w : World} {ops : Array Oper} {rest : List Oper} {o : Oper} {a : Act} {Q : Exit → Act → World → Prop} (hgd : o.guard = none) (s x : Operand) (t : TypeId) (ho : o.op = .call { callee := .builtin .append, args := #[s, x], argTypes := #[t, t] })
    (N : Nat) {i : TypeInfo} {z : Value} (ht : P.underlying t = some (.slice 3)) (hi : P.info? 3 = some i) (hz : i.zero = some z) (hz1 : i.size = 1) (hz2 : i.bytes = 8) (hz3 : z.cells.size = 1)
    (v : Value) (l : List Int) (y : Int) (hs : a.eval s = v) (hown : OwnI N v l w) (ad : Addr) (c : Nat) (hx : a.eval x = .slice (some ad) 1 c) (hnew : w.cell? ad = some (.int .i64 y)) (hpl : ad.spot = none)
    (hlen : l.length + 1 ≤ 1048576) (hbase : N ≤ w.heap.size)
    (h : ∀ g cap w', OwnI N (.slice (some ⟨g, 0, none⟩) (l.length + 1) cap) (l ++ [y]) w' → w.grownBy w' v.ownBlock → (v.ownBlock = some g ∨ g = w.heap.size) → wpList P ops Q rest (a.put o.dst (.slice (some ⟨g, 0, none⟩) (l.length + 1) cap)) w') : wpList P ops Q (o :: rest) a w :=
  wpList_plain hgd fun _ hK => wp_append_i s x t ho N ht hi hz hz1 hz2 hz3 v l y hs hown ad c hx hnew hpl hlen hbase fun g cap w' h2 h3 h4 => hK _ _ (h g cap w' h2 h3 h4)
theorem OwnI.grownBelow {N : Nat} {v : Value} {l : List Int} {w w' : World} (ho : OwnI N v l w) (hg : w.grownBy w' v.ownBlock) (hN : N ≤ w.heap.size) : Below N w w' :=
  (Below.refl _ _).grown hg hN (fun k hk => by
    rcases ho with ⟨rfl, rfl⟩ | ⟨g, c, M, f, rfl, h1, _⟩
    · simp [Value.ownBlock] at hk
    · simp [Value.ownBlock] at hk; subst hk; exact h1)
/-- Numbers that are alike to a place. -/
def AlikeI (l m : List Int) (k : Nat) : Prop := ∀ i, i < k → ix l i = ix m i
theorem AlikeI.succ {l m : List Int} {k : Nat} (h : AlikeI l m k) (e : ix l k = ix m k) : AlikeI l m (k + 1) := fun i hi => by
  by_cases h1 : i < k
  · exact h i h1
  · obtain rfl : i = k := by omega
    exact e
theorem AlikeI.eq {l m : List Int} (h : AlikeI l m l.length) (e : l.length = m.length) : l = m := by
  refine List.ext_getElem e fun i h1 h2 => ?_
  have := h i h1
  unfold ix at this
  rwa [List.getD_eq_getElem?_getD, List.getD_eq_getElem?_getD, List.getElem?_eq_getElem h1, List.getElem?_eq_getElem h2] at this
theorem not_alikeI {l m : List Int} {k : Nat} (h : ix l k ≠ ix m k) : decide (l = m) = false := decide_eq_false fun e => h (by rw [e])
set_option maxHeartbeats 2000000 in
theorem eqIntS_c (l m : List Int) (a c : Option Addr) (len cap lem cam : Nat) (w : World) (hl : l.length = len) (hm : m.length = lem) (h1 : len ≤ 1048576) (h2 : lem ≤ 1048576) (hA : AtI w.heap.size a l w) (hB : AtI w.heap.size c m w) :
    Calls Tryd.prog 61 #[.slice a len cap, .slice c lem cam] w fun e w' => e = .returned (.bool (decide (l = m))) ∧ Below w.heap.size w w' := by
  subst hl hm
  by_cases hlm : l.length = m.length
  · have HA := hid hA
    have HB := hid hB
    have HL := hid hlm
    clear hA hB
    rw [← hlm] at h2 ⊢
    clear hlm h2
    go_enter Tryd.func61, Tryd.ntmps61
    go_wp2
    go_loopw [5] (fun i wr => ∃ k : Nat, k ≤ l.length ∧ i = .int .i64 k ∧ AlikeI l m k ∧ Below w.heap.size w wr) (fun i _ => l.length - (intOf i).toNat)
    case atStart => exact ⟨0, Nat.zero_le _, rfl, fun i hi => absurd hi (Nat.not_lt_zero _), Below.refl _ _⟩
    case round =>
      obtain ⟨k, hk, rfl, hC, hbw⟩ := hrel
      have HC := hid hC
      clear hC
      by_cases hkl : k < l.length
      · obtain ⟨b, off, rfl, hbN, g0⟩ := HA.out k (by omega)
        obtain ⟨b2, off2, rfl, hbN2, g2⟩ := HB.out k (by have := HL.out; omega)
        have q0 := cell_later hbw g0
        have q2 := cell_later hbw g2
        clear g0 g2
        by_cases hE : ix l k = ix m k
        · have HE := hid hE
          have hF : (ix l k != ix m k) = false := by simp [hE]
          clear hE
          go_wp2
          go_quiet (fail)
          go_wp2
          go_roundw
          case rel => exact ⟨k + 1, by omega, by go_num, HC.out.succ HE.out, grew hbw (drewN_below _ _)⟩
          case measure => simp [intOf]; omega
        · have HE := hid hE
          have hF : (ix l k != ix m k) = true := by simp [hE]
          clear hE
          go_wp2
          go_quiet (fail)
          go_wp2
          go_ret
          exact ⟨by rw [not_alikeI HE.out]; rfl, grew hbw (drewN_below _ _)⟩
      · obtain rfl : k = l.length := by omega
        go_wp2
        go_ret
        exact ⟨by rw [decide_eq_true (HC.out.eq HL.out)]; rfl, hbw⟩
  · have hd : ((l.length : Int) != (m.length : Int)) = true := by simp; omega
    go_enter Tryd.func61, Tryd.ntmps61
    go_wp2
    go_ret
    exact ⟨by rw [decide_eq_false (fun e => hlm (by rw [e]))]; rfl, Below.refl _ _⟩
/-- The numbers that a mark leaves. -/
def marksI (n : Nat) (k : Int) : List Int := (List.range n).map (fun i : Nat => k + (i : Int))
theorem marksI_len (n : Nat) (k : Int) : (marksI n k).length = n := by unfold marksI; rw [List.length_map, List.length_range]
theorem ix_marks {n : Nat} (k : Int) {i : Nat} (h : i < n) : ix (marksI n k) i = k + (i : Int) := by
  unfold ix marksI
  rw [List.getD_eq_getElem?_getD, List.getElem?_map, List.getElem?_range h]; rfl
structure MarkI (g M : Nat) (k : Int) (j : Nat) (w wr : World) : Prop where
  spared : Spared (some ⟨g, 0, none⟩) w wr
  row : ∃ f, wr.rowIs g 3 M f ∧ ∀ i, i < j → f i = .int .i64 (k + i)
theorem MarkI.cell {g M : Nat} {k : Int} {j : Nat} {w wr : World} (h : MarkI g M k j w wr) {i : Nat} (hi : i < M) : ∃ v, wr.cell? ⟨g, i, none⟩ = some v := by
  obtain ⟨f, hf, _⟩ := h.row
  exact ⟨_, hf.cell hi⟩
theorem MarkI.frozen {g M : Nat} {k : Int} {j : Nat} {w wr : World} (h : MarkI g M k j w wr) (i : Nat) : wr.frozen? ⟨g, i, none⟩ = false := by
  obtain ⟨f, hf, _⟩ := h.row
  exact hf.frozen i
theorem MarkI.step {g M : Nat} {k x : Int} {j : Nat} {w wr : World} (h : MarkI g M k j w wr) (hx : x = k + (j : Int)) :
    MarkI g M k (j + 1) w (wr.setCell ⟨g, j, none⟩ (.int .i64 x)) := by
  obtain ⟨f, hf, he⟩ := h.row
  refine ⟨h.spared.setCell _ _, _, hf.set j _, fun i hi => ?_⟩
  by_cases e0 : i = j
  · subst e0; rw [if_pos rfl, hx]
  · rw [if_neg e0]; exact he i (by omega)
theorem markI_own {N : Nat} {g cap M : Nat} {k : Int} {n : Nat} {w wr : World} (h : MarkI g M k n w wr) (hN : N ≤ g) (hn : n ≤ cap) (hm : cap ≤ maxLen) (hM : cap ≤ M) : OwnI N (.slice (some ⟨g, 0, none⟩) n cap) (marksI n k) wr := by
  obtain ⟨f, hf, he⟩ := h.row
  refine .inr ⟨g, cap, M, f, by rw [marksI_len], hN, by rw [marksI_len]; exact hn, hm, hM, hf, fun i hi => ?_⟩
  rw [marksI_len] at hi
  rw [he i hi, ix_marks k hi]
set_option maxHeartbeats 4000000 in
theorem markI_c (l : List Int) (N : Nat) (a : Option Addr) (n cap : Nat) (k : Int) (w : World) (h0 : 0 ≤ k) (h1 : k ≤ 1073741824) (h2 : n ≤ 1048576) (hO : OwnI N (.slice a n cap) l w) :
    Calls Tryd.prog 62 #[.slice a n cap, .int .i64 k] w fun e w' => e = .returned (.int .i64 (k + (n : Int))) ∧ OwnI N (.slice a n cap) (marksI n k) w' ∧ Spared a w w' := by
  rcases hO with ⟨rfl, e⟩ | ⟨g, c, M, f, e, g1, g2, g3, gM, g4, g5⟩
  · simp at e
    obtain ⟨rfl, rfl, rfl⟩ := e
    go_enter Tryd.func62, Tryd.ntmps62
    go_wp2
    refine wp_loop_rounds 1 ?_
    rw [rounds_succ]
    go_wp2
    go_ret
    exact ⟨by first | rfl | simp, .inl ⟨by unfold marksI; rfl, rfl⟩, Spared.refl _ _⟩
  · simp at e
    obtain ⟨rfl, rfl, rfl⟩ := e
    have hM : MarkI g M k 0 w w := ⟨Spared.refl _ _, f, g4, fun i hi => absurd hi (by omega)⟩
    have hlc := g2
    have hlM := gM
    have HG := hid (⟨g1, g2, g3, gM⟩ : N ≤ g ∧ l.length ≤ cap ∧ cap ≤ maxLen ∧ cap ≤ M)
    obtain ⟨n, hn⟩ : ∃ n, l.length = n := ⟨_, rfl⟩
    rw [hn] at h2 hlc HG ⊢
    clear g1 g2 g3 g4 g5 gM hn
    go_enter Tryd.func62, Tryd.ntmps62
    go_wp2
    go_loopw [1, 5] (fun q i wr => ∃ j : Nat, j ≤ n ∧ i = .int .i64 j ∧ q = .int .i64 (k + (j : Int)) ∧ MarkI g M k j w wr) (fun q i _ => n - (intOf i).toNat)
    case atStart => exact ⟨0, Nat.zero_le _, rfl, by simp, hM⟩
    case round =>
      obtain ⟨j, hj, rfl, rfl, hC⟩ := hrel
      have HC := hid hC
      clear hC
      by_cases hjn : j < n
      · obtain ⟨v0, q0⟩ := HC.out.cell (i := j) (by omega)
        have f0 := HC.out.frozen j
        go_wp2
        go_roundw
        case rel => exact ⟨j + 1, by omega, by go_num, by first | go_num | (congr 1; omega), HC.out.step rfl⟩
        case measure => simp [intOf]; omega
      · obtain rfl : j = n := by omega
        go_wp2
        go_ret
        exact ⟨rfl, markI_own HC.out HG.out.1 HG.out.2.1 HG.out.2.2.1 HG.out.2.2.2, HC.out.spared⟩
set_option maxHeartbeats 2000000 in
theorem heldI_c (a : Option Addr) (n cap : Nat) (k : Int) (w : World) (h0 : 0 ≤ k) (h1 : k ≤ 1073741824) (h2 : n ≤ 1048576) (hA : AtI w.heap.size a (marksI n k) w) :
    Calls Tryd.prog 63 #[.slice a n cap, .int .i64 k] w fun e w' => e = .returned (.int .i64 (k + (n : Int))) ∧ Below w.heap.size w w' := by
  have HA := hid hA
  clear hA
  go_enter Tryd.func63, Tryd.ntmps63
  go_wp2
  go_loopw [1, 5] (fun q i wr => ∃ j : Nat, j ≤ n ∧ i = .int .i64 j ∧ q = .int .i64 (k + (j : Int)) ∧ Below w.heap.size w wr) (fun q i _ => n - (intOf i).toNat)
  case atStart => exact ⟨0, Nat.zero_le _, rfl, by simp, Below.refl _ _⟩
  case round =>
    obtain ⟨j, hj, rfl, rfl, hbw⟩ := hrel
    by_cases hjn : j < n
    · obtain ⟨b, off, rfl, hbN, g0⟩ := HA.out j (by rw [marksI_len]; exact hjn)
      rw [ix_marks k hjn] at g0
      have q0 := cell_later hbw g0
      clear g0
      go_wp2
      go_roundw
      case rel => exact ⟨j + 1, by omega, by go_num, by first | go_num | (congr 1; omega), hbw⟩
      case measure => simp [intOf]; omega
    · obtain rfl : j = n := by omega
      go_wp2
      go_ret
      exact ⟨rfl, hbw⟩
end Go.Proofs.YtipiamhnngmjmaaDoor
