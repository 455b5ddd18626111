/-
  Lists of lists of numbers: what is owned, appended, compared, marked and held (contracts for the walks).
  Conditions: as each theorem states them.
-/
import Derived.Test.YtipiamhnngmjmaaDoorFInt
import Derived.Deep.DeepCutAuto
namespace Go.Proofs.YtipiamhnngmjmaaDoor
open Go.RowKit
set_option linter.unusedVariables false
theorem AtI.after {N : Nat} {a : Option Addr} {l : List Int} {w w' : World} (h : AtI N a l w) (hb : Below w.heap.size w w') : AtI N a l w' := fun i hi => by
  obtain ⟨b, off, e, h1, h2⟩ := h i hi
  exact ⟨b, off, e, h1, cell_later hb h2⟩
theorem info_si : (Tryd.prog.info? 56).map (fun i => (i.zero, i.size, i.bytes)) = some (some (.slice none 0 0), 1, 24) := by kernel_rfl
/-- The slice v, made at block N or later, holds the slices vs at its head. -/
def OwnW (N : Nat) (v : Value) (vs : List Value) (w : World) : Prop :=
  (vs = [] ∧ v = .slice none 0 0) ∨ ∃ (g cap : Nat) (cur : Array Value), v = .slice (some ⟨g, 0, none⟩) vs.length cap ∧ N ≤ g ∧ w.heap[g]? = some (.cells cur 56 (0, 0)) ∧ vs.length ≤ cap ∧ cap ≤ maxLen ∧ cap ≤ cur.size ∧ cur.toList.take vs.length = vs
theorem OwnW.nil (N : Nat) (w : World) : OwnW N (.slice none 0 0) [] w := .inl ⟨rfl, rfl⟩
theorem heap_ltW {w : World} {g : Nat} {o : Obj} (h : w.heap[g]? = some o) : g < w.heap.size := by
  by_cases hg : g < w.heap.size
  · exact hg
  · rw [Array.getElem?_eq_none (by omega)] at h; cases h
theorem OwnW.later {N : Nat} {v : Value} {vs : List Value} {w w' : World} (h : OwnW N v vs w) (hb : Below w.heap.size w w') : OwnW N v vs w' := by
  rcases h with h | ⟨g, cap, cur, e, h1, h2, h3, h4, h5, h6⟩
  · exact .inl h
  · exact .inr ⟨g, cap, cur, e, h1, (hb.block g (heap_ltW h2)).trans h2, h3, h4, h5, h6⟩
theorem OwnW.mono {N K : Nat} {v : Value} {vs : List Value} {w : World} (h : OwnW N v vs w) (hK : K ≤ N) : OwnW K v vs w := by
  rcases h with h | ⟨g, cap, cur, e, h1, h2⟩
  · exact .inl h
  · exact .inr ⟨g, cap, cur, e, Nat.le_trans hK h1, h2⟩
theorem OwnW.shape {N : Nat} {v : Value} {vs : List Value} {w : World} (h : OwnW N v vs w) : ∃ a cap, v = .slice a vs.length cap := by
  rcases h with ⟨rfl, rfl⟩ | ⟨g, cap, cur, e, _⟩
  · exact ⟨none, 0, rfl⟩
  · exact ⟨_, _, e⟩
theorem OwnW.cell {N n cap : Nat} {a : Option Addr} {vs : List Value} {w : World} (h : OwnW N (.slice a n cap) vs w) {i : Nat} (hi : i < vs.length) : ∃ g, a = Option.some ⟨g, 0, none⟩ ∧ N ≤ g ∧ g < w.heap.size ∧ w.cell? ⟨g, i, none⟩ = Option.some (vs[i]) := by
  rcases h with ⟨rfl, _⟩ | ⟨g, c, cur, e, h1, h2, h3, h4, h5, h6⟩
  · exact absurd hi (Nat.not_lt_zero _)
  · simp at e
    refine ⟨g, e.1, h1, heap_ltW h2, ?_⟩
    rw [cell_of_row w g i cur 56 (0, 0) h2]
    have : cur.toList[i]? = Option.some vs[i] := by
      have h7 : (cur.toList.take vs.length)[i]? = vs[i]? := by rw [h6]
      rw [List.getElem?_take, if_pos hi] at h7
      rw [h7, List.getElem?_eq_getElem hi]
    simpa using this
/-- One slice more, behind a list of slices. -/
theorem run_append_w {P : Program} {w : World} {N : Nat} {t ty : TypeId} {i : TypeInfo} {z : Value} (ht : P.underlying t = some (.slice 56)) (hi : P.info? 56 = some i) (hz : i.zero = some z) (hz1 : i.size = 1) (hz2 : i.bytes = 24) (hz3 : z.cells.size = 1)
    {v : Value} {vs : List Value} {u : Value} (hu : u.oneCell' = true) (hown : OwnW N v vs w) (ad : Addr) (c : Nat) (hnew : w.cell? ad = some u) (hpl : ad.spot = none)
    (hlen : vs.length + 1 ≤ 1048576) (hbase : N ≤ w.heap.size) :
    ∃ g cap w', (Builtin.append_ #[t, t] ty #[v, .slice (some ad) 1 c]).run P w = .ok (.slice (some ⟨g, 0, none⟩) (vs.length + 1) cap) w' ∧
      OwnW N (.slice (some ⟨g, 0, none⟩) (vs.length + 1) cap) (vs ++ [u]) w' ∧ w.grownBy w' v.ownBlock ∧ (v.ownBlock = some g ∨ g = w.heap.size) := by
  have hle : (vs ++ [u]).length = vs.length + 1 := by simp
  have hnews : ∀ j x, [u][j]? = some x → w.cell? (ad.add j) = some x := by
    intro j x hx
    match j, hx with
    | 0, hx =>
      simp at hx
      subst hx
      obtain ⟨b, o, s⟩ := ad
      simp at hpl
      subst hpl
      exact hnew
    | j + 1, hx => simp at hx
  have grown : ∀ (old : Nat), old < vs.length + 1 → ∀ (row : Option Nat),
      OwnW N (.slice (some ⟨w.heap.size, 0, none⟩) (vs.length + 1) (grownCap w (vs.length + 1) old 56)) (vs ++ [u]) (w.drew.alloc (.cells (vs.toArray ++ [u].toArray ++ Builtin.zeroCells z.cells (grownCap w (vs.length + 1) old 56 - (vs.length + 1))) 56)) ∧
      w.grownBy (w.drew.alloc (.cells (vs.toArray ++ [u].toArray ++ Builtin.zeroCells z.cells (grownCap w (vs.length + 1) old 56 - (vs.length + 1))) 56)) row := by
    intro old ho row
    have hge := grownCap_ge w (vs.length + 1) old 56
    have hcm : grownCap w (vs.length + 1) old 56 ≤ maxLen := grownCap_le_maxLen w (vs.length + 1) old 56 (by unfold maxLen; omega)
    refine ⟨.inr ⟨w.heap.size, _, _, by rw [hle], hbase, heap_alloc_new w.drew _, by rw [hle]; exact hge, hcm, ?_, ?_⟩, ⟨rfl, rfl, rfl, by simp, fun k hk _ => _root_.Go.heap_alloc_old w.drew _ hk⟩⟩
    · simp only [Array.size_append, List.size_toArray, size_zeroCells, hz3, List.length_cons, List.length_nil]
      omega
    · rw [hle]
      simp only [Array.toList_append]
      rw [show vs.length + 1 = (vs ++ [u]).length by simp]
      exact List.take_left
  rcases hown with ⟨rfl, rfl⟩ | ⟨g, cap, cur, rfl, hbg, hg, hnc, hcm, hcs, htake⟩
  · have hr := run_append_nil (P := P) w t ty 56 i z ht hi hz ad 1 c [u] (by rw [hz1]; rfl) hnews (by omega) (by omega) (by rw [hz2]; omega)
    have hgr := grown 0 (by simp) (Value.ownBlock (.slice none 0 0))
    simp only [List.length_nil, Nat.zero_add, List.nil_append, Array.empty_append] at hgr ⊢
    exact ⟨_, _, _, hr, hgr.1, hgr.2, .inr rfl⟩
  · by_cases hroom : vs.length + 1 ≤ cap
    · have hr := run_append_room (P := P) w t ty 56 i ht hi g vs.length cap cur hg ad 1 c [u] (by rw [hz1]; rfl) hnews (by intro x hx; simp at hx; subst hx; exact hu) hroom (by rw [hz1]; simp; omega)
      rw [hz1] at hr
      refine ⟨g, cap, _, hr, ?_, ⟨rfl, rfl, rfl, by simp, fun k _ hk => setRow_other w g k _ (fun e => hk (by simp [Value.ownBlock, e]))⟩, .inl rfl⟩
      refine .inr ⟨g, cap, _, by rw [hle], hbg, setRow_heap w g cur _ _ _ hg, by rw [hle]; exact hroom, hcm, ?_, ?_⟩
      · simp only [List.size_toArray, List.length_append, List.length_take, List.length_drop, Array.length_toList, List.length_cons, List.length_nil]
        omega
      · rw [hle, Nat.mul_one, htake, show vs.length + 1 = (vs ++ [u]).length by simp]
        exact List.take_left
    · have holds : ∀ j x, vs[j]? = some x → w.cell? ((⟨g, 0, none⟩ : Addr).add j) = some x := by
        intro j x hx
        rw [Go.WideShapes.add_plain, Nat.zero_add, cell_of_row w g j cur 56 (0, 0) hg]
        rw [← htake, List.getElem?_take] at hx
        split at hx
        · simpa using hx
        · cases hx
      have hr := run_append_grow (P := P) w t ty 56 i z ht hi hz ⟨g, 0, none⟩ vs.length cap vs (by rw [hz1]; omega) holds ad 1 c [u] (by rw [hz1]; rfl) hnews (by omega) (by omega) (growslice_fits (by omega) (by rw [hz2]; omega))
      have hgr := grown cap (by omega) (Value.ownBlock (.slice (some ⟨g, 0, none⟩) vs.length cap))
      exact ⟨_, _, _, hr, hgr.1, hgr.2, .inr rfl⟩
/-- The i-th list. -/
def nthI (L : List (List Int)) (i : Nat) : List Int := L.getD i []
/-- Lists of points lie at an address, below block N. -/
def AtIS (N : Nat) (a : Option Addr) (L : List (List Int)) (w : World) : Prop :=
  ∀ i, i < L.length → ∃ b off ai ci, a = some ⟨b, off, none⟩ ∧ b < N ∧ w.cell? ⟨b, off + i, none⟩ = some (.slice ai (nthI L i).length ci) ∧ AtI N ai (nthI L i) w
theorem AtIS.later {N : Nat} {a : Option Addr} {L : List (List Int)} {w w' : World} (h : AtIS N a L w) (hb : Below w.heap.size w w') : AtIS N a L w' := fun i hi => by
  obtain ⟨b, off, ai, ci, e, hN, h0, h1⟩ := h i hi
  exact ⟨b, off, ai, ci, e, hN, cell_later hb h0, h1.after hb⟩
theorem AtIS.mono {N M : Nat} {a : Option Addr} {L : List (List Int)} {w : World} (h : AtIS N a L w) (hNM : N ≤ M) : AtIS M a L w := fun i hi => by
  obtain ⟨b, off, ai, ci, e, hN, h0, h1⟩ := h i hi
  exact ⟨b, off, ai, ci, e, by omega, h0, h1.mono hNM⟩
theorem AtIS.kept {N : Nat} {a : Option Addr} {L : List (List Int)} {w w' : World} (h : AtIS N a L w) (hb : Below N w w') : AtIS N a L w' := fun i hi => by
  obtain ⟨b, off, ai, ci, e, hN, h0, h1⟩ := h i hi
  refine ⟨b, off, ai, ci, e, hN, (hb.cell hN).trans h0, fun j hj => ?_⟩
  obtain ⟨b', off', e', hN', g0⟩ := h1 j hj
  exact ⟨b', off', e', hN', (hb.cell hN').trans g0⟩
/-- Lists of points that a call made, each in memory of its own. -/
structure OwnIS (N : Nat) (v : Value) (L : List (List Int)) (vs : List Value) (w : World) : Prop where
  out : OwnW N v vs w
  len : vs.length = L.length
  inn : ∀ i (h : i < vs.length), OwnI N vs[i] (nthI L i) w
  apart : ∀ i j (hi : i < vs.length) (hj : j < vs.length), i ≠ j → vs[i].ownBlock = none ∨ vs[i].ownBlock ≠ vs[j].ownBlock
  far : ∀ i (hi : i < vs.length), vs[i].ownBlock = none ∨ vs[i].ownBlock ≠ v.ownBlock
theorem OwnIS.nil (N : Nat) (w : World) : OwnIS N (.slice none 0 0) [] [] w :=
  ⟨OwnW.nil _ _, rfl, fun i h => absurd h (Nat.not_lt_zero _), fun i _ h => absurd h (Nat.not_lt_zero _), fun i h => absurd h (Nat.not_lt_zero _)⟩
theorem OwnIS.later {N : Nat} {v : Value} {L : List (List Int)} {vs : List Value} {w w' : World} (h : OwnIS N v L vs w) (hb : Below w.heap.size w w') : OwnIS N v L vs w' :=
  ⟨h.out.later hb, h.len, fun i hi => (h.inn i hi).later hb, h.apart, h.far⟩
theorem OwnIS.mono {N K : Nat} {v : Value} {L : List (List Int)} {vs : List Value} {w : World} (h : OwnIS N v L vs w) (hK : K ≤ N) : OwnIS K v L vs w :=
  ⟨h.out.mono hK, h.len, fun i hi => (h.inn i hi).mono hK, h.apart, h.far⟩
theorem OwnIS.shape {N : Nat} {v : Value} {L : List (List Int)} {vs : List Value} {w : World} (h : OwnIS N v L vs w) : ∃ a cap, v = .slice a L.length cap := by
  obtain ⟨a, cap, e⟩ := h.out.shape
  exact ⟨a, cap, by rw [e, h.len]⟩
theorem OwnI.lt {N : Nat} {v : Value} {l : List Int} {w : World} (h : OwnI N v l w) {g : Nat} (e : v.ownBlock = Option.some g) : N ≤ g ∧ g < w.heap.size := by
  rcases h with ⟨_, rfl⟩ | ⟨g', c, M, f, rfl, h1, _, _, _, h4, _⟩
  · simp [Value.ownBlock] at e
  · simp [Value.ownBlock] at e
    subst e
    exact ⟨h1, h4.lt⟩
theorem OwnI.other {N : Nat} {v : Value} {a : Option Addr} {l : List Int} {w w' : World} (h : OwnI N v l w) (hs : Spared a w w') (hb : ∀ b off, a = Option.some ⟨b, off, none⟩ → v.ownBlock ≠ Option.some b) : OwnI N v l w' := by
  rcases h with h | ⟨g, c, M, f, e, h1, h2, h3, hM, ⟨cc, k1, k2, k3⟩, h5⟩
  · exact .inl h
  · refine .inr ⟨g, c, M, f, e, h1, h2, h3, hM, ⟨cc, (hs.block g (heap_ltW k1) (fun b off e' => fun eb => hb b off e' (by rw [e, eb]; rfl))).trans k1, k2, k3⟩, h5⟩
theorem OwnW.other {N : Nat} {v : Value} {a : Option Addr} {vs : List Value} {w w' : World} (h : OwnW N v vs w) (hs : Spared a w w') (hb : ∀ b off, a = Option.some ⟨b, off, none⟩ → v.ownBlock ≠ Option.some b) : OwnW N v vs w' := by
  rcases h with h | ⟨g, cap, cur, e, h1, h2, h3⟩
  · exact .inl h
  · exact .inr ⟨g, cap, cur, e, h1, (hs.block g (heap_ltW h2) (fun b off e' => fun eb => hb b off e' (by rw [e, eb]; rfl))).trans h2, h3⟩
theorem OwnIS.at {N n cap : Nat} {a : Option Addr} {L : List (List Int)} {vs : List Value} {w : World} (h : OwnIS N (.slice a n cap) L vs w) : AtIS w.heap.size a L w := fun i hi => by
  have hi' : i < vs.length := by rw [h.len]; exact hi
  obtain ⟨g, e, h1, h2, h3⟩ := h.out.cell hi'
  obtain ⟨ai, ci, e2⟩ := (h.inn i hi').shape
  refine ⟨g, 0, ai, ci, e, h2, ?_, ?_⟩
  · rw [Nat.zero_add, h3, e2]
  · have := h.inn i hi'
    rw [e2] at this
    exact this.at
set_option maxHeartbeats 4000000 in
set_option maxRecDepth 8000 in
theorem eqIS_c (L : List (List Int)) (a c : Option Addr) (n cap cam : Nat) (w : World) (hn : L.length = n) (h1 : n ≤ 1048576) (h2 : ∀ i, i < n → (nthI L i).length ≤ 1048576) (hA : AtIS w.heap.size a L w) (hB : AtIS w.heap.size c L w) :
    Calls Tryd.prog 27 #[.slice a n cap, .slice c n cam] w fun e w' => e = .returned (.bool true) ∧ Below w.heap.size w w' := by
  subst hn
  have HA := hid hA
  have HB := hid hB
  clear hA hB
  go_enter Tryd.func27, Tryd.ntmps27
  go_wp2
  go_loopw [5] (fun i wr => ∃ k : Nat, k ≤ L.length ∧ i = .int .i64 k ∧ Below w.heap.size w wr) (fun i _ => L.length - (intOf i).toNat)
  case atStart => exact ⟨0, Nat.zero_le _, rfl, Below.refl _ _⟩
  case round =>
    obtain ⟨k, hk, rfl, hbw⟩ := hrel
    by_cases hkl : k < L.length
    · obtain ⟨b, off, ai, ci, rfl, hN, g0, i0⟩ := HA.out k hkl
      obtain ⟨b', off', ai', ci', rfl, hN', g1, i1⟩ := HB.out k hkl
      have k0 := cell_later hbw g0
      have k1 := cell_later hbw g1
      have I0 := hid (i0.later hbw)
      have I1 := hid (i1.later hbw)
      have hl := h2 k hkl
      have hd : decide ((k : Int) < (L.length : Int)) = true := decide_eq_true (by omega)
      have j0 : (0 : Int) ≤ (k : Int) := by omega
      have j1 : (k : Int) < (L.length : Int) := by omega
      obtain ⟨R, hR⟩ : ∃ R, nthI L k = R := ⟨_, rfl⟩
      rw [hR] at k0 k1 I0 I1 hl
      clear g0 g1 i0 i1 hR
      have HBW := hid hbw
      have hsz := hbw.size
      clear hbw
      go_wp2
      refine wp_region_held_drew (S := (fun u => Below wr.heap.size wr u)) (by kernel_rfl) ?_ (fun hHeld => ?_)
      · exact (Below.refl _ _).drew
      refine wpAnyH_take (i := 0) (oi := { dst := some 17, op := Op.move (Operand.tmp 0), type := 39, pos := "exact.go:155", after := #[], guard := none }) (v := ?v1rx0) rfl (by kernel_rfl) (by kernel_rfl) (by kernel_rfl) (fun _ _ _ h => h) (Or.inl ⟨by rfl, ?hy1rx0⟩) (by with_reducible assumption) ?rest1rx0
      case hy1rx0 => (intro wS hSw; (try dsimp only at hSw); have z0 := cell_later hSw k0; have z1 := cell_later hSw k1; clear hSw; go_simp; try with_reducible rfl)
      case' rest1rx0 => (try simp only [Act.put, List.setIfInBounds_toArray, List.set_cons_zero, List.set_cons_succ])
      refine wpAnyH_take (i := 1) (oi := { dst := some 18, op := Op.move (Operand.tmp 5), type := 3, pos := "exact.go:155", after := #[], guard := none }) (v := ?v1rx1) rfl (by kernel_rfl) (by kernel_rfl) (by kernel_rfl) (fun _ _ _ h => h) (Or.inl ⟨by rfl, ?hy1rx1⟩) (by with_reducible assumption) ?rest1rx1
      case hy1rx1 => (intro wS hSw; (try dsimp only at hSw); have z0 := cell_later hSw k0; have z1 := cell_later hSw k1; clear hSw; go_simp; try with_reducible rfl)
      case' rest1rx1 => (try simp only [Act.put, List.setIfInBounds_toArray, List.set_cons_zero, List.set_cons_succ])
      refine wpAnyH_take (i := 2) (oi := { dst := some 19, op := Op.indexAddr 39 (Operand.tmp 17) (Operand.tmp 18), type := 0, pos := "exact.go:155", after := #[{ on := 0, ground := Ground.data }, { on := 1, ground := Ground.data }], guard := none }) (v := ?v1rx2) rfl (by kernel_rfl) (by kernel_rfl) (by kernel_rfl) (fun _ _ _ h => h) (Or.inl ⟨by rfl, ?hy1rx2⟩) (by with_reducible assumption) ?rest1rx2
      case hy1rx2 => (intro wS hSw; (try dsimp only at hSw); have z0 := cell_later hSw k0; have z1 := cell_later hSw k1; clear hSw; go_simp; try with_reducible rfl)
      case' rest1rx2 => (try simp only [Act.put, List.setIfInBounds_toArray, List.set_cons_zero, List.set_cons_succ])
      refine wpAnyH_take (i := 3) (oi := { dst := some 20, op := Op.load 56 (Operand.tmp 19), type := 56, pos := "exact.go:155", after := #[{ on := 2, ground := Ground.data }], guard := none }) (v := ?v1rx3) rfl (by kernel_rfl) (by kernel_rfl) (by kernel_rfl) (fun _ _ _ h => h) (Or.inl ⟨by rfl, ?hy1rx3⟩) (by with_reducible assumption) ?rest1rx3
      case hy1rx3 => (intro wS hSw; (try dsimp only at hSw); have z0 := cell_later hSw k0; have z1 := cell_later hSw k1; clear hSw; go_simp; try with_reducible rfl)
      case' rest1rx3 => (try simp only [Act.put, List.setIfInBounds_toArray, List.set_cons_zero, List.set_cons_succ])
      refine wpAnyH_take (i := 4) (oi := { dst := some 21, op := Op.move (Operand.tmp 1), type := 39, pos := "exact.go:155", after := #[], guard := none }) (v := ?v1rx4) rfl (by kernel_rfl) (by kernel_rfl) (by kernel_rfl) (fun _ _ _ h => h) (Or.inl ⟨by rfl, ?hy1rx4⟩) (by with_reducible assumption) ?rest1rx4
      case hy1rx4 => (intro wS hSw; (try dsimp only at hSw); have z0 := cell_later hSw k0; have z1 := cell_later hSw k1; clear hSw; go_simp; try with_reducible rfl)
      case' rest1rx4 => (try simp only [Act.put, List.setIfInBounds_toArray, List.set_cons_zero, List.set_cons_succ])
      refine wpAnyH_take (i := 5) (oi := { dst := some 22, op := Op.move (Operand.tmp 5), type := 3, pos := "exact.go:155", after := #[], guard := none }) (v := ?v1rx5) rfl (by kernel_rfl) (by kernel_rfl) (by kernel_rfl) (fun _ _ _ h => h) (Or.inl ⟨by rfl, ?hy1rx5⟩) (by with_reducible assumption) ?rest1rx5
      case hy1rx5 => (intro wS hSw; (try dsimp only at hSw); have z0 := cell_later hSw k0; have z1 := cell_later hSw k1; clear hSw; go_simp; try with_reducible rfl)
      case' rest1rx5 => (try simp only [Act.put, List.setIfInBounds_toArray, List.set_cons_zero, List.set_cons_succ])
      refine wpAnyH_take (i := 6) (oi := { dst := some 23, op := Op.indexAddr 39 (Operand.tmp 21) (Operand.tmp 22), type := 0, pos := "exact.go:155", after := #[{ on := 4, ground := Ground.data }, { on := 5, ground := Ground.data }], guard := none }) (v := ?v1rx6) rfl (by kernel_rfl) (by kernel_rfl) (by kernel_rfl) (fun _ _ _ h => h) (Or.inl ⟨by rfl, ?hy1rx6⟩) (by with_reducible assumption) ?rest1rx6
      case hy1rx6 => (intro wS hSw; (try dsimp only at hSw); have z0 := cell_later hSw k0; have z1 := cell_later hSw k1; clear hSw; go_simp; try with_reducible rfl)
      case' rest1rx6 => (try simp only [Act.put, List.setIfInBounds_toArray, List.set_cons_zero, List.set_cons_succ])
      refine wpAnyH_take (i := 7) (oi := { dst := some 24, op := Op.load 56 (Operand.tmp 23), type := 56, pos := "exact.go:155", after := #[{ on := 6, ground := Ground.data }], guard := none }) (v := ?v1rx7) rfl (by kernel_rfl) (by kernel_rfl) (by kernel_rfl) (fun _ _ _ h => h) (Or.inl ⟨by rfl, ?hy1rx7⟩) (by with_reducible assumption) ?rest1rx7
      case hy1rx7 => (intro wS hSw; (try dsimp only at hSw); have z0 := cell_later hSw k0; have z1 := cell_later hSw k1; clear hSw; go_simp; try with_reducible rfl)
      case' rest1rx7 => (try simp only [Act.put, List.setIfInBounds_toArray, List.set_cons_zero, List.set_cons_succ])
      refine wpAnyH_ready (rs := [8]) (by kernel_rfl) (by simp) ?_
      refine AllReadyH.cons (o := { dst := some 25, op := Op.call { callee := Callee.value (Operand.func 61), args := #[Operand.tmp 20, Operand.tmp 24], argTypes := #[56, 56] }, type := 4, pos := "exact.go:155", after := #[{ on := 3, ground := Ground.data }, { on := 7, ground := Ground.data }], guard := none }) rfl (fun K hK => ?_) AllReadyH.nil
      go_simp
      refine (eqIntS_c R R _ _ _ _ _ _ _ rfl rfl hl hl ((I0.out.after hHeld).mono (Nat.le_trans hsz hHeld.size)) ((I1.out.after hHeld).mono (Nat.le_trans hsz hHeld.size))).mono ?_
      rintro e w3 ⟨rfl, hb3⟩
      go_wp2_with fail
      refine hK.out _ _ ?_ (fun hHeld => ?_)
      · exact grew (by with_reducible assumption) hb3
      clear hK K
      try simp only [Act.put, List.setIfInBounds_toArray, List.set_cons_zero, List.set_cons_succ]
      refine wpAnyH_take (i := 9) (oi := { dst := some 26, op := Op.unOp UnOp.not 4 (Operand.tmp 25), type := 4, pos := "exact.go:155", after := #[{ on := 8, ground := Ground.data }], guard := none }) (v := ?v1rx9) rfl (by kernel_rfl) (by kernel_rfl) (by kernel_rfl) (fun _ _ _ h => h) (Or.inl ⟨by rfl, ?hy1rx9⟩) (by with_reducible assumption) ?rest1rx9
      case hy1rx9 => (intro wS hSw; (try dsimp only at hSw); have z0 := cell_later hSw k0; have z1 := cell_later hSw k1; clear hSw; go_simp; try with_reducible rfl)
      case' rest1rx9 => (try simp only [Act.put, List.setIfInBounds_toArray, List.set_cons_zero, List.set_cons_succ])
      refine wpAnyH_done (by kernel_rfl) ?_ _
      have HF := hid (grew HBW.out (by with_reducible assumption))
      clear hHeld k0 k1
      go_wp2
      go_roundw
      case rel => exact ⟨k + 1, by omega, by go_num, HF.out⟩
      case measure => simp [intOf]; omega
    · obtain rfl : k = L.length := by omega
      go_wp2
      go_ret
      exact ⟨rfl, hbw⟩
theorem OwnI.grown {N : Nat} {u : Value} {l : List Int} {w w' : World} {row : Option Nat} (h : OwnI N u l w) (hg : w.grownBy w' row) (hne : u.ownBlock = none ∨ u.ownBlock ≠ row) : OwnI N u l w' := by
  rcases h with h | ⟨g, c, M, f, e, h1, h2, h3, hM, ⟨cc, k1, k2, k3⟩, h5⟩
  · exact .inl h
  · refine .inr ⟨g, c, M, f, e, h1, h2, h3, hM, ⟨cc, (hg.block g (heap_ltW k1) (fun e' => ?_)).trans k1, k2, k3⟩, h5⟩
    rcases hne with h6 | h6
    · rw [e] at h6; simp [Value.ownBlock] at h6
    · exact h6 (by rw [e]; simpa [Value.ownBlock] using e')
theorem OwnW.lt {N : Nat} {v : Value} {vs : List Value} {w : World} (h : OwnW N v vs w) {g : Nat} (e : v.ownBlock = Option.some g) : N ≤ g ∧ g < w.heap.size := by
  rcases h with ⟨_, rfl⟩ | ⟨g', cap, cur, rfl, h1, h2, _⟩
  · simp [Value.ownBlock] at e
  · simp [Value.ownBlock] at e
    subst e
    exact ⟨h1, heap_ltW h2⟩
theorem nthI_left {L : List (List Int)} {l : List Int} {i : Nat} (h : i < L.length) : nthI (L ++ [l]) i = nthI L i := by simp [nthI, h, List.getElem?_append_left h]
theorem nthI_last (L : List (List Int)) (l : List Int) : nthI (L ++ [l]) L.length = l := by simp [nthI]
theorem OwnIS.push {N g cap : Nat} {v u : Value} {L : List (List Int)} {l : List Int} {vs : List Value} {w0 w w' : World} (h : OwnIS N v L vs w0) (hb : Below w0.heap.size w0 w) (hN : N ≤ w0.heap.size) (hu : OwnI w0.heap.size u l w)
    (hO : OwnW N (.slice (Option.some ⟨g, 0, none⟩) (vs.length + 1) cap) (vs ++ [u]) w') (hg : w.grownBy w' v.ownBlock) (hgg : v.ownBlock = Option.some g ∨ g = w.heap.size) :
    OwnIS N (.slice (Option.some ⟨g, 0, none⟩) (vs.length + 1) cap) (L ++ [l]) (vs ++ [u]) w' := by
  have hs := hb.size
  have hold : ∀ i (hi : i < vs.length) b, vs[i].ownBlock = Option.some b → b < w0.heap.size := fun i hi b e => ((h.inn i hi).lt e).2
  have hvb : ∀ b, v.ownBlock = Option.some b → b < w0.heap.size := fun b e => (h.out.lt e).2
  have hub : ∀ b, u.ownBlock = Option.some b → w0.heap.size ≤ b ∧ b < w.heap.size := fun b e => hu.lt e
  have hgi : ∀ i (hi : i < vs.length), vs[i].ownBlock = none ∨ vs[i].ownBlock ≠ Option.some g := by
    intro i hi
    rcases hgg with e | e
    · rw [← e]; exact h.far i hi
    · cases hx : vs[i].ownBlock with
      | none => exact .inl rfl
      | some b => exact .inr (fun e2 => by have := hold i hi b hx; simp at e2; omega)
  have hgu : u.ownBlock = none ∨ u.ownBlock ≠ Option.some g := by
    cases hx : u.ownBlock with
    | none => exact .inl rfl
    | some b =>
      refine .inr (fun e2 => ?_)
      have h1 := hub b hx
      simp at e2
      rcases hgg with e | e
      · have := hvb g e; omega
      · omega
  have huv : u.ownBlock = none ∨ u.ownBlock ≠ v.ownBlock := by
    cases hx : u.ownBlock with
    | none => exact .inl rfl
    | some b =>
      refine .inr (fun e2 => ?_)
      have h1 := hub b hx
      have := hvb b e2.symm
      omega
  refine ⟨hO, by simp [h.len], fun i hi => ?_, fun i j hi hj hij => ?_, fun i hi => ?_⟩
  · rw [List.length_append, List.length_singleton] at hi
    by_cases e : i < vs.length
    · rw [List.getElem_append_left e, nthI_left (by rw [← h.len]; exact e)]
      exact ((h.inn i e).later hb).grown hg (h.far i e)
    · have e2 : i = vs.length := by omega
      subst e2
      rw [List.getElem_append_right (Nat.le_refl _)]
      simp only [Nat.sub_self, List.getElem_cons_zero]
      rw [h.len, nthI_last]
      exact (hu.mono hN).grown hg huv
  · rw [List.length_append, List.length_singleton] at hi hj
    by_cases e : i < vs.length
    · rw [List.getElem_append_left e]
      by_cases e2 : j < vs.length
      · rw [List.getElem_append_left e2]; exact h.apart i j e e2 hij
      · have e3 : j = vs.length := by omega
        subst e3
        rw [List.getElem_append_right (Nat.le_refl _)]
        simp only [Nat.sub_self, List.getElem_cons_zero]
        cases hx : vs[i].ownBlock with
        | none => exact .inl rfl
        | some b => exact .inr (fun e4 => by have h1 := hold i e b hx; have h2 := hub b e4.symm; omega)
    · have e3 : i = vs.length := by omega
      subst e3
      rw [List.getElem_append_right (Nat.le_refl _)]
      simp only [Nat.sub_self, List.getElem_cons_zero]
      have e2 : j < vs.length := by omega
      rw [List.getElem_append_left e2]
      cases hx : u.ownBlock with
      | none => exact .inl rfl
      | some b => exact .inr (fun e4 => by have h1 := hold j e2 b e4.symm; have h2 := hub b hx; omega)
  · rw [List.length_append, List.length_singleton] at hi
    show _ ∨ _ ≠ Option.some g
    by_cases e : i < vs.length
    · rw [List.getElem_append_left e]; exact hgi i e
    · have e2 : i = vs.length := by omega
      subst e2
      rw [List.getElem_append_right (Nat.le_refl _)]
      simp only [Nat.sub_self, List.getElem_cons_zero]
      exact hgu
/-- At the operation. -/
theorem wp_append_w {P : Program} {w : World} {o : Oper} {a : Act} {K : Act → World → Prop} {Q : Exit → Act → World → Prop} (s x : Operand) (t : TypeId) (ho : o.op = .call { callee := .builtin .append, args := #[s, x], argTypes := #[t, t] })
    (N : Nat) {i : TypeInfo} {z : Value} (ht : P.underlying t = some (.slice 56)) (hi : P.info? 56 = some i) (hz : i.zero = some z) (hz1 : i.size = 1) (hz2 : i.bytes = 24) (hz3 : z.cells.size = 1)
    (v u : Value) (vs : List Value) (hs : a.eval s = v) (hu : u.oneCell' = true) (hown : OwnW N v vs w) (ad : Addr) (c : Nat) (hx : a.eval x = .slice (some ad) 1 c) (hnew : w.cell? ad = some u) (hpl : ad.spot = none)
    (hlen : vs.length + 1 ≤ 1048576) (hbase : N ≤ w.heap.size)
    (h : ∀ g cap w', OwnW N (.slice (some ⟨g, 0, none⟩) (vs.length + 1) cap) (vs ++ [u]) w' → w.grownBy w' v.ownBlock → (v.ownBlock = some g ∨ g = w.heap.size) → K (a.put o.dst (.slice (some ⟨g, 0, none⟩) (vs.length + 1) cap)) w') : o.wp P a w K Q := by
  obtain ⟨g, cap, w', hr, h2, h3, h4⟩ := run_append_w (P := P) (t := t) (ty := o.type) ht hi hz hz1 hz2 hz3 hu hown ad c hnew hpl hlen hbase
  unfold Oper.wp execOp
  simp only [ho, resolve, invoke, builtin, Sem.run_bind, Sem.run_pure, Result.andThen_ok, List.map_toArray, List.map_cons, List.map_nil, hs, hx, hr]
  exact h g cap w' h2 h3 h4
theorem wpList_append_w {P : Program} {w : World} {ops : Array Oper} {rest : List Oper} {o : Oper} {a : Act} {Q : Exit → Act → World → Prop} (hgd : o.guard = none) (s x : Operand) (t : TypeId) (ho : o.op = .call { callee := .builtin .append, args := #[s, x], argTypes := #[t, t] })
    (N : Nat) {i : TypeInfo} {z : Value} (ht : P.underlying t = some (.slice 56)) (hi : P.info? 56 = some i) (hz : i.zero = some z) (hz1 : i.size = 1) (hz2 : i.bytes = 24) (hz3 : z.cells.size = 1)
    (v u : Value) (vs : List Value) (hs : a.eval s = v) (hu : u.oneCell' = true) (hown : OwnW N v vs w) (ad : Addr) (c : Nat) (hx : a.eval x = .slice (some ad) 1 c) (hnew : w.cell? ad = some u) (hpl : ad.spot = none)
    (hlen : vs.length + 1 ≤ 1048576) (hbase : N ≤ w.heap.size)
    (h : ∀ g cap w', OwnW N (.slice (some ⟨g, 0, none⟩) (vs.length + 1) cap) (vs ++ [u]) w' → w.grownBy w' v.ownBlock → (v.ownBlock = some g ∨ g = w.heap.size) → wpList P ops Q rest (a.put o.dst (.slice (some ⟨g, 0, none⟩) (vs.length + 1) cap)) w') : wpList P ops Q (o :: rest) a w :=
  wpList_plain hgd fun _ hK => wp_append_w s x t ho N ht hi hz hz1 hz2 hz3 v u vs hs hu hown ad c hx hnew hpl hlen hbase fun g cap w' h2 h3 h4 => hK _ _ (h g cap w' h2 h3 h4)
theorem OwnW.grownBelow {N : Nat} {v : Value} {vs : List Value} {w w' : World} (ho : OwnW N v vs w) (hg : w.grownBy w' v.ownBlock) (hN : N ≤ w.heap.size) : Below N w w' :=
  (Below.refl _ _).grown hg hN (fun k hk => (ho.lt hk).1)
/-- The mark at which the i-th list begins. -/
def offI (L : List (List Int)) (k : Int) : Nat → Int
  | 0 => k
  | i + 1 => offI L k i + ((nthI L i).length : Int)
/-- Lists of the same lengths with the marksI from k on. -/
def mkI (L : List (List Int)) (k : Int) : List (List Int) := (List.range L.length).map fun (j : Nat) => marksI (nthI L j).length (offI L k j)
/-- The first i lists are marked. -/
def updI (L : List (List Int)) (k : Int) (i : Nat) : List (List Int) := (List.range L.length).map fun (j : Nat) => if j < i then marksI (nthI L j).length (offI L k j) else nthI L j
theorem mkI_len (L : List (List Int)) (k : Int) : (mkI L k).length = L.length := by simp [mkI]
theorem updI_len (L : List (List Int)) (k : Int) (i : Nat) : (updI L k i).length = L.length := by simp [updI]
theorem nthI_mkG {L : List (List Int)} {j : Nat} (k : Int) (h : j < L.length) : nthI (mkI L k) j = marksI (nthI L j).length (offI L k j) := by
  unfold mkI
  rw [nthI, List.getD_eq_getElem?_getD, List.getElem?_map, List.getElem?_range h]; rfl
theorem nthI_updG {L : List (List Int)} {j : Nat} (k : Int) (i : Nat) (h : j < L.length) : nthI (updI L k i) j = if j < i then marksI (nthI L j).length (offI L k j) else nthI L j := by
  unfold updI
  rw [nthI, List.getD_eq_getElem?_getD, List.getElem?_map, List.getElem?_range h]; rfl
theorem updI_zero (L : List (List Int)) (k : Int) : updI L k 0 = L := by
  refine List.ext_getElem (updI_len L k 0) fun i h1 h2 => ?_
  simp [updI, nthI, h2]
theorem updI_all (L : List (List Int)) (k : Int) : updI L k L.length = mkI L k := by
  refine List.ext_getElem (by rw [updI_len, mkI_len]) fun i h1 h2 => ?_
  rw [updI_len] at h1
  simp [updI, mkI, h1]
theorem offI_in {L : List (List Int)} (h : ∀ i, i < L.length → (nthI L i).length ≤ 1000) : ∀ i, i ≤ L.length → 1 ≤ offI L 1 i ∧ offI L 1 i ≤ 1 + 2000 * (i : Int)
  | 0, _ => by simp [offI]
  | i + 1, hi => by
    have h1 := offI_in h i (by omega)
    have h2 := h i (by omega)
    unfold offI
    omega
theorem OwnIS.markedG {N : Nat} {v : Value} {L : List (List Int)} {vs : List Value} {w w' : World} {k : Int} {i : Nat} {ai : Option Addr} {n ci : Nat} (h : OwnIS N v (updI L k i) vs w) (hi : i < vs.length) (e : vs[i] = .slice ai n ci) (hO : OwnI N (.slice ai n ci) (marksI (nthI L i).length (offI L k i)) w') (hs : Spared ai w w') :
    OwnIS N v (updI L k (i + 1)) vs w' := by
  have hlen : vs.length = L.length := by rw [h.len, updI_len]
  have hblk : ∀ b off, ai = Option.some ⟨b, off, none⟩ → vs[i].ownBlock = Option.some b := by
    intro b off e'; rw [e, e']; rfl
  refine ⟨h.out.other hs fun b off e' eb => ?_, by rw [hlen, updI_len], fun j hj => ?_, h.apart, h.far⟩
  · rcases h.far i hi with h1 | h1
    · rw [hblk b off e'] at h1; cases h1
    · exact h1 (by rw [hblk b off e', eb])
  · rw [nthI_updG k (i + 1) (by omega)]
    by_cases hji : j = i
    · subst hji
      rw [if_pos (by omega), e]
      exact hO
    · have h2 := h.inn j hj
      rw [nthI_updG k i (by omega)] at h2
      have h3 := h2.other hs (fun b off e' eb => by
        rcases h.apart i j hi hj (fun x => hji x.symm) with h1 | h1
        · rw [hblk b off e'] at h1; cases h1
        · exact h1 (by rw [hblk b off e', eb]))
      by_cases hlt : j < i
      · rw [if_pos hlt] at h3
        rw [if_pos (by omega)]
        exact h3
      · rw [if_neg hlt] at h3
        rw [if_neg (by omega)]
        exact h3
set_option maxHeartbeats 4000000 in
set_option maxRecDepth 8000 in
theorem markIS_c (N : Nat) (L : List (List Int)) (vs : List Value) (a : Option Addr) (n cap : Nat) (w : World) (hn : L.length = n) (h1 : n ≤ 4000) (h3 : ∀ i, i < n → (nthI L i).length ≤ 1000) (hO : OwnIS N (.slice a n cap) L vs w) (hN : N ≤ w.heap.size) :
    Calls Tryd.prog 29 #[.slice a n cap, .int .i64 1] w fun e w' => e = .returned (.int .i64 (offI L 1 n)) ∧ OwnIS N (.slice a n cap) (mkI L 1) vs w' ∧ Below N w w' := by
  subst hn
  have HO := hid hO
  have HF := hid (fun i hi => offI_in (L := L) h3 i hi)
  clear hO
  go_enter Tryd.func29, Tryd.ntmps29
  go_wp2
  go_loopw [1, 5] (fun kk ii wr => ∃ i : Nat, i ≤ L.length ∧ kk = .int .i64 (offI L 1 i) ∧ ii = .int .i64 i ∧ OwnIS N (.slice a L.length cap) (updI L 1 i) vs wr ∧ Below N w wr) (fun _ ii _ => L.length - (intOf ii).toNat)
  case atStart => exact ⟨0, Nat.zero_le _, rfl, rfl, by rw [updI_zero]; exact HO.out, Below.refl _ _⟩
  case round =>
    obtain ⟨i, hi, rfl, rfl, hS, hbw⟩ := hrel
    have HS := hid hS
    have HBW := hid hbw
    by_cases hil : i < L.length
    · have hiv : i < vs.length := by rw [hS.len, updI_len]; exact hil
      obtain ⟨g, rfl, hg1, hg2, q0⟩ := hS.out.cell hiv
      have hin := hS.inn i hiv
      obtain ⟨ai, ci, ev⟩ := hin.shape
      have hl3 : nthI (updI L 1 i) i = nthI L i := by rw [nthI_updG 1 i hil, if_neg (Nat.lt_irrefl _)]
      rw [hl3] at ev hin
      have hfi := HF.out i hi
      have hf1 := h3 i hil
      have hoff : offI L 1 (i + 1) = offI L 1 i + ((nthI L i).length : Int) := rfl
      obtain ⟨ln, hln⟩ : ∃ ln, (nthI L i).length = ln := ⟨_, rfl⟩
      rw [hln] at ev hf1 hoff
      have HLN := hid hln
      obtain ⟨of, hof⟩ : ∃ of, offI L 1 i = of := ⟨_, rfl⟩
      have HOF := hid hof
      rw [hof] at hfi hoff ⊢
      have HOO := hid hoff
      rw [ev] at hin q0
      have HI := hid hin
      have HV := hid ev
      have hd : decide ((i : Int) < (L.length : Int)) = true := decide_eq_true (by omega)
      have j0 : (0 : Int) ≤ (i : Int) := by omega
      have j1 : (i : Int) < (L.length : Int) := by omega
      have hsz := hbw.size
      clear hS hbw hin ev hl3 hln hof hoff
      go_wp2_with (go_at_call 62; refine (markI_c _ N ai ln ci of wr (by omega) (by omega) (by omega) HI.out).mono ?_; rintro e w2 ⟨rfl, hO2, hs2⟩)
      go_roundw
      case rel => exact ⟨i + 1, by omega, by rw [HOO.out], by go_num, HS.out.markedG hiv HV.out (by rw [HLN.out, HOF.out]; exact hO2) hs2, HBW.out.trans (hs2.below (Nat.le_trans hN hsz) (fun b off e => by subst e; exact (HI.out.lt rfl).1))⟩
      case measure => simp [intOf]; omega
    · obtain rfl : i = L.length := by omega
      have hd : decide ((L.length : Int) < (L.length : Int)) = false := decide_eq_false (by omega)
      clear hS hbw
      obtain ⟨of, hof⟩ : ∃ of, offI L 1 L.length = of := ⟨_, rfl⟩
      rw [hof]
      go_wp2
      go_ret
      exact ⟨by rw [hof]; rfl, by have := HS.out; rwa [updI_all] at this, HBW.out⟩
set_option maxHeartbeats 4000000 in
set_option maxRecDepth 8000 in
theorem heldIS_c (L : List (List Int)) (a : Option Addr) (n cap : Nat) (w : World) (hn : L.length = n) (h1 : n ≤ 4000) (h3 : ∀ i, i < n → (nthI L i).length ≤ 1000) (hA : AtIS w.heap.size a (mkI L 1) w) :
    Calls Tryd.prog 30 #[.slice a n cap, .int .i64 1] w fun e w' => e = .returned (.int .i64 (offI L 1 n)) ∧ Below w.heap.size w w' := by
  subst hn
  have HA := hid hA
  have HF := hid (fun i hi => offI_in (L := L) h3 i hi)
  clear hA
  go_enter Tryd.func30, Tryd.ntmps30
  go_wp2
  go_loopw [1, 5] (fun kk ii wr => ∃ i : Nat, i ≤ L.length ∧ kk = .int .i64 (offI L 1 i) ∧ ii = .int .i64 i ∧ Below w.heap.size w wr) (fun _ ii _ => L.length - (intOf ii).toNat)
  case atStart => exact ⟨0, Nat.zero_le _, rfl, rfl, Below.refl _ _⟩
  case round =>
    obtain ⟨i, hi, rfl, rfl, hbw⟩ := hrel
    by_cases hil : i < L.length
    · obtain ⟨b, off, ai, ci, rfl, hN, g0, i0⟩ := HA.out i (by rw [mkI_len]; exact hil)
      rw [nthI_mkG 1 hil, marksI_len] at g0
      rw [nthI_mkG 1 hil] at i0
      have hfi := HF.out i hi
      have hf1 := h3 i hil
      have hoff : offI L 1 (i + 1) = offI L 1 i + ((nthI L i).length : Int) := rfl
      obtain ⟨ln, hln⟩ : ∃ ln, (nthI L i).length = ln := ⟨_, rfl⟩
      rw [hln] at g0 i0 hf1 hoff
      obtain ⟨of, hof⟩ : ∃ of, offI L 1 i = of := ⟨_, rfl⟩
      rw [hof] at hfi hoff i0 ⊢
      have HOO := hid hoff
      have q0 := cell_later hbw g0
      have I0 := hid ((i0.later hbw).mono hbw.size)
      have hd : decide ((i : Int) < (L.length : Int)) = true := decide_eq_true (by omega)
      have j0 : (0 : Int) ≤ (i : Int) := by omega
      have j1 : (i : Int) < (L.length : Int) := by omega
      have HBW := hid hbw
      clear g0 i0 hbw hln hof hoff
      go_wp2_with (go_at_call 63; refine (heldI_c ai ln ci of wr (by omega) (by omega) (by omega) I0.out).mono ?_; rintro e w2 ⟨rfl, hb2⟩; have hneg : decide (of + (ln : Int) < 0) = false := decide_eq_false (by omega))
      go_roundw
      case rel => exact ⟨i + 1, by omega, by rw [HOO.out], by go_num, grew HBW.out hb2⟩
      case measure => simp [intOf]; omega
    · obtain rfl : i = L.length := by omega
      have hd : decide ((L.length : Int) < (L.length : Int)) = false := decide_eq_false (by omega)
      obtain ⟨of, hof⟩ : ∃ of, offI L 1 L.length = of := ⟨_, rfl⟩
      rw [hof]
      go_wp2
      go_ret
      exact ⟨by rw [hof]; rfl, hbw⟩
end Go.Proofs.YtipiamhnngmjmaaDoor
