/-
  A point put into a list, in the specification (a contract for the walks).
  Conditions: as each theorem states them.
-/
import Derived.Test.YtegmlemejmahiaaDoorSet11
import Derived.Deep.AppendLies
namespace Go.Proofs.YtegmlemejmahiaaDoor
open Go.RowKit
set_option linter.unusedVariables false
theorem At.take {N : Nat} {a : Option Addr} {l : List (Int × Int)} {w : World} (h : At N a l w) (k : Nat) : At N a (l.take k) w := fun i hi => by
  rw [List.length_take] at hi
  obtain ⟨b, off, e, hb, h0, h1⟩ := h i (by omega)
  have e0 : px (l.take k) i = px l i := by simp [px, show i < k by omega]
  have e1 : py (l.take k) i = py l i := by simp [py, show i < k by omega]
  exact ⟨b, off, e, hb, by rw [e0]; exact h0, by rw [e1]; exact h1⟩
theorem at_nil (N : Nat) (a : Option Addr) (w : World) : At N a [] w := fun i hi => absurd hi (Nat.not_lt_zero _)
theorem cut_own {N k : Nat} {v : Value} {l : List (Int × Int)} {w : World} (h : Own N v (l.take k) w) (hk : (l.take k).length = k) : w.ownsRow N 26 2 v k (cells (l.take k)) := by
  have := row_of h
  rwa [hk] at this
theorem keepG {w3 W W' : World} {n : Nat} {i j : Nat} {v0 v1 : Value} {row : Option Nat} (hg : W.grownBy W' row) (hr : ∀ q, row = some q → w3.heap.size ≤ q) (hn : n < w3.heap.size) (h : W.cell? ⟨n, i, none⟩ = some v0 ∧ W.cell? ⟨n, j, none⟩ = some v1 ∧ Below w3.heap.size w3 W) :
    W'.cell? ⟨n, i, none⟩ = some v0 ∧ W'.cell? ⟨n, j, none⟩ = some v1 ∧ Below w3.heap.size w3 W' := by
  have hb : Below w3.heap.size W W' := (Below.refl _ _).grown hg h.2.2.size hr
  exact ⟨(hb.cell hn).trans h.1, (hb.cell hn).trans h.2.1, h.2.2.trans hb⟩
theorem plc_le (l : List (Int × Int)) (x y : Int) : plc l x y ≤ l.length := by
  unfold plc
  exact (List.takeWhile_prefix _).length_le
def putR (l : List (Int × Int)) (x y : Int) : List (Int × Int) := l.take (plc l x y) ++ (x, y) :: l.drop (plc l x y)
set_option maxHeartbeats 2000000 in
theorem l2Put_new (l : List (Int × Int)) (x y : Int) (a : Option Addr) (len cap : Nat) (w : World) (hl : l.length = len) (h1 : len ≤ 1048576) (hF : Fit a len cap) (hA : At w.heap.size a l w) (hN : hasB l x y = false) :
    Calls Tryd.prog 82 #[.slice a len cap, .agg #[.int .i64 x, .int .i64 y]] w fun e w' => ∃ v, e = .returned v ∧ Own w.heap.size v (putR l x y) w' ∧ Below w.heap.size w w' := by
  subst hl
  have HA := hid hA
  clear hA
  obtain ⟨i0, hi, hz0, hz1, hz2⟩ := info_parts info_pt
  have hC := l2Place_c l x y a l.length cap (w.alloc (.cells #[.int .i64 x, .int .i64 y] 26)) rfl h1 ((HA.out.later (by go_grown)).mono (by simp))
  obtain ⟨k, hk⟩ : ∃ k, plc l x y = k := ⟨_, rfl⟩
  have hkl : k ≤ l.length := by rw [← hk]; exact plc_le l x y
  rw [hk] at hC
  rw [putR, hk]
  rw [hasB, hk] at hN
  rcases hF with ⟨rfl, rfl, hl0⟩ | ⟨⟨b, off, rfl⟩, hlc, hcm⟩
  · obtain rfl := List.eq_nil_of_length_eq_zero hl0
    obtain rfl : k = 0 := by simpa using hkl
    have hd : decide (0 < 0) = false := rfl
    clear hN hk hkl
    simp only [List.length_nil] at hC h1 ⊢
    go_enter Tryd.func82, Tryd.ntmps82
    go_wp2_with (go_at_call 102; refine hC.mono ?_; rintro e w2 ⟨rfl, hb⟩; have hb2 : Below w.heap.size w w2 := grew (by go_grown) hb; have c0 := cell_later hb (box0 w x y 26); have c1 := cell_later hb (box1 w x y 26))
    go_quiet (fail)
    rename_i nq
    go_wp2
    have hbq := drewN_below nq w2
    have d0 := cell_later hbq c0
    have d1 := cell_later hbq c1
    have hb3 : Below w.heap.size w (w2.drewN nq) := grew hb2 hbq
    generalize w2.drewN nq = w3 at d0 d1 hb3 ⊢
    clear hbq
    have hsz3 := hb3.size
    have hlt3 : w.heap.size < w3.heap.size := World.block_lt_of_cell? w3 _ d0
    refine wp_region_noPanic ?_
    refine wp_region_held_drew (S := (fun u => u.cell? ⟨w.heap.size, 0, none⟩ = some (.int .i64 x) ∧ u.cell? ⟨w.heap.size, 1, none⟩ = some (.int .i64 y) ∧ Below w3.heap.size w3 u)) (by kernel_rfl) ?_ (fun hHeld => ?_)
    · exact ⟨cell_later (Below.refl _ _).drew d0, cell_later (Below.refl _ _).drew d1, (Below.refl _ _).drew⟩
    refine wpAnyH_take (i := 0) (oi := { dst := some 23, op := Op.move (Operand.tmp 0), type := 29, pos := "l2_set.go:37", after := #[], guard := none }) (v := ?v104x0) rfl (by kernel_rfl) (by kernel_rfl) (by kernel_rfl) (fun _ _ _ h => h) (Or.inl ⟨by rfl, ?hy104x0⟩) (by with_reducible assumption) ?rest104x0
    case hy104x0 => (intro w hSw; (try dsimp only at hSw); go_simp; try with_reducible rfl)
    case' rest104x0 => (try simp only [Act.put, List.setIfInBounds_toArray, List.set_cons_zero, List.set_cons_succ])
    refine wpAnyH_take (i := 1) (oi := { dst := some 24, op := Op.move (Operand.tmp 5), type := 3, pos := "l2_set.go:37", after := #[], guard := none }) (v := ?v104x1) rfl (by kernel_rfl) (by kernel_rfl) (by kernel_rfl) (fun _ _ _ h => h) (Or.inl ⟨by rfl, ?hy104x1⟩) (by with_reducible assumption) ?rest104x1
    case hy104x1 => (intro w hSw; (try dsimp only at hSw); go_simp; try with_reducible rfl)
    case' rest104x1 => (try simp only [Act.put, List.setIfInBounds_toArray, List.set_cons_zero, List.set_cons_succ])
    refine wpAnyH_take (i := 2) (oi := { dst := some 25, op := Op.slice 29 (Operand.tmp 23) none (some (Operand.tmp 24)) none, type := 29, pos := "l2_set.go:37", after := #[{ on := 0, ground := Ground.data }, { on := 1, ground := Ground.data }], guard := none }) (v := ?v104x2) rfl (by kernel_rfl) (by kernel_rfl) (by kernel_rfl) (fun _ _ _ h => h) (Or.inl ⟨by rfl, ?hy104x2⟩) (by with_reducible assumption) ?rest104x2
    case hy104x2 => (intro w hSw; (try dsimp only at hSw); go_simp; try with_reducible rfl)
    case' rest104x2 => (try simp only [Act.put, List.setIfInBounds_toArray, List.set_cons_zero, List.set_cons_succ])
    refine wpAnyH_take (i := 4) (oi := { dst := some 27, op := Op.load 26 (Operand.tmp 3), type := 26, pos := "l2_set.go:37", after := #[], guard := none }) (v := ?v104x4) rfl (by kernel_rfl) (by kernel_rfl) (by kernel_rfl) (fun _ _ _ h => h) (Or.inl ⟨by rfl, ?hy104x4⟩) (by with_reducible assumption) ?rest104x4
    case hy104x4 => (intro w hSw; (try dsimp only at hSw); go_simp; try with_reducible rfl)
    case' rest104x4 => (try simp only [Act.put, List.setIfInBounds_toArray, List.set_cons_zero, List.set_cons_succ])
    refine wpAnyH_ready (rs := [3, 5]) (by kernel_rfl) (by simp) ?_
    refine AllReadyH.cons (o := { dst := some 26, op := Op.call { callee := Callee.value (Operand.func 54), args := #[Operand.tmp 25], argTypes := #[29] }, type := 29, pos := "l2_set.go:37", after := #[{ on := 2, ground := Ground.data }], guard := none }) rfl (fun K hK => ?_) (AllReadyH.cons (o := { dst := some 28, op := Op.buildSlice 29 1 #[(0, Operand.tmp 27)], type := 29, pos := "l2_set.go:37", after := #[{ on := 4, ground := Ground.data }], guard := none }) rfl (fun K hK => ?_) AllReadyH.nil)
    · go_simp
      refine (l2Own_c [] _ _ _ _ rfl (by omega) (.inl ⟨rfl, rfl, rfl⟩) (at_nil _ _ _)).mono ?_
      rintro e w4 ⟨v4, rfl, ho4, hb4⟩
      replace ho4 := ho4.mono (fin2 (by with_reducible assumption) : Below w3.heap.size w3 _).size
      go_wp2_with fail
      refine hK.out _ _ ?_ (fun hHeld => ?_)
      · exact keep2 hb4 (by with_reducible assumption)
      clear hK K
      try simp only [Act.put, List.setIfInBounds_toArray, List.set_cons_zero, List.set_cons_succ]
      refine wpAnyH_ready (rs := [5]) (by kernel_rfl) (by simp) ?_
      refine AllReadyH.cons (o := { dst := some 28, op := Op.buildSlice 29 1 #[(0, Operand.tmp 27)], type := 29, pos := "l2_set.go:37", after := #[{ on := 4, ground := Ground.data }], guard := none }) rfl (fun K hK => ?_) AllReadyH.nil
      go_simp
      refine hK.out _ _ ?_ (fun hHeld => ?_)
      · (refine keep2 ?_ (by with_reducible assumption); go_grown)
      clear hK K
      try simp only [Act.put, List.setIfInBounds_toArray, List.set_cons_zero, List.set_cons_succ]
      refine wpAnyH_ready (rs := [6]) (by kernel_rfl) (by simp) ?_
      refine AllReadyH.cons (o := { dst := some 29, op := Op.call { callee := Callee.builtin Builtin.append, args := #[Operand.tmp 26, Operand.tmp 28], argTypes := #[29, 29] }, type := 29, pos := "l2_set.go:37", after := #[{ on := 3, ground := Ground.data }, { on := 5, ground := Ground.data }, { on := 3, ground := Ground.chain }], guard := none }) rfl (fun K hK => ?_) AllReadyH.nil
      refine step_append_lies _ rfl (.tmp 26) (.tmp 28) 29 rfl w3.heap.size 26 i0 _ 2 16 Tryd.underlying29 hi hz0 hz1 hz2 rfl (by decide) _ _ _ rfl ((row_of ho4).alloc _) ⟨w4.heap.size, 0, none⟩ 1 1 (cells [(x, y)]) rfl rfl (one_src w4 x y _ rfl) (cells_ones _) (by decide) (by unfold maxLen; omega) (by omega) (fin2 (by with_reducible assumption)).size _ rfl ?_
      intro g5 cp5 w5 hown5 hgrow5 _ _
      have hS5 := keepG hgrow5 (fun q hq => ((row_of ho4).lt q hq).1) hlt3 (by with_reducible assumption)
      have HO5 := hid hown5
      clear hgrow5 hown5
      refine hK.out _ _ ?_ (fun hHeld => ?_)
      · with_reducible exact hS5
      clear hK K
      try simp only [Act.put, List.setIfInBounds_toArray, List.set_cons_zero, List.set_cons_succ]
      refine wpAnyH_take (i := 7) (oi := { dst := some 6, op := Op.assign (Operand.tmp 29), type := 29, pos := "l2_set.go:37", after := #[{ on := 6, ground := Ground.data }, { on := 6, ground := Ground.chain }, { on := 0, ground := Ground.phase }, { on := 1, ground := Ground.phase }, { on := 2, ground := Ground.phase }, { on := 3, ground := Ground.phase }, { on := 4, ground := Ground.phase }, { on := 5, ground := Ground.phase }, { on := 6, ground := Ground.phase }], guard := none }) (v := ?v104ax7) rfl (by kernel_rfl) (by kernel_rfl) (by kernel_rfl) (fun _ _ _ h => h) (Or.inl ⟨by rfl, ?hy104ax7⟩) (by with_reducible assumption) ?rest104ax7
      case hy104ax7 => (intro w hSw; (try dsimp only at hSw); go_simp; try with_reducible rfl)
      case' rest104ax7 => (try simp only [Act.put, List.setIfInBounds_toArray, List.set_cons_zero, List.set_cons_succ])
      refine wpAnyH_done (by kernel_rfl) ?_ _
      refine NoPanic.normal ?_
      have hb35 : Below w3.heap.size w3 w5 := hS5.2.2
      go_wp2_with (at_builtin; refine wpList_append_own_none rfl (.tmp 30) (.tmp 33) 29 rfl w3.heap.size 26 i0 2 Tryd.underlying29 hi _ _ _ rfl HO5.out rfl ?_)
      go_ret
      exact ⟨_, rfl, (own_of (l := [(x, y)]) HO5.out).mono hsz3, grew hb3 hb35⟩
    · go_simp
      refine hK.out _ _ ?_ (fun hHeld => ?_)
      · exact ⟨cell_later (w := w3) (by go_grown) d0, cell_later (w := w3) (by go_grown) d1, (by go_grown : Below w3.heap.size w3 _)⟩
      clear hK K
      try simp only [Act.put, List.setIfInBounds_toArray, List.set_cons_zero, List.set_cons_succ]
      refine wpAnyH_ready (rs := [3]) (by kernel_rfl) (by simp) ?_
      refine AllReadyH.cons (o := { dst := some 26, op := Op.call { callee := Callee.value (Operand.func 54), args := #[Operand.tmp 25], argTypes := #[29] }, type := 29, pos := "l2_set.go:37", after := #[{ on := 2, ground := Ground.data }], guard := none }) rfl (fun K hK => ?_) AllReadyH.nil
      go_simp
      refine (l2Own_c [] _ _ _ _ rfl (by omega) (.inl ⟨rfl, rfl, rfl⟩) (at_nil _ _ _)).mono ?_
      rintro e w4 ⟨v4, rfl, ho4, hb4⟩
      replace ho4 := ho4.mono (fin2 (by with_reducible assumption) : Below w3.heap.size w3 _).size
      go_wp2_with fail
      refine hK.out _ _ ?_ (fun hHeld => ?_)
      · exact keep2 hb4 (by with_reducible assumption)
      clear hK K
      try simp only [Act.put, List.setIfInBounds_toArray, List.set_cons_zero, List.set_cons_succ]
      refine wpAnyH_ready (rs := [6]) (by kernel_rfl) (by simp) ?_
      refine AllReadyH.cons (o := { dst := some 29, op := Op.call { callee := Callee.builtin Builtin.append, args := #[Operand.tmp 26, Operand.tmp 28], argTypes := #[29, 29] }, type := 29, pos := "l2_set.go:37", after := #[{ on := 3, ground := Ground.data }, { on := 5, ground := Ground.data }, { on := 3, ground := Ground.chain }], guard := none }) rfl (fun K hK => ?_) AllReadyH.nil
      refine step_append_lies _ rfl (.tmp 26) (.tmp 28) 29 rfl w3.heap.size 26 i0 _ 2 16 Tryd.underlying29 hi hz0 hz1 hz2 rfl (by decide) _ _ _ rfl (row_of ho4) ⟨w3.heap.size, 0, none⟩ 1 1 (cells [(x, y)]) rfl rfl (fun j u hu => cell_later hb4 (one_src w3 x y _ rfl j u hu)) (cells_ones _) (by decide) (by unfold maxLen; omega) (by omega) (fin2 (by with_reducible assumption)).size _ rfl ?_
      intro g5 cp5 w5 hown5 hgrow5 _ _
      have hS5 := keepG hgrow5 (fun q hq => ((row_of ho4).lt q hq).1) hlt3 (by with_reducible assumption)
      have HO5 := hid hown5
      clear hgrow5 hown5
      refine hK.out _ _ ?_ (fun hHeld => ?_)
      · with_reducible exact hS5
      clear hK K
      try simp only [Act.put, List.setIfInBounds_toArray, List.set_cons_zero, List.set_cons_succ]
      refine wpAnyH_take (i := 7) (oi := { dst := some 6, op := Op.assign (Operand.tmp 29), type := 29, pos := "l2_set.go:37", after := #[{ on := 6, ground := Ground.data }, { on := 6, ground := Ground.chain }, { on := 0, ground := Ground.phase }, { on := 1, ground := Ground.phase }, { on := 2, ground := Ground.phase }, { on := 3, ground := Ground.phase }, { on := 4, ground := Ground.phase }, { on := 5, ground := Ground.phase }, { on := 6, ground := Ground.phase }], guard := none }) (v := ?v104bx7) rfl (by kernel_rfl) (by kernel_rfl) (by kernel_rfl) (fun _ _ _ h => h) (Or.inl ⟨by rfl, ?hy104bx7⟩) (by with_reducible assumption) ?rest104bx7
      case hy104bx7 => (intro w hSw; (try dsimp only at hSw); go_simp; try with_reducible rfl)
      case' rest104bx7 => (try simp only [Act.put, List.setIfInBounds_toArray, List.set_cons_zero, List.set_cons_succ])
      refine wpAnyH_done (by kernel_rfl) ?_ _
      refine NoPanic.normal ?_
      have hb35 : Below w3.heap.size w3 w5 := hS5.2.2
      go_wp2_with (at_builtin; refine wpList_append_own_none rfl (.tmp 30) (.tmp 33) 29 rfl w3.heap.size 26 i0 2 Tryd.underlying29 hi _ _ _ rfl HO5.out rfl ?_)
      go_ret
      exact ⟨_, rfl, (own_of (l := [(x, y)]) HO5.out).mono hsz3, grew hb3 hb35⟩
  · have hk1 : (0 : Int) ≤ (k : Int) := by omega
    have hk2 : (k : Int) ≤ (l.length : Int) := by omega
    have hk3 : (k : Int) ≤ (cap : Int) := by omega
    have hl1 : (l.length : Int) ≤ (cap : Int) := by omega
    by_cases hlt : k < l.length
    · obtain ⟨b', off', hbo, hbN, g0, g1⟩ := HA.out k hlt
      obtain ⟨rfl, rfl⟩ : b = b' ∧ off = off' := by simp at hbo; exact hbo
      have hi2 : (k : Int) < (l.length : Int) := by omega
      rw [decide_eq_true hlt, Bool.true_and] at hN
      by_cases e1 : px l k = x
      · by_cases e2 : py l k = y
        · rw [eqB, decide_eq_true ⟨e1, e2⟩] at hN; cases hN
        · have e3 : (py l k == y) = false := by simpa using e2
          rw [e1] at g0
          clear e1 e2 hN
          go_enter Tryd.func82, Tryd.ntmps82
          go_wp2_with (go_at_call 102; refine hC.mono ?_; rintro e w2 ⟨rfl, hb⟩; have hb2 : Below w.heap.size w w2 := grew (by go_grown) hb; have c0 := cell_later hb (box0 w x y 26); have c1 := cell_later hb (box1 w x y 26); have c2 := cell_later hb2 g0; have c3 := cell_later hb2 g1)
          go_quiet (fail)
          rename_i nq
          go_wp2
          have hbq := drewN_below nq w2
          have d0 := cell_later hbq c0
          have d1 := cell_later hbq c1
          have hb3 : Below w.heap.size w (w2.drewN nq) := grew hb2 hbq
          generalize w2.drewN nq = w3 at d0 d1 hb3 ⊢
          clear hbq
          have hsz3 := hb3.size
          have hlt3 : w.heap.size < w3.heap.size := World.block_lt_of_cell? w3 _ d0
          refine wp_region_noPanic ?_
          refine wp_region_held_drew (S := (fun u => u.cell? ⟨w.heap.size, 0, none⟩ = some (.int .i64 x) ∧ u.cell? ⟨w.heap.size, 1, none⟩ = some (.int .i64 y) ∧ Below w3.heap.size w3 u)) (by kernel_rfl) ?_ (fun hHeld => ?_)
          · exact ⟨cell_later (Below.refl _ _).drew d0, cell_later (Below.refl _ _).drew d1, (Below.refl _ _).drew⟩
          refine wpAnyH_take (i := 0) (oi := { dst := some 23, op := Op.move (Operand.tmp 0), type := 29, pos := "l2_set.go:37", after := #[], guard := none }) (v := ?v103x0) rfl (by kernel_rfl) (by kernel_rfl) (by kernel_rfl) (fun _ _ _ h => h) (Or.inl ⟨by rfl, ?hy103x0⟩) (by with_reducible assumption) ?rest103x0
          case hy103x0 => (intro w hSw; (try dsimp only at hSw); go_simp; try with_reducible rfl)
          case' rest103x0 => (try simp only [Act.put, List.setIfInBounds_toArray, List.set_cons_zero, List.set_cons_succ])
          refine wpAnyH_take (i := 1) (oi := { dst := some 24, op := Op.move (Operand.tmp 5), type := 3, pos := "l2_set.go:37", after := #[], guard := none }) (v := ?v103x1) rfl (by kernel_rfl) (by kernel_rfl) (by kernel_rfl) (fun _ _ _ h => h) (Or.inl ⟨by rfl, ?hy103x1⟩) (by with_reducible assumption) ?rest103x1
          case hy103x1 => (intro w hSw; (try dsimp only at hSw); go_simp; try with_reducible rfl)
          case' rest103x1 => (try simp only [Act.put, List.setIfInBounds_toArray, List.set_cons_zero, List.set_cons_succ])
          refine wpAnyH_take (i := 2) (oi := { dst := some 25, op := Op.slice 29 (Operand.tmp 23) none (some (Operand.tmp 24)) none, type := 29, pos := "l2_set.go:37", after := #[{ on := 0, ground := Ground.data }, { on := 1, ground := Ground.data }], guard := none }) (v := ?v103x2) rfl (by kernel_rfl) (by kernel_rfl) (by kernel_rfl) (fun _ _ _ h => h) (Or.inl ⟨by rfl, ?hy103x2⟩) (by with_reducible assumption) ?rest103x2
          case hy103x2 => (intro w hSw; (try dsimp only at hSw); go_simp; try with_reducible rfl)
          case' rest103x2 => (try simp only [Act.put, List.setIfInBounds_toArray, List.set_cons_zero, List.set_cons_succ])
          refine wpAnyH_take (i := 4) (oi := { dst := some 27, op := Op.load 26 (Operand.tmp 3), type := 26, pos := "l2_set.go:37", after := #[], guard := none }) (v := ?v103x4) rfl (by kernel_rfl) (by kernel_rfl) (by kernel_rfl) (fun _ _ _ h => h) (Or.inl ⟨by rfl, ?hy103x4⟩) (by with_reducible assumption) ?rest103x4
          case hy103x4 => (intro w hSw; (try dsimp only at hSw); go_simp; try with_reducible rfl)
          case' rest103x4 => (try simp only [Act.put, List.setIfInBounds_toArray, List.set_cons_zero, List.set_cons_succ])
          refine wpAnyH_ready (rs := [3, 5]) (by kernel_rfl) (by simp) ?_
          refine AllReadyH.cons (o := { dst := some 26, op := Op.call { callee := Callee.value (Operand.func 54), args := #[Operand.tmp 25], argTypes := #[29] }, type := 29, pos := "l2_set.go:37", after := #[{ on := 2, ground := Ground.data }], guard := none }) rfl (fun K hK => ?_) (AllReadyH.cons (o := { dst := some 28, op := Op.buildSlice 29 1 #[(0, Operand.tmp 27)], type := 29, pos := "l2_set.go:37", after := #[{ on := 4, ground := Ground.data }], guard := none }) rfl (fun K hK => ?_) AllReadyH.nil)
          · go_simp
            refine (l2Own_c (l.take k) _ _ _ _ (by rw [List.length_take]; omega) (by omega) (.inr ⟨⟨b, off, rfl⟩, by omega, hcm⟩) (((HA.out.take k).later (grew hb3 (fin2 (by with_reducible assumption)))).mono (grew hb3 (fin2 (by with_reducible assumption))).size)).mono ?_
            rintro e w4 ⟨v4, rfl, ho4, hb4⟩
            replace ho4 := ho4.mono (fin2 (by with_reducible assumption) : Below w3.heap.size w3 _).size
            go_wp2_with fail
            refine hK.out _ _ ?_ (fun hHeld => ?_)
            · exact keep2 hb4 (by with_reducible assumption)
            clear hK K
            try simp only [Act.put, List.setIfInBounds_toArray, List.set_cons_zero, List.set_cons_succ]
            refine wpAnyH_ready (rs := [5]) (by kernel_rfl) (by simp) ?_
            refine AllReadyH.cons (o := { dst := some 28, op := Op.buildSlice 29 1 #[(0, Operand.tmp 27)], type := 29, pos := "l2_set.go:37", after := #[{ on := 4, ground := Ground.data }], guard := none }) rfl (fun K hK => ?_) AllReadyH.nil
            go_simp
            refine hK.out _ _ ?_ (fun hHeld => ?_)
            · (refine keep2 ?_ (by with_reducible assumption); go_grown)
            clear hK K
            try simp only [Act.put, List.setIfInBounds_toArray, List.set_cons_zero, List.set_cons_succ]
            refine wpAnyH_ready (rs := [6]) (by kernel_rfl) (by simp) ?_
            refine AllReadyH.cons (o := { dst := some 29, op := Op.call { callee := Callee.builtin Builtin.append, args := #[Operand.tmp 26, Operand.tmp 28], argTypes := #[29, 29] }, type := 29, pos := "l2_set.go:37", after := #[{ on := 3, ground := Ground.data }, { on := 5, ground := Ground.data }, { on := 3, ground := Ground.chain }], guard := none }) rfl (fun K hK => ?_) AllReadyH.nil
            refine step_append_lies _ rfl (.tmp 26) (.tmp 28) 29 rfl w3.heap.size 26 i0 _ 2 16 Tryd.underlying29 hi hz0 hz1 hz2 rfl (by decide) _ _ _ rfl ((cut_own ho4 (by rw [List.length_take]; omega)).alloc _) ⟨w4.heap.size, 0, none⟩ 1 1 (cells [(x, y)]) rfl rfl (one_src w4 x y _ rfl) (cells_ones _) (by decide) (by unfold maxLen; omega) (by omega) (fin2 (by with_reducible assumption)).size _ rfl ?_
            intro g5 cp5 w5 hown5 hgrow5 _ _
            have hS5 := keepG hgrow5 (fun q hq => ((cut_own ho4 (by rw [List.length_take]; omega)).lt q hq).1) hlt3 (by with_reducible assumption)
            have HO5 := hid hown5
            clear hgrow5 hown5
            refine hK.out _ _ ?_ (fun hHeld => ?_)
            · with_reducible exact hS5
            clear hK K
            try simp only [Act.put, List.setIfInBounds_toArray, List.set_cons_zero, List.set_cons_succ]
            refine wpAnyH_take (i := 7) (oi := { dst := some 6, op := Op.assign (Operand.tmp 29), type := 29, pos := "l2_set.go:37", after := #[{ on := 6, ground := Ground.data }, { on := 6, ground := Ground.chain }, { on := 0, ground := Ground.phase }, { on := 1, ground := Ground.phase }, { on := 2, ground := Ground.phase }, { on := 3, ground := Ground.phase }, { on := 4, ground := Ground.phase }, { on := 5, ground := Ground.phase }, { on := 6, ground := Ground.phase }], guard := none }) (v := ?v103ax7) rfl (by kernel_rfl) (by kernel_rfl) (by kernel_rfl) (fun _ _ _ h => h) (Or.inl ⟨by rfl, ?hy103ax7⟩) (by with_reducible assumption) ?rest103ax7
            case hy103ax7 => (intro w hSw; (try dsimp only at hSw); go_simp; try with_reducible rfl)
            case' rest103ax7 => (try simp only [Act.put, List.setIfInBounds_toArray, List.set_cons_zero, List.set_cons_succ])
            refine wpAnyH_done (by kernel_rfl) ?_ _
            refine NoPanic.normal ?_
            have hb35 : Below w3.heap.size w3 w5 := hS5.2.2
            have HA5 := hid (HA.out.later (grew hb3 hb35))
            go_wp2_with (at_builtin; refine wpList_append_own _ rfl (.tmp 30) (.tmp 33) 29 rfl w3.heap.size 26 i0 _ 2 16 Tryd.underlying29 hi hz0 hz1 hz2 rfl (by decide) _ _ _ rfl HO5.out _ _ _ (cells (l.drop k)) rfl (by rw [cells_len, List.length_drop] ; try omega) ((cells_src HA5.out (by intro h; first | rfl | (exfalso; omega) | (have hne : ¬ cap = k := (by omega); simp [hne]))) _ rfl) (cells_ones _) (by unfold maxLen; omega) (by omega) hb35.size ?_; intro v6 w6 hown6 hgrow6 _)
            all_goals go_ret
            all_goals rw [put_cells] at hown6
            all_goals exact ⟨_, rfl, (own_of hown6).mono hsz3, grew hb3 (hb35.grown hgrow6 hb35.size (fun q hq => (HO5.out.lt q hq).1))⟩
          · go_simp
            refine hK.out _ _ ?_ (fun hHeld => ?_)
            · exact ⟨cell_later (w := w3) (by go_grown) d0, cell_later (w := w3) (by go_grown) d1, (by go_grown : Below w3.heap.size w3 _)⟩
            clear hK K
            try simp only [Act.put, List.setIfInBounds_toArray, List.set_cons_zero, List.set_cons_succ]
            refine wpAnyH_ready (rs := [3]) (by kernel_rfl) (by simp) ?_
            refine AllReadyH.cons (o := { dst := some 26, op := Op.call { callee := Callee.value (Operand.func 54), args := #[Operand.tmp 25], argTypes := #[29] }, type := 29, pos := "l2_set.go:37", after := #[{ on := 2, ground := Ground.data }], guard := none }) rfl (fun K hK => ?_) AllReadyH.nil
            go_simp
            refine (l2Own_c (l.take k) _ _ _ _ (by rw [List.length_take]; omega) (by omega) (.inr ⟨⟨b, off, rfl⟩, by omega, hcm⟩) (((HA.out.take k).later (grew hb3 (fin2 (by with_reducible assumption)))).mono (grew hb3 (fin2 (by with_reducible assumption))).size)).mono ?_
            rintro e w4 ⟨v4, rfl, ho4, hb4⟩
            replace ho4 := ho4.mono (fin2 (by with_reducible assumption) : Below w3.heap.size w3 _).size
            go_wp2_with fail
            refine hK.out _ _ ?_ (fun hHeld => ?_)
            · exact keep2 hb4 (by with_reducible assumption)
            clear hK K
            try simp only [Act.put, List.setIfInBounds_toArray, List.set_cons_zero, List.set_cons_succ]
            refine wpAnyH_ready (rs := [6]) (by kernel_rfl) (by simp) ?_
            refine AllReadyH.cons (o := { dst := some 29, op := Op.call { callee := Callee.builtin Builtin.append, args := #[Operand.tmp 26, Operand.tmp 28], argTypes := #[29, 29] }, type := 29, pos := "l2_set.go:37", after := #[{ on := 3, ground := Ground.data }, { on := 5, ground := Ground.data }, { on := 3, ground := Ground.chain }], guard := none }) rfl (fun K hK => ?_) AllReadyH.nil
            refine step_append_lies _ rfl (.tmp 26) (.tmp 28) 29 rfl w3.heap.size 26 i0 _ 2 16 Tryd.underlying29 hi hz0 hz1 hz2 rfl (by decide) _ _ _ rfl (cut_own ho4 (by rw [List.length_take]; omega)) ⟨w3.heap.size, 0, none⟩ 1 1 (cells [(x, y)]) rfl rfl (fun j u hu => cell_later hb4 (one_src w3 x y _ rfl j u hu)) (cells_ones _) (by decide) (by unfold maxLen; omega) (by omega) (fin2 (by with_reducible assumption)).size _ rfl ?_
            intro g5 cp5 w5 hown5 hgrow5 _ _
            have hS5 := keepG hgrow5 (fun q hq => ((cut_own ho4 (by rw [List.length_take]; omega)).lt q hq).1) hlt3 (by with_reducible assumption)
            have HO5 := hid hown5
            clear hgrow5 hown5
            refine hK.out _ _ ?_ (fun hHeld => ?_)
            · with_reducible exact hS5
            clear hK K
            try simp only [Act.put, List.setIfInBounds_toArray, List.set_cons_zero, List.set_cons_succ]
            refine wpAnyH_take (i := 7) (oi := { dst := some 6, op := Op.assign (Operand.tmp 29), type := 29, pos := "l2_set.go:37", after := #[{ on := 6, ground := Ground.data }, { on := 6, ground := Ground.chain }, { on := 0, ground := Ground.phase }, { on := 1, ground := Ground.phase }, { on := 2, ground := Ground.phase }, { on := 3, ground := Ground.phase }, { on := 4, ground := Ground.phase }, { on := 5, ground := Ground.phase }, { on := 6, ground := Ground.phase }], guard := none }) (v := ?v103bx7) rfl (by kernel_rfl) (by kernel_rfl) (by kernel_rfl) (fun _ _ _ h => h) (Or.inl ⟨by rfl, ?hy103bx7⟩) (by with_reducible assumption) ?rest103bx7
            case hy103bx7 => (intro w hSw; (try dsimp only at hSw); go_simp; try with_reducible rfl)
            case' rest103bx7 => (try simp only [Act.put, List.setIfInBounds_toArray, List.set_cons_zero, List.set_cons_succ])
            refine wpAnyH_done (by kernel_rfl) ?_ _
            refine NoPanic.normal ?_
            have hb35 : Below w3.heap.size w3 w5 := hS5.2.2
            have HA5 := hid (HA.out.later (grew hb3 hb35))
            go_wp2_with (at_builtin; refine wpList_append_own _ rfl (.tmp 30) (.tmp 33) 29 rfl w3.heap.size 26 i0 _ 2 16 Tryd.underlying29 hi hz0 hz1 hz2 rfl (by decide) _ _ _ rfl HO5.out _ _ _ (cells (l.drop k)) rfl (by rw [cells_len, List.length_drop] ; try omega) ((cells_src HA5.out (by intro h; first | rfl | (exfalso; omega) | (have hne : ¬ cap = k := (by omega); simp [hne]))) _ rfl) (cells_ones _) (by unfold maxLen; omega) (by omega) hb35.size ?_; intro v6 w6 hown6 hgrow6 _)
            all_goals go_ret
            all_goals rw [put_cells] at hown6
            all_goals exact ⟨_, rfl, (own_of hown6).mono hsz3, grew hb3 (hb35.grown hgrow6 hb35.size (fun q hq => (HO5.out.lt q hq).1))⟩
      · have e3 : (px l k == x) = false := by simpa using e1
        clear e1 hN
        go_enter Tryd.func82, Tryd.ntmps82
        go_wp2_with (go_at_call 102; refine hC.mono ?_; rintro e w2 ⟨rfl, hb⟩; have hb2 : Below w.heap.size w w2 := grew (by go_grown) hb; have c0 := cell_later hb (box0 w x y 26); have c1 := cell_later hb (box1 w x y 26); have c2 := cell_later hb2 g0; have c3 := cell_later hb2 g1)
        go_quiet (fail)
        rename_i nq
        go_wp2
        have hbq := drewN_below nq w2
        have d0 := cell_later hbq c0
        have d1 := cell_later hbq c1
        have hb3 : Below w.heap.size w (w2.drewN nq) := grew hb2 hbq
        generalize w2.drewN nq = w3 at d0 d1 hb3 ⊢
        clear hbq
        have hsz3 := hb3.size
        have hlt3 : w.heap.size < w3.heap.size := World.block_lt_of_cell? w3 _ d0
        refine wp_region_noPanic ?_
        refine wp_region_held_drew (S := (fun u => u.cell? ⟨w.heap.size, 0, none⟩ = some (.int .i64 x) ∧ u.cell? ⟨w.heap.size, 1, none⟩ = some (.int .i64 y) ∧ Below w3.heap.size w3 u)) (by kernel_rfl) ?_ (fun hHeld => ?_)
        · exact ⟨cell_later (Below.refl _ _).drew d0, cell_later (Below.refl _ _).drew d1, (Below.refl _ _).drew⟩
        refine wpAnyH_take (i := 0) (oi := { dst := some 23, op := Op.move (Operand.tmp 0), type := 29, pos := "l2_set.go:37", after := #[], guard := none }) (v := ?v102x0) rfl (by kernel_rfl) (by kernel_rfl) (by kernel_rfl) (fun _ _ _ h => h) (Or.inl ⟨by rfl, ?hy102x0⟩) (by with_reducible assumption) ?rest102x0
        case hy102x0 => (intro w hSw; (try dsimp only at hSw); go_simp; try with_reducible rfl)
        case' rest102x0 => (try simp only [Act.put, List.setIfInBounds_toArray, List.set_cons_zero, List.set_cons_succ])
        refine wpAnyH_take (i := 1) (oi := { dst := some 24, op := Op.move (Operand.tmp 5), type := 3, pos := "l2_set.go:37", after := #[], guard := none }) (v := ?v102x1) rfl (by kernel_rfl) (by kernel_rfl) (by kernel_rfl) (fun _ _ _ h => h) (Or.inl ⟨by rfl, ?hy102x1⟩) (by with_reducible assumption) ?rest102x1
        case hy102x1 => (intro w hSw; (try dsimp only at hSw); go_simp; try with_reducible rfl)
        case' rest102x1 => (try simp only [Act.put, List.setIfInBounds_toArray, List.set_cons_zero, List.set_cons_succ])
        refine wpAnyH_take (i := 2) (oi := { dst := some 25, op := Op.slice 29 (Operand.tmp 23) none (some (Operand.tmp 24)) none, type := 29, pos := "l2_set.go:37", after := #[{ on := 0, ground := Ground.data }, { on := 1, ground := Ground.data }], guard := none }) (v := ?v102x2) rfl (by kernel_rfl) (by kernel_rfl) (by kernel_rfl) (fun _ _ _ h => h) (Or.inl ⟨by rfl, ?hy102x2⟩) (by with_reducible assumption) ?rest102x2
        case hy102x2 => (intro w hSw; (try dsimp only at hSw); go_simp; try with_reducible rfl)
        case' rest102x2 => (try simp only [Act.put, List.setIfInBounds_toArray, List.set_cons_zero, List.set_cons_succ])
        refine wpAnyH_take (i := 4) (oi := { dst := some 27, op := Op.load 26 (Operand.tmp 3), type := 26, pos := "l2_set.go:37", after := #[], guard := none }) (v := ?v102x4) rfl (by kernel_rfl) (by kernel_rfl) (by kernel_rfl) (fun _ _ _ h => h) (Or.inl ⟨by rfl, ?hy102x4⟩) (by with_reducible assumption) ?rest102x4
        case hy102x4 => (intro w hSw; (try dsimp only at hSw); go_simp; try with_reducible rfl)
        case' rest102x4 => (try simp only [Act.put, List.setIfInBounds_toArray, List.set_cons_zero, List.set_cons_succ])
        refine wpAnyH_ready (rs := [3, 5]) (by kernel_rfl) (by simp) ?_
        refine AllReadyH.cons (o := { dst := some 26, op := Op.call { callee := Callee.value (Operand.func 54), args := #[Operand.tmp 25], argTypes := #[29] }, type := 29, pos := "l2_set.go:37", after := #[{ on := 2, ground := Ground.data }], guard := none }) rfl (fun K hK => ?_) (AllReadyH.cons (o := { dst := some 28, op := Op.buildSlice 29 1 #[(0, Operand.tmp 27)], type := 29, pos := "l2_set.go:37", after := #[{ on := 4, ground := Ground.data }], guard := none }) rfl (fun K hK => ?_) AllReadyH.nil)
        · go_simp
          refine (l2Own_c (l.take k) _ _ _ _ (by rw [List.length_take]; omega) (by omega) (.inr ⟨⟨b, off, rfl⟩, by omega, hcm⟩) (((HA.out.take k).later (grew hb3 (fin2 (by with_reducible assumption)))).mono (grew hb3 (fin2 (by with_reducible assumption))).size)).mono ?_
          rintro e w4 ⟨v4, rfl, ho4, hb4⟩
          replace ho4 := ho4.mono (fin2 (by with_reducible assumption) : Below w3.heap.size w3 _).size
          go_wp2_with fail
          refine hK.out _ _ ?_ (fun hHeld => ?_)
          · exact keep2 hb4 (by with_reducible assumption)
          clear hK K
          try simp only [Act.put, List.setIfInBounds_toArray, List.set_cons_zero, List.set_cons_succ]
          refine wpAnyH_ready (rs := [5]) (by kernel_rfl) (by simp) ?_
          refine AllReadyH.cons (o := { dst := some 28, op := Op.buildSlice 29 1 #[(0, Operand.tmp 27)], type := 29, pos := "l2_set.go:37", after := #[{ on := 4, ground := Ground.data }], guard := none }) rfl (fun K hK => ?_) AllReadyH.nil
          go_simp
          refine hK.out _ _ ?_ (fun hHeld => ?_)
          · (refine keep2 ?_ (by with_reducible assumption); go_grown)
          clear hK K
          try simp only [Act.put, List.setIfInBounds_toArray, List.set_cons_zero, List.set_cons_succ]
          refine wpAnyH_ready (rs := [6]) (by kernel_rfl) (by simp) ?_
          refine AllReadyH.cons (o := { dst := some 29, op := Op.call { callee := Callee.builtin Builtin.append, args := #[Operand.tmp 26, Operand.tmp 28], argTypes := #[29, 29] }, type := 29, pos := "l2_set.go:37", after := #[{ on := 3, ground := Ground.data }, { on := 5, ground := Ground.data }, { on := 3, ground := Ground.chain }], guard := none }) rfl (fun K hK => ?_) AllReadyH.nil
          refine step_append_lies _ rfl (.tmp 26) (.tmp 28) 29 rfl w3.heap.size 26 i0 _ 2 16 Tryd.underlying29 hi hz0 hz1 hz2 rfl (by decide) _ _ _ rfl ((cut_own ho4 (by rw [List.length_take]; omega)).alloc _) ⟨w4.heap.size, 0, none⟩ 1 1 (cells [(x, y)]) rfl rfl (one_src w4 x y _ rfl) (cells_ones _) (by decide) (by unfold maxLen; omega) (by omega) (fin2 (by with_reducible assumption)).size _ rfl ?_
          intro g5 cp5 w5 hown5 hgrow5 _ _
          have hS5 := keepG hgrow5 (fun q hq => ((cut_own ho4 (by rw [List.length_take]; omega)).lt q hq).1) hlt3 (by with_reducible assumption)
          have HO5 := hid hown5
          clear hgrow5 hown5
          refine hK.out _ _ ?_ (fun hHeld => ?_)
          · with_reducible exact hS5
          clear hK K
          try simp only [Act.put, List.setIfInBounds_toArray, List.set_cons_zero, List.set_cons_succ]
          refine wpAnyH_take (i := 7) (oi := { dst := some 6, op := Op.assign (Operand.tmp 29), type := 29, pos := "l2_set.go:37", after := #[{ on := 6, ground := Ground.data }, { on := 6, ground := Ground.chain }, { on := 0, ground := Ground.phase }, { on := 1, ground := Ground.phase }, { on := 2, ground := Ground.phase }, { on := 3, ground := Ground.phase }, { on := 4, ground := Ground.phase }, { on := 5, ground := Ground.phase }, { on := 6, ground := Ground.phase }], guard := none }) (v := ?v102ax7) rfl (by kernel_rfl) (by kernel_rfl) (by kernel_rfl) (fun _ _ _ h => h) (Or.inl ⟨by rfl, ?hy102ax7⟩) (by with_reducible assumption) ?rest102ax7
          case hy102ax7 => (intro w hSw; (try dsimp only at hSw); go_simp; try with_reducible rfl)
          case' rest102ax7 => (try simp only [Act.put, List.setIfInBounds_toArray, List.set_cons_zero, List.set_cons_succ])
          refine wpAnyH_done (by kernel_rfl) ?_ _
          refine NoPanic.normal ?_
          have hb35 : Below w3.heap.size w3 w5 := hS5.2.2
          have HA5 := hid (HA.out.later (grew hb3 hb35))
          go_wp2_with (at_builtin; refine wpList_append_own _ rfl (.tmp 30) (.tmp 33) 29 rfl w3.heap.size 26 i0 _ 2 16 Tryd.underlying29 hi hz0 hz1 hz2 rfl (by decide) _ _ _ rfl HO5.out _ _ _ (cells (l.drop k)) rfl (by rw [cells_len, List.length_drop] ; try omega) ((cells_src HA5.out (by intro h; first | rfl | (exfalso; omega) | (have hne : ¬ cap = k := (by omega); simp [hne]))) _ rfl) (cells_ones _) (by unfold maxLen; omega) (by omega) hb35.size ?_; intro v6 w6 hown6 hgrow6 _)
          all_goals go_ret
          all_goals rw [put_cells] at hown6
          all_goals exact ⟨_, rfl, (own_of hown6).mono hsz3, grew hb3 (hb35.grown hgrow6 hb35.size (fun q hq => (HO5.out.lt q hq).1))⟩
        · go_simp
          refine hK.out _ _ ?_ (fun hHeld => ?_)
          · exact ⟨cell_later (w := w3) (by go_grown) d0, cell_later (w := w3) (by go_grown) d1, (by go_grown : Below w3.heap.size w3 _)⟩
          clear hK K
          try simp only [Act.put, List.setIfInBounds_toArray, List.set_cons_zero, List.set_cons_succ]
          refine wpAnyH_ready (rs := [3]) (by kernel_rfl) (by simp) ?_
          refine AllReadyH.cons (o := { dst := some 26, op := Op.call { callee := Callee.value (Operand.func 54), args := #[Operand.tmp 25], argTypes := #[29] }, type := 29, pos := "l2_set.go:37", after := #[{ on := 2, ground := Ground.data }], guard := none }) rfl (fun K hK => ?_) AllReadyH.nil
          go_simp
          refine (l2Own_c (l.take k) _ _ _ _ (by rw [List.length_take]; omega) (by omega) (.inr ⟨⟨b, off, rfl⟩, by omega, hcm⟩) (((HA.out.take k).later (grew hb3 (fin2 (by with_reducible assumption)))).mono (grew hb3 (fin2 (by with_reducible assumption))).size)).mono ?_
          rintro e w4 ⟨v4, rfl, ho4, hb4⟩
          replace ho4 := ho4.mono (fin2 (by with_reducible assumption) : Below w3.heap.size w3 _).size
          go_wp2_with fail
          refine hK.out _ _ ?_ (fun hHeld => ?_)
          · exact keep2 hb4 (by with_reducible assumption)
          clear hK K
          try simp only [Act.put, List.setIfInBounds_toArray, List.set_cons_zero, List.set_cons_succ]
          refine wpAnyH_ready (rs := [6]) (by kernel_rfl) (by simp) ?_
          refine AllReadyH.cons (o := { dst := some 29, op := Op.call { callee := Callee.builtin Builtin.append, args := #[Operand.tmp 26, Operand.tmp 28], argTypes := #[29, 29] }, type := 29, pos := "l2_set.go:37", after := #[{ on := 3, ground := Ground.data }, { on := 5, ground := Ground.data }, { on := 3, ground := Ground.chain }], guard := none }) rfl (fun K hK => ?_) AllReadyH.nil
          refine step_append_lies _ rfl (.tmp 26) (.tmp 28) 29 rfl w3.heap.size 26 i0 _ 2 16 Tryd.underlying29 hi hz0 hz1 hz2 rfl (by decide) _ _ _ rfl (cut_own ho4 (by rw [List.length_take]; omega)) ⟨w3.heap.size, 0, none⟩ 1 1 (cells [(x, y)]) rfl rfl (fun j u hu => cell_later hb4 (one_src w3 x y _ rfl j u hu)) (cells_ones _) (by decide) (by unfold maxLen; omega) (by omega) (fin2 (by with_reducible assumption)).size _ rfl ?_
          intro g5 cp5 w5 hown5 hgrow5 _ _
          have hS5 := keepG hgrow5 (fun q hq => ((cut_own ho4 (by rw [List.length_take]; omega)).lt q hq).1) hlt3 (by with_reducible assumption)
          have HO5 := hid hown5
          clear hgrow5 hown5
          refine hK.out _ _ ?_ (fun hHeld => ?_)
          · with_reducible exact hS5
          clear hK K
          try simp only [Act.put, List.setIfInBounds_toArray, List.set_cons_zero, List.set_cons_succ]
          refine wpAnyH_take (i := 7) (oi := { dst := some 6, op := Op.assign (Operand.tmp 29), type := 29, pos := "l2_set.go:37", after := #[{ on := 6, ground := Ground.data }, { on := 6, ground := Ground.chain }, { on := 0, ground := Ground.phase }, { on := 1, ground := Ground.phase }, { on := 2, ground := Ground.phase }, { on := 3, ground := Ground.phase }, { on := 4, ground := Ground.phase }, { on := 5, ground := Ground.phase }, { on := 6, ground := Ground.phase }], guard := none }) (v := ?v102bx7) rfl (by kernel_rfl) (by kernel_rfl) (by kernel_rfl) (fun _ _ _ h => h) (Or.inl ⟨by rfl, ?hy102bx7⟩) (by with_reducible assumption) ?rest102bx7
          case hy102bx7 => (intro w hSw; (try dsimp only at hSw); go_simp; try with_reducible rfl)
          case' rest102bx7 => (try simp only [Act.put, List.setIfInBounds_toArray, List.set_cons_zero, List.set_cons_succ])
          refine wpAnyH_done (by kernel_rfl) ?_ _
          refine NoPanic.normal ?_
          have hb35 : Below w3.heap.size w3 w5 := hS5.2.2
          have HA5 := hid (HA.out.later (grew hb3 hb35))
          go_wp2_with (at_builtin; refine wpList_append_own _ rfl (.tmp 30) (.tmp 33) 29 rfl w3.heap.size 26 i0 _ 2 16 Tryd.underlying29 hi hz0 hz1 hz2 rfl (by decide) _ _ _ rfl HO5.out _ _ _ (cells (l.drop k)) rfl (by rw [cells_len, List.length_drop] ; try omega) ((cells_src HA5.out (by intro h; first | rfl | (exfalso; omega) | (have hne : ¬ cap = k := (by omega); simp [hne]))) _ rfl) (cells_ones _) (by unfold maxLen; omega) (by omega) hb35.size ?_; intro v6 w6 hown6 hgrow6 _)
          all_goals go_ret
          all_goals rw [put_cells] at hown6
          all_goals exact ⟨_, rfl, (own_of hown6).mono hsz3, grew hb3 (hb35.grown hgrow6 hb35.size (fun q hq => (HO5.out.lt q hq).1))⟩
    · have hd : decide (k < l.length) = false := decide_eq_false hlt
      clear hN
      go_enter Tryd.func82, Tryd.ntmps82
      go_wp2_with (go_at_call 102; refine hC.mono ?_; rintro e w2 ⟨rfl, hb⟩; have hb2 : Below w.heap.size w w2 := grew (by go_grown) hb; have c0 := cell_later hb (box0 w x y 26); have c1 := cell_later hb (box1 w x y 26))
      go_quiet (fail)
      rename_i nq
      go_wp2
      have hbq := drewN_below nq w2
      have d0 := cell_later hbq c0
      have d1 := cell_later hbq c1
      have hb3 : Below w.heap.size w (w2.drewN nq) := grew hb2 hbq
      generalize w2.drewN nq = w3 at d0 d1 hb3 ⊢
      clear hbq
      have hsz3 := hb3.size
      have hlt3 : w.heap.size < w3.heap.size := World.block_lt_of_cell? w3 _ d0
      refine wp_region_noPanic ?_
      refine wp_region_held_drew (S := (fun u => u.cell? ⟨w.heap.size, 0, none⟩ = some (.int .i64 x) ∧ u.cell? ⟨w.heap.size, 1, none⟩ = some (.int .i64 y) ∧ Below w3.heap.size w3 u)) (by kernel_rfl) ?_ (fun hHeld => ?_)
      · exact ⟨cell_later (Below.refl _ _).drew d0, cell_later (Below.refl _ _).drew d1, (Below.refl _ _).drew⟩
      refine wpAnyH_take (i := 0) (oi := { dst := some 23, op := Op.move (Operand.tmp 0), type := 29, pos := "l2_set.go:37", after := #[], guard := none }) (v := ?v101x0) rfl (by kernel_rfl) (by kernel_rfl) (by kernel_rfl) (fun _ _ _ h => h) (Or.inl ⟨by rfl, ?hy101x0⟩) (by with_reducible assumption) ?rest101x0
      case hy101x0 => (intro w hSw; (try dsimp only at hSw); go_simp; try with_reducible rfl)
      case' rest101x0 => (try simp only [Act.put, List.setIfInBounds_toArray, List.set_cons_zero, List.set_cons_succ])
      refine wpAnyH_take (i := 1) (oi := { dst := some 24, op := Op.move (Operand.tmp 5), type := 3, pos := "l2_set.go:37", after := #[], guard := none }) (v := ?v101x1) rfl (by kernel_rfl) (by kernel_rfl) (by kernel_rfl) (fun _ _ _ h => h) (Or.inl ⟨by rfl, ?hy101x1⟩) (by with_reducible assumption) ?rest101x1
      case hy101x1 => (intro w hSw; (try dsimp only at hSw); go_simp; try with_reducible rfl)
      case' rest101x1 => (try simp only [Act.put, List.setIfInBounds_toArray, List.set_cons_zero, List.set_cons_succ])
      refine wpAnyH_take (i := 2) (oi := { dst := some 25, op := Op.slice 29 (Operand.tmp 23) none (some (Operand.tmp 24)) none, type := 29, pos := "l2_set.go:37", after := #[{ on := 0, ground := Ground.data }, { on := 1, ground := Ground.data }], guard := none }) (v := ?v101x2) rfl (by kernel_rfl) (by kernel_rfl) (by kernel_rfl) (fun _ _ _ h => h) (Or.inl ⟨by rfl, ?hy101x2⟩) (by with_reducible assumption) ?rest101x2
      case hy101x2 => (intro w hSw; (try dsimp only at hSw); go_simp; try with_reducible rfl)
      case' rest101x2 => (try simp only [Act.put, List.setIfInBounds_toArray, List.set_cons_zero, List.set_cons_succ])
      refine wpAnyH_take (i := 4) (oi := { dst := some 27, op := Op.load 26 (Operand.tmp 3), type := 26, pos := "l2_set.go:37", after := #[], guard := none }) (v := ?v101x4) rfl (by kernel_rfl) (by kernel_rfl) (by kernel_rfl) (fun _ _ _ h => h) (Or.inl ⟨by rfl, ?hy101x4⟩) (by with_reducible assumption) ?rest101x4
      case hy101x4 => (intro w hSw; (try dsimp only at hSw); go_simp; try with_reducible rfl)
      case' rest101x4 => (try simp only [Act.put, List.setIfInBounds_toArray, List.set_cons_zero, List.set_cons_succ])
      refine wpAnyH_ready (rs := [3, 5]) (by kernel_rfl) (by simp) ?_
      refine AllReadyH.cons (o := { dst := some 26, op := Op.call { callee := Callee.value (Operand.func 54), args := #[Operand.tmp 25], argTypes := #[29] }, type := 29, pos := "l2_set.go:37", after := #[{ on := 2, ground := Ground.data }], guard := none }) rfl (fun K hK => ?_) (AllReadyH.cons (o := { dst := some 28, op := Op.buildSlice 29 1 #[(0, Operand.tmp 27)], type := 29, pos := "l2_set.go:37", after := #[{ on := 4, ground := Ground.data }], guard := none }) rfl (fun K hK => ?_) AllReadyH.nil)
      · go_simp
        refine (l2Own_c (l.take k) _ _ _ _ (by rw [List.length_take]; omega) (by omega) (.inr ⟨⟨b, off, rfl⟩, by omega, hcm⟩) (((HA.out.take k).later (grew hb3 (fin2 (by with_reducible assumption)))).mono (grew hb3 (fin2 (by with_reducible assumption))).size)).mono ?_
        rintro e w4 ⟨v4, rfl, ho4, hb4⟩
        replace ho4 := ho4.mono (fin2 (by with_reducible assumption) : Below w3.heap.size w3 _).size
        go_wp2_with fail
        refine hK.out _ _ ?_ (fun hHeld => ?_)
        · exact keep2 hb4 (by with_reducible assumption)
        clear hK K
        try simp only [Act.put, List.setIfInBounds_toArray, List.set_cons_zero, List.set_cons_succ]
        refine wpAnyH_ready (rs := [5]) (by kernel_rfl) (by simp) ?_
        refine AllReadyH.cons (o := { dst := some 28, op := Op.buildSlice 29 1 #[(0, Operand.tmp 27)], type := 29, pos := "l2_set.go:37", after := #[{ on := 4, ground := Ground.data }], guard := none }) rfl (fun K hK => ?_) AllReadyH.nil
        go_simp
        refine hK.out _ _ ?_ (fun hHeld => ?_)
        · (refine keep2 ?_ (by with_reducible assumption); go_grown)
        clear hK K
        try simp only [Act.put, List.setIfInBounds_toArray, List.set_cons_zero, List.set_cons_succ]
        refine wpAnyH_ready (rs := [6]) (by kernel_rfl) (by simp) ?_
        refine AllReadyH.cons (o := { dst := some 29, op := Op.call { callee := Callee.builtin Builtin.append, args := #[Operand.tmp 26, Operand.tmp 28], argTypes := #[29, 29] }, type := 29, pos := "l2_set.go:37", after := #[{ on := 3, ground := Ground.data }, { on := 5, ground := Ground.data }, { on := 3, ground := Ground.chain }], guard := none }) rfl (fun K hK => ?_) AllReadyH.nil
        refine step_append_lies _ rfl (.tmp 26) (.tmp 28) 29 rfl w3.heap.size 26 i0 _ 2 16 Tryd.underlying29 hi hz0 hz1 hz2 rfl (by decide) _ _ _ rfl ((cut_own ho4 (by rw [List.length_take]; omega)).alloc _) ⟨w4.heap.size, 0, none⟩ 1 1 (cells [(x, y)]) rfl rfl (one_src w4 x y _ rfl) (cells_ones _) (by decide) (by unfold maxLen; omega) (by omega) (fin2 (by with_reducible assumption)).size _ rfl ?_
        intro g5 cp5 w5 hown5 hgrow5 _ _
        have hS5 := keepG hgrow5 (fun q hq => ((cut_own ho4 (by rw [List.length_take]; omega)).lt q hq).1) hlt3 (by with_reducible assumption)
        have HO5 := hid hown5
        clear hgrow5 hown5
        refine hK.out _ _ ?_ (fun hHeld => ?_)
        · with_reducible exact hS5
        clear hK K
        try simp only [Act.put, List.setIfInBounds_toArray, List.set_cons_zero, List.set_cons_succ]
        refine wpAnyH_take (i := 7) (oi := { dst := some 6, op := Op.assign (Operand.tmp 29), type := 29, pos := "l2_set.go:37", after := #[{ on := 6, ground := Ground.data }, { on := 6, ground := Ground.chain }, { on := 0, ground := Ground.phase }, { on := 1, ground := Ground.phase }, { on := 2, ground := Ground.phase }, { on := 3, ground := Ground.phase }, { on := 4, ground := Ground.phase }, { on := 5, ground := Ground.phase }, { on := 6, ground := Ground.phase }], guard := none }) (v := ?v101ax7) rfl (by kernel_rfl) (by kernel_rfl) (by kernel_rfl) (fun _ _ _ h => h) (Or.inl ⟨by rfl, ?hy101ax7⟩) (by with_reducible assumption) ?rest101ax7
        case hy101ax7 => (intro w hSw; (try dsimp only at hSw); go_simp; try with_reducible rfl)
        case' rest101ax7 => (try simp only [Act.put, List.setIfInBounds_toArray, List.set_cons_zero, List.set_cons_succ])
        refine wpAnyH_done (by kernel_rfl) ?_ _
        refine NoPanic.normal ?_
        have hb35 : Below w3.heap.size w3 w5 := hS5.2.2
        have HA5 := hid (HA.out.later (grew hb3 hb35))
        by_cases hck : cap = k
        · go_wp2_with (at_builtin; refine wpList_append_own _ rfl (.tmp 30) (.tmp 33) 29 rfl w3.heap.size 26 i0 _ 2 16 Tryd.underlying29 hi hz0 hz1 hz2 rfl (by decide) _ _ _ rfl HO5.out _ _ _ (cells (l.drop k)) rfl (by rw [cells_len, List.length_drop] ; try omega) ((cells_src HA5.out (by intro h; exact absurd h hlt)) _ rfl) (cells_ones _) (by unfold maxLen; omega) (by omega) hb35.size ?_; intro v6 w6 hown6 hgrow6 _)
          go_ret
          rw [put_cells] at hown6
          exact ⟨_, rfl, (own_of hown6).mono hsz3, grew hb3 (hb35.grown hgrow6 hb35.size (fun q hq => (HO5.out.lt q hq).1))⟩
        · go_wp2_with (at_builtin; refine wpList_append_own _ rfl (.tmp 30) (.tmp 33) 29 rfl w3.heap.size 26 i0 _ 2 16 Tryd.underlying29 hi hz0 hz1 hz2 rfl (by decide) _ _ _ rfl HO5.out _ _ _ (cells (l.drop k)) rfl (by rw [cells_len, List.length_drop] ; try omega) ((cells_src HA5.out (by intro h; exact absurd h hlt)) _ rfl) (cells_ones _) (by unfold maxLen; omega) (by omega) hb35.size ?_; intro v6 w6 hown6 hgrow6 _)
          go_ret
          rw [put_cells] at hown6
          exact ⟨_, rfl, (own_of hown6).mono hsz3, grew hb3 (hb35.grown hgrow6 hb35.size (fun q hq => (HO5.out.lt q hq).1))⟩
      · go_simp
        refine hK.out _ _ ?_ (fun hHeld => ?_)
        · exact ⟨cell_later (w := w3) (by go_grown) d0, cell_later (w := w3) (by go_grown) d1, (by go_grown : Below w3.heap.size w3 _)⟩
        clear hK K
        try simp only [Act.put, List.setIfInBounds_toArray, List.set_cons_zero, List.set_cons_succ]
        refine wpAnyH_ready (rs := [3]) (by kernel_rfl) (by simp) ?_
        refine AllReadyH.cons (o := { dst := some 26, op := Op.call { callee := Callee.value (Operand.func 54), args := #[Operand.tmp 25], argTypes := #[29] }, type := 29, pos := "l2_set.go:37", after := #[{ on := 2, ground := Ground.data }], guard := none }) rfl (fun K hK => ?_) AllReadyH.nil
        go_simp
        refine (l2Own_c (l.take k) _ _ _ _ (by rw [List.length_take]; omega) (by omega) (.inr ⟨⟨b, off, rfl⟩, by omega, hcm⟩) (((HA.out.take k).later (grew hb3 (fin2 (by with_reducible assumption)))).mono (grew hb3 (fin2 (by with_reducible assumption))).size)).mono ?_
        rintro e w4 ⟨v4, rfl, ho4, hb4⟩
        replace ho4 := ho4.mono (fin2 (by with_reducible assumption) : Below w3.heap.size w3 _).size
        go_wp2_with fail
        refine hK.out _ _ ?_ (fun hHeld => ?_)
        · exact keep2 hb4 (by with_reducible assumption)
        clear hK K
        try simp only [Act.put, List.setIfInBounds_toArray, List.set_cons_zero, List.set_cons_succ]
        refine wpAnyH_ready (rs := [6]) (by kernel_rfl) (by simp) ?_
        refine AllReadyH.cons (o := { dst := some 29, op := Op.call { callee := Callee.builtin Builtin.append, args := #[Operand.tmp 26, Operand.tmp 28], argTypes := #[29, 29] }, type := 29, pos := "l2_set.go:37", after := #[{ on := 3, ground := Ground.data }, { on := 5, ground := Ground.data }, { on := 3, ground := Ground.chain }], guard := none }) rfl (fun K hK => ?_) AllReadyH.nil
        refine step_append_lies _ rfl (.tmp 26) (.tmp 28) 29 rfl w3.heap.size 26 i0 _ 2 16 Tryd.underlying29 hi hz0 hz1 hz2 rfl (by decide) _ _ _ rfl (cut_own ho4 (by rw [List.length_take]; omega)) ⟨w3.heap.size, 0, none⟩ 1 1 (cells [(x, y)]) rfl rfl (fun j u hu => cell_later hb4 (one_src w3 x y _ rfl j u hu)) (cells_ones _) (by decide) (by unfold maxLen; omega) (by omega) (fin2 (by with_reducible assumption)).size _ rfl ?_
        intro g5 cp5 w5 hown5 hgrow5 _ _
        have hS5 := keepG hgrow5 (fun q hq => ((cut_own ho4 (by rw [List.length_take]; omega)).lt q hq).1) hlt3 (by with_reducible assumption)
        have HO5 := hid hown5
        clear hgrow5 hown5
        refine hK.out _ _ ?_ (fun hHeld => ?_)
        · with_reducible exact hS5
        clear hK K
        try simp only [Act.put, List.setIfInBounds_toArray, List.set_cons_zero, List.set_cons_succ]
        refine wpAnyH_take (i := 7) (oi := { dst := some 6, op := Op.assign (Operand.tmp 29), type := 29, pos := "l2_set.go:37", after := #[{ on := 6, ground := Ground.data }, { on := 6, ground := Ground.chain }, { on := 0, ground := Ground.phase }, { on := 1, ground := Ground.phase }, { on := 2, ground := Ground.phase }, { on := 3, ground := Ground.phase }, { on := 4, ground := Ground.phase }, { on := 5, ground := Ground.phase }, { on := 6, ground := Ground.phase }], guard := none }) (v := ?v101bx7) rfl (by kernel_rfl) (by kernel_rfl) (by kernel_rfl) (fun _ _ _ h => h) (Or.inl ⟨by rfl, ?hy101bx7⟩) (by with_reducible assumption) ?rest101bx7
        case hy101bx7 => (intro w hSw; (try dsimp only at hSw); go_simp; try with_reducible rfl)
        case' rest101bx7 => (try simp only [Act.put, List.setIfInBounds_toArray, List.set_cons_zero, List.set_cons_succ])
        refine wpAnyH_done (by kernel_rfl) ?_ _
        refine NoPanic.normal ?_
        have hb35 : Below w3.heap.size w3 w5 := hS5.2.2
        have HA5 := hid (HA.out.later (grew hb3 hb35))
        by_cases hck : cap = k
        · go_wp2_with (at_builtin; refine wpList_append_own _ rfl (.tmp 30) (.tmp 33) 29 rfl w3.heap.size 26 i0 _ 2 16 Tryd.underlying29 hi hz0 hz1 hz2 rfl (by decide) _ _ _ rfl HO5.out _ _ _ (cells (l.drop k)) rfl (by rw [cells_len, List.length_drop] ; try omega) ((cells_src HA5.out (by intro h; exact absurd h hlt)) _ rfl) (cells_ones _) (by unfold maxLen; omega) (by omega) hb35.size ?_; intro v6 w6 hown6 hgrow6 _)
          go_ret
          rw [put_cells] at hown6
          exact ⟨_, rfl, (own_of hown6).mono hsz3, grew hb3 (hb35.grown hgrow6 hb35.size (fun q hq => (HO5.out.lt q hq).1))⟩
        · go_wp2_with (at_builtin; refine wpList_append_own _ rfl (.tmp 30) (.tmp 33) 29 rfl w3.heap.size 26 i0 _ 2 16 Tryd.underlying29 hi hz0 hz1 hz2 rfl (by decide) _ _ _ rfl HO5.out _ _ _ (cells (l.drop k)) rfl (by rw [cells_len, List.length_drop] ; try omega) ((cells_src HA5.out (by intro h; exact absurd h hlt)) _ rfl) (cells_ones _) (by unfold maxLen; omega) (by omega) hb35.size ?_; intro v6 w6 hown6 hgrow6 _)
          go_ret
          rw [put_cells] at hown6
          exact ⟨_, rfl, (own_of hown6).mono hsz3, grew hb3 (hb35.grown hgrow6 hb35.size (fun q hq => (HO5.out.lt q hq).1))⟩
end Go.Proofs.YtegmlemejmahiaaDoor
