/-
  A point dropped from a list, and what DropPoint answers, in the specification and in the program (contracts for the walks).
  Conditions: as each theorem states them.
-/
import Derived.Test.YtfhlgdngmdlakaaDoorSet13
namespace Go.Proofs.YtfhlgdngmdlakaaDoor
open Go.RowKit
set_option linter.unusedVariables false
def dropR (l : List (Int × Int)) (k : Nat) : List (Int × Int) := l.take k ++ l.drop (k + 1)
set_option maxHeartbeats 1000000 in
theorem without_c (l : List (Int × Int)) (k : Nat) (a : Option Addr) (len cap : Nat) (w : World) (hl : l.length = len) (h1 : len ≤ 1048576) (hk : k < len) (hF : Fit a len cap) (hA : At w.heap.size a l w) :
    Calls Tryd.prog 42 #[.slice a len cap, .int .i64 k] w fun e w' => ∃ v, e = .returned v ∧ Own w.heap.size v (dropR l k) w' ∧ Below w.heap.size w w' := by
  subst hl
  have HA := hid hA
  clear hA
  obtain ⟨i0, hi, hz0, hz1, hz2⟩ := info_parts info_pt
  rcases hF with ⟨rfl, rfl, hl0⟩ | ⟨⟨b, off, rfl⟩, hlc, hcm⟩
  · omega
  · have hk1 : (0 : Int) ≤ (k : Int) := by omega
    have hk2 : (k : Int) + 1 ≤ (l.length : Int) := by omega
    have hk3 : (k : Int) + 1 ≤ (cap : Int) := by omega
    have hk4 : k ≤ l.length := by omega
    have hl1 : (l.length : Int) ≤ (cap : Int) := by omega
    by_cases hck : cap = k + 1
    all_goals go_enter Tryd.func42, Tryd.ntmps42
    all_goals go_wp2_with (first
      | (at_make; refine wpList_make_own _ rfl _ _ 51 rfl w.heap.size 26 i0 _ 2 Tryd.underlying51 hi hz0 hz1 .i64 .i64 _ (l.length - 1) rfl rfl (by omega) (by rw [hz2]; omega) (by unfold maxLen; omega) (Nat.le_refl _) ?_; intro w0 hown0 hgrow0; have hb0 := growNone hgrow0; have HA0 := hid (HA.out.later hb0); have hsz0 := hb0.size; clear hgrow0)
      | (at_builtin; refine wpList_append_fits_any _ rfl (.tmp 10) (.tmp 13) 51 rfl w.heap.size 26 i0 2 Tryd.underlying51 hi hz1 w.heap.size 0 (l.length - 1) [] rfl hown0 _ k _ (cells (l.take k)) rfl (by rw [cells_len, List.length_take]; congr 1; omega) (by intro h; cases h) (cells_pre HA0.out (by intro h; rfl)) (cells_ones _) (by omega) ?_; intro w1 hown1 hgrow1; simp only [Nat.zero_add, List.nil_append] at hown1; have hb1 : Below w.heap.size w0 w1 := grownB hgrow1 hsz0 (Nat.le_refl _); have HA1 := hid (At.laterB HA0.out hb1 (Nat.le_refl _)); have hbw1 := hb0.trans hb1)
      | (at_builtin; refine wpList_append_fits_any _ rfl (.tmp 15) (.tmp 19) 51 rfl w.heap.size 26 i0 2 Tryd.underlying51 hi hz1 w.heap.size k (l.length - 1) _ rfl hown1 _ _ _ (cells (l.drop (k + 1))) rfl (by rw [cells_len, List.length_drop]) (by intro h; cases h) (cells_src HA1.out (by intro h; first | rfl | (exfalso; omega))) (cells_ones _) (by omega) ?_; intro w2 hown2 hgrow2; have hb2 : Below w.heap.size w1 w2 := grownB hgrow2 hbw1.size (Nat.le_refl _)))
    all_goals go_ret
    all_goals rw [← cells_append] at hown2
    all_goals exact ⟨_, rfl, own_of hown2, hbw1.trans hb2⟩
set_option maxHeartbeats 1000000 in
theorem l2Drop_c (l : List (Int × Int)) (x y : Int) (a : Option Addr) (len cap : Nat) (w : World) (hl : l.length = len) (h1 : len ≤ 1048576) (hF : Fit a len cap) (hA : At w.heap.size a l w) (hkl : plc l x y < len) :
    Calls Tryd.prog 43 #[.slice a len cap, .agg #[.int .i64 x, .int .i64 y]] w fun e w' => ∃ v, e = .returned v ∧ Own w.heap.size v (dropR l (plc l x y)) w' ∧ Below w.heap.size w w' := by
  subst hl
  have HA := hid hA
  clear hA
  obtain ⟨i0, hi, hz0, hz1, hz2⟩ := info_parts info_pt
  have hC := l2Place_c l x y a l.length cap (w.alloc (.cells #[.int .i64 x, .int .i64 y] 26)) rfl h1 ((HA.out.later (by go_grown)).mono (by simp))
  obtain ⟨k, hk⟩ : ∃ k, plc l x y = k := ⟨_, rfl⟩
  rw [hk] at hC hkl ⊢
  rw [dropR]
  clear hk
  rcases hF with ⟨rfl, rfl, hl0⟩ | ⟨⟨b, off, rfl⟩, hlc, hcm⟩
  · omega
  · have hk1 : (0 : Int) ≤ (k : Int) := by omega
    obtain ⟨j, hj⟩ : ∃ j, k + 1 = j := ⟨_, rfl⟩
    have hk3 : (k : Int) ≤ (cap : Int) := by omega
    have hk5 : (k : Int) ≤ (l.length : Int) := by omega
    have hk6 : IntKind.i64.wrap ((k : Int) + 1) = (j : Int) := by rw [IntKind.wrap_i64]; omega
    have hk7 : (j : Int) ≤ (l.length : Int) := by omega
    have hk8 : (j : Int) ≤ (cap : Int) := by omega
    have hk9 : (0 : Int) ≤ (j : Int) := by omega
    have hl1 : (l.length : Int) ≤ (cap : Int) := by omega
    rw [hj]
    have HJ := hid hj
    have hjk : k < j := by omega
    have hjl : j ≤ l.length := by omega
    clear hj
    by_cases hck : cap = j
    · subst hck
      go_enter Tryd.func43, Tryd.ntmps43
      go_wp2_with (go_at_call 44; refine hC.mono ?_; rintro e w2 ⟨rfl, hb⟩; have hb2 : Below w.heap.size w w2 := grew (by go_grown) hb)
      refine wp_region_noPanic ?_
      refine wp_region_held_drew (S := (fun u => Below w2.heap.size w2 u)) (by kernel_rfl) ?_ (fun hHeld => ?_)
      · exact (Below.refl _ _).drew
      refine wpAnyH_take (i := 0) (oi := { dst := some 9, op := Op.move (Operand.tmp 0), type := 24, pos := "l2_set.go:70", after := #[], guard := none }) (v := ?v201x0) rfl (by kernel_rfl) (by kernel_rfl) (by kernel_rfl) (fun _ _ _ h => h) (Or.inl ⟨by rfl, ?hy201x0⟩) (by with_reducible assumption) ?rest201x0
      case hy201x0 => (intro w hSw; (try dsimp only at hSw); go_simp; try with_reducible rfl)
      case' rest201x0 => (try simp only [Act.put, List.setIfInBounds_toArray, List.set_cons_zero, List.set_cons_succ])
      refine wpAnyH_take (i := 1) (oi := { dst := some 10, op := Op.move (Operand.tmp 5), type := 3, pos := "l2_set.go:70", after := #[], guard := none }) (v := ?v201x1) rfl (by kernel_rfl) (by kernel_rfl) (by kernel_rfl) (fun _ _ _ h => h) (Or.inl ⟨by rfl, ?hy201x1⟩) (by with_reducible assumption) ?rest201x1
      case hy201x1 => (intro w hSw; (try dsimp only at hSw); go_simp; try with_reducible rfl)
      case' rest201x1 => (try simp only [Act.put, List.setIfInBounds_toArray, List.set_cons_zero, List.set_cons_succ])
      refine wpAnyH_take (i := 2) (oi := { dst := some 11, op := Op.slice 24 (Operand.tmp 9) none (some (Operand.tmp 10)) none, type := 24, pos := "l2_set.go:70", after := #[{ on := 0, ground := Ground.data }, { on := 1, ground := Ground.data }], guard := none }) (v := ?v201x2) rfl (by kernel_rfl) (by kernel_rfl) (by kernel_rfl) (fun _ _ _ h => h) (Or.inl ⟨by rfl, ?hy201x2⟩) (by with_reducible assumption) ?rest201x2
      case hy201x2 => (intro w hSw; (try dsimp only at hSw); go_simp; try with_reducible rfl)
      case' rest201x2 => (try simp only [Act.put, List.setIfInBounds_toArray, List.set_cons_zero, List.set_cons_succ])
      refine wpAnyH_take (i := 4) (oi := { dst := some 13, op := Op.move (Operand.tmp 0), type := 24, pos := "l2_set.go:70", after := #[], guard := none }) (v := ?v201x4) rfl (by kernel_rfl) (by kernel_rfl) (by kernel_rfl) (fun _ _ _ h => h) (Or.inl ⟨by rfl, ?hy201x4⟩) (by with_reducible assumption) ?rest201x4
      case hy201x4 => (intro w hSw; (try dsimp only at hSw); go_simp; try with_reducible rfl)
      case' rest201x4 => (try simp only [Act.put, List.setIfInBounds_toArray, List.set_cons_zero, List.set_cons_succ])
      refine wpAnyH_take (i := 5) (oi := { dst := some 14, op := Op.move (Operand.tmp 5), type := 3, pos := "l2_set.go:70", after := #[], guard := none }) (v := ?v201x5) rfl (by kernel_rfl) (by kernel_rfl) (by kernel_rfl) (fun _ _ _ h => h) (Or.inl ⟨by rfl, ?hy201x5⟩) (by with_reducible assumption) ?rest201x5
      case hy201x5 => (intro w hSw; (try dsimp only at hSw); go_simp; try with_reducible rfl)
      case' rest201x5 => (try simp only [Act.put, List.setIfInBounds_toArray, List.set_cons_zero, List.set_cons_succ])
      refine wpAnyH_take (i := 6) (oi := { dst := some 15, op := Op.binOp BinOp.add 3 (Operand.tmp 14) (Operand.const (Value.int IntKind.i64 1)) 3, type := 3, pos := "l2_set.go:70", after := #[{ on := 5, ground := Ground.data }], guard := none }) (v := ?v201x6) rfl (by kernel_rfl) (by kernel_rfl) (by kernel_rfl) (fun _ _ _ h => h) (Or.inl ⟨by rfl, ?hy201x6⟩) (by with_reducible assumption) ?rest201x6
      case hy201x6 => (intro w hSw; (try dsimp only at hSw); go_simp; try with_reducible rfl)
      case' rest201x6 => (try simp only [Act.put, List.setIfInBounds_toArray, List.set_cons_zero, List.set_cons_succ])
      refine wpAnyH_take (i := 7) (oi := { dst := some 16, op := Op.slice 24 (Operand.tmp 13) (some (Operand.tmp 15)) none none, type := 24, pos := "l2_set.go:70", after := #[{ on := 4, ground := Ground.data }, { on := 6, ground := Ground.data }], guard := none }) (v := ?v201x7) rfl (by kernel_rfl) (by kernel_rfl) (by kernel_rfl) (fun _ _ _ h => h) (Or.inl ⟨by rfl, ?hy201x7⟩) (by with_reducible assumption) ?rest201x7
      case hy201x7 => (intro w hSw; (try dsimp only at hSw); go_simp; try with_reducible rfl)
      case' rest201x7 => (try simp only [Act.put, List.setIfInBounds_toArray, List.set_cons_zero, List.set_cons_succ])
      refine wpAnyH_ready (rs := [3]) (by kernel_rfl) (by simp) ?_
      refine AllReadyH.cons (o := { dst := some 12, op := Op.call { callee := Callee.value (Operand.func 51), args := #[Operand.tmp 11], argTypes := #[24] }, type := 24, pos := "l2_set.go:70", after := #[{ on := 2, ground := Ground.data }], guard := none }) rfl (fun K hK => ?_) AllReadyH.nil
      go_simp
      refine (l2Own_c (l.take k) _ _ _ _ (by rw [List.length_take]; omega) (by omega) (.inr ⟨⟨b, off, rfl⟩, by omega, hcm⟩) (((HA.out.take k).later (grew hb2 (by with_reducible assumption : Below w2.heap.size w2 _))).mono (grew hb2 (by with_reducible assumption : Below w2.heap.size w2 _)).size)).mono ?_
      rintro e w4 ⟨v4, rfl, ho4, hb4⟩
      have hb24 : Below w2.heap.size w2 w4 := grew (by with_reducible assumption) hb4
      replace ho4 := ho4.mono (by with_reducible assumption : Below w2.heap.size w2 _).size
      go_wp2_with fail
      refine hK.out _ _ ?_ (fun hHeld => ?_)
      · with_reducible exact hb24
      clear hK K
      try simp only [Act.put, List.setIfInBounds_toArray, List.set_cons_zero, List.set_cons_succ]
      have HA4 := hid (HA.out.later (grew hb2 hb24))
      refine wpAnyH_ready (rs := [8]) (by kernel_rfl) (by simp) ?_
      refine AllReadyH.cons (o := { dst := some 17, op := Op.call { callee := Callee.builtin Builtin.append, args := #[Operand.tmp 12, Operand.tmp 16], argTypes := #[24, 24] }, type := 24, pos := "l2_set.go:70", after := #[{ on := 3, ground := Ground.data }, { on := 7, ground := Ground.data }, { on := 3, ground := Ground.chain }], guard := none }) rfl (fun K hK => ?_) AllReadyH.nil
      rw [if_pos (by rfl)]
      refine wp_append_own _ (.tmp 12) (.tmp 16) 24 rfl w2.heap.size 26 i0 _ 2 16 Tryd.underlying24 hi hz0 hz1 hz2 rfl (by decide) _ _ _ rfl (cut_own ho4 (by rw [List.length_take]; omega)) ⟨b, off, none⟩ _ _ (cells (l.drop cap)) rfl (by rw [cells_len, List.length_drop]; try omega) (cells_src HA4.out (by intro h; first | rfl | (exfalso; omega)) _ rfl) (cells_ones _) (by unfold maxLen; omega) (by omega) hb24.size ?_
      intro v5 w5 hown5 hgrow5 _
      have hb25 : Below w2.heap.size w2 w5 := hb24.grown hgrow5 hb24.size (fun q hq => ((cut_own ho4 (by rw [List.length_take]; omega)).lt q hq).1)
      refine hK.out _ _ ?_ (fun hHeld => ?_)
      · with_reducible exact hb25
      clear hK K
      try simp only [Act.put, List.setIfInBounds_toArray, List.set_cons_zero, List.set_cons_succ]
      refine wpAnyH_take (i := 9) (oi := { dst := some 4, op := Op.assign (Operand.tmp 17), type := 24, pos := "l2_set.go:70", after := #[{ on := 8, ground := Ground.data }, { on := 8, ground := Ground.chain }, { on := 0, ground := Ground.phase }, { on := 1, ground := Ground.phase }, { on := 2, ground := Ground.phase }, { on := 3, ground := Ground.phase }, { on := 4, ground := Ground.phase }, { on := 5, ground := Ground.phase }, { on := 6, ground := Ground.phase }, { on := 7, ground := Ground.phase }, { on := 8, ground := Ground.phase }], guard := none }) (v := ?v201x9) rfl (by kernel_rfl) (by kernel_rfl) (by kernel_rfl) (fun _ _ _ h => h) (Or.inl ⟨by rfl, ?hy201x9⟩) (by with_reducible assumption) ?rest201x9
      case hy201x9 => (intro w hSw; (try dsimp only at hSw); go_simp; try with_reducible rfl)
      case' rest201x9 => (try simp only [Act.put, List.setIfInBounds_toArray, List.set_cons_zero, List.set_cons_succ])
      refine wpAnyH_done (by kernel_rfl) ?_ _
      refine NoPanic.normal ?_
      go_wp2
      go_ret
      rw [← cells_append] at hown5
      exact ⟨_, rfl, (own_of hown5).mono hb2.size, grew hb2 hb25⟩
    · go_enter Tryd.func43, Tryd.ntmps43
      go_wp2_with (go_at_call 44; refine hC.mono ?_; rintro e w2 ⟨rfl, hb⟩; have hb2 : Below w.heap.size w w2 := grew (by go_grown) hb)
      refine wp_region_noPanic ?_
      refine wp_region_held_drew (S := (fun u => Below w2.heap.size w2 u)) (by kernel_rfl) ?_ (fun hHeld => ?_)
      · exact (Below.refl _ _).drew
      refine wpAnyH_take (i := 0) (oi := { dst := some 9, op := Op.move (Operand.tmp 0), type := 24, pos := "l2_set.go:70", after := #[], guard := none }) (v := ?v202x0) rfl (by kernel_rfl) (by kernel_rfl) (by kernel_rfl) (fun _ _ _ h => h) (Or.inl ⟨by rfl, ?hy202x0⟩) (by with_reducible assumption) ?rest202x0
      case hy202x0 => (intro w hSw; (try dsimp only at hSw); go_simp; try with_reducible rfl)
      case' rest202x0 => (try simp only [Act.put, List.setIfInBounds_toArray, List.set_cons_zero, List.set_cons_succ])
      refine wpAnyH_take (i := 1) (oi := { dst := some 10, op := Op.move (Operand.tmp 5), type := 3, pos := "l2_set.go:70", after := #[], guard := none }) (v := ?v202x1) rfl (by kernel_rfl) (by kernel_rfl) (by kernel_rfl) (fun _ _ _ h => h) (Or.inl ⟨by rfl, ?hy202x1⟩) (by with_reducible assumption) ?rest202x1
      case hy202x1 => (intro w hSw; (try dsimp only at hSw); go_simp; try with_reducible rfl)
      case' rest202x1 => (try simp only [Act.put, List.setIfInBounds_toArray, List.set_cons_zero, List.set_cons_succ])
      refine wpAnyH_take (i := 2) (oi := { dst := some 11, op := Op.slice 24 (Operand.tmp 9) none (some (Operand.tmp 10)) none, type := 24, pos := "l2_set.go:70", after := #[{ on := 0, ground := Ground.data }, { on := 1, ground := Ground.data }], guard := none }) (v := ?v202x2) rfl (by kernel_rfl) (by kernel_rfl) (by kernel_rfl) (fun _ _ _ h => h) (Or.inl ⟨by rfl, ?hy202x2⟩) (by with_reducible assumption) ?rest202x2
      case hy202x2 => (intro w hSw; (try dsimp only at hSw); go_simp; try with_reducible rfl)
      case' rest202x2 => (try simp only [Act.put, List.setIfInBounds_toArray, List.set_cons_zero, List.set_cons_succ])
      refine wpAnyH_take (i := 4) (oi := { dst := some 13, op := Op.move (Operand.tmp 0), type := 24, pos := "l2_set.go:70", after := #[], guard := none }) (v := ?v202x4) rfl (by kernel_rfl) (by kernel_rfl) (by kernel_rfl) (fun _ _ _ h => h) (Or.inl ⟨by rfl, ?hy202x4⟩) (by with_reducible assumption) ?rest202x4
      case hy202x4 => (intro w hSw; (try dsimp only at hSw); go_simp; try with_reducible rfl)
      case' rest202x4 => (try simp only [Act.put, List.setIfInBounds_toArray, List.set_cons_zero, List.set_cons_succ])
      refine wpAnyH_take (i := 5) (oi := { dst := some 14, op := Op.move (Operand.tmp 5), type := 3, pos := "l2_set.go:70", after := #[], guard := none }) (v := ?v202x5) rfl (by kernel_rfl) (by kernel_rfl) (by kernel_rfl) (fun _ _ _ h => h) (Or.inl ⟨by rfl, ?hy202x5⟩) (by with_reducible assumption) ?rest202x5
      case hy202x5 => (intro w hSw; (try dsimp only at hSw); go_simp; try with_reducible rfl)
      case' rest202x5 => (try simp only [Act.put, List.setIfInBounds_toArray, List.set_cons_zero, List.set_cons_succ])
      refine wpAnyH_take (i := 6) (oi := { dst := some 15, op := Op.binOp BinOp.add 3 (Operand.tmp 14) (Operand.const (Value.int IntKind.i64 1)) 3, type := 3, pos := "l2_set.go:70", after := #[{ on := 5, ground := Ground.data }], guard := none }) (v := ?v202x6) rfl (by kernel_rfl) (by kernel_rfl) (by kernel_rfl) (fun _ _ _ h => h) (Or.inl ⟨by rfl, ?hy202x6⟩) (by with_reducible assumption) ?rest202x6
      case hy202x6 => (intro w hSw; (try dsimp only at hSw); go_simp; try with_reducible rfl)
      case' rest202x6 => (try simp only [Act.put, List.setIfInBounds_toArray, List.set_cons_zero, List.set_cons_succ])
      refine wpAnyH_take (i := 7) (oi := { dst := some 16, op := Op.slice 24 (Operand.tmp 13) (some (Operand.tmp 15)) none none, type := 24, pos := "l2_set.go:70", after := #[{ on := 4, ground := Ground.data }, { on := 6, ground := Ground.data }], guard := none }) (v := ?v202x7) rfl (by kernel_rfl) (by kernel_rfl) (by kernel_rfl) (fun _ _ _ h => h) (Or.inl ⟨by rfl, ?hy202x7⟩) (by with_reducible assumption) ?rest202x7
      case hy202x7 => (intro w hSw; (try dsimp only at hSw); go_simp; try with_reducible rfl)
      case' rest202x7 => (try simp only [Act.put, List.setIfInBounds_toArray, List.set_cons_zero, List.set_cons_succ])
      refine wpAnyH_ready (rs := [3]) (by kernel_rfl) (by simp) ?_
      refine AllReadyH.cons (o := { dst := some 12, op := Op.call { callee := Callee.value (Operand.func 51), args := #[Operand.tmp 11], argTypes := #[24] }, type := 24, pos := "l2_set.go:70", after := #[{ on := 2, ground := Ground.data }], guard := none }) rfl (fun K hK => ?_) AllReadyH.nil
      go_simp
      refine (l2Own_c (l.take k) _ _ _ _ (by rw [List.length_take]; omega) (by omega) (.inr ⟨⟨b, off, rfl⟩, by omega, hcm⟩) (((HA.out.take k).later (grew hb2 (by with_reducible assumption : Below w2.heap.size w2 _))).mono (grew hb2 (by with_reducible assumption : Below w2.heap.size w2 _)).size)).mono ?_
      rintro e w4 ⟨v4, rfl, ho4, hb4⟩
      have hb24 : Below w2.heap.size w2 w4 := grew (by with_reducible assumption) hb4
      replace ho4 := ho4.mono (by with_reducible assumption : Below w2.heap.size w2 _).size
      go_wp2_with fail
      refine hK.out _ _ ?_ (fun hHeld => ?_)
      · with_reducible exact hb24
      clear hK K
      try simp only [Act.put, List.setIfInBounds_toArray, List.set_cons_zero, List.set_cons_succ]
      have HA4 := hid (HA.out.later (grew hb2 hb24))
      refine wpAnyH_ready (rs := [8]) (by kernel_rfl) (by simp) ?_
      refine AllReadyH.cons (o := { dst := some 17, op := Op.call { callee := Callee.builtin Builtin.append, args := #[Operand.tmp 12, Operand.tmp 16], argTypes := #[24, 24] }, type := 24, pos := "l2_set.go:70", after := #[{ on := 3, ground := Ground.data }, { on := 7, ground := Ground.data }, { on := 3, ground := Ground.chain }], guard := none }) rfl (fun K hK => ?_) AllReadyH.nil
      rw [if_pos (by rfl)]
      refine wp_append_own _ (.tmp 12) (.tmp 16) 24 rfl w2.heap.size 26 i0 _ 2 16 Tryd.underlying24 hi hz0 hz1 hz2 rfl (by decide) _ _ _ rfl (cut_own ho4 (by rw [List.length_take]; omega)) ⟨b, off + j * 2, none⟩ _ _ (cells (l.drop j)) rfl (by rw [cells_len, List.length_drop]; try omega) (cells_src HA4.out (by intro h; first | rfl | (exfalso; omega)) _ rfl) (cells_ones _) (by unfold maxLen; omega) (by omega) hb24.size ?_
      intro v5 w5 hown5 hgrow5 _
      have hb25 : Below w2.heap.size w2 w5 := hb24.grown hgrow5 hb24.size (fun q hq => ((cut_own ho4 (by rw [List.length_take]; omega)).lt q hq).1)
      refine hK.out _ _ ?_ (fun hHeld => ?_)
      · with_reducible exact hb25
      clear hK K
      try simp only [Act.put, List.setIfInBounds_toArray, List.set_cons_zero, List.set_cons_succ]
      refine wpAnyH_take (i := 9) (oi := { dst := some 4, op := Op.assign (Operand.tmp 17), type := 24, pos := "l2_set.go:70", after := #[{ on := 8, ground := Ground.data }, { on := 8, ground := Ground.chain }, { on := 0, ground := Ground.phase }, { on := 1, ground := Ground.phase }, { on := 2, ground := Ground.phase }, { on := 3, ground := Ground.phase }, { on := 4, ground := Ground.phase }, { on := 5, ground := Ground.phase }, { on := 6, ground := Ground.phase }, { on := 7, ground := Ground.phase }, { on := 8, ground := Ground.phase }], guard := none }) (v := ?v202x9) rfl (by kernel_rfl) (by kernel_rfl) (by kernel_rfl) (fun _ _ _ h => h) (Or.inl ⟨by rfl, ?hy202x9⟩) (by with_reducible assumption) ?rest202x9
      case hy202x9 => (intro w hSw; (try dsimp only at hSw); go_simp; try with_reducible rfl)
      case' rest202x9 => (try simp only [Act.put, List.setIfInBounds_toArray, List.set_cons_zero, List.set_cons_succ])
      refine wpAnyH_done (by kernel_rfl) ?_ _
      refine NoPanic.normal ?_
      go_wp2
      go_ret
      rw [← cells_append] at hown5
      exact ⟨_, rfl, (own_of hown5).mono hb2.size, grew hb2 hb25⟩
end Go.Proofs.YtfhlgdngmdlakaaDoor
