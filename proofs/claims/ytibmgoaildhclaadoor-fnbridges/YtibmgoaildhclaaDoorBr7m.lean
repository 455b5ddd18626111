/-
  Two pieces laid together; MergeLower, the program's and the specification's (contracts for the walks).
  Conditions: as each theorem states them.
-/
import Derived.Test.YtibmgoaildhclaaDoorBr7d
namespace Go.Proofs.YtibmgoaildhclaaDoor
open Go.RowKit Go.Shelf
set_option linter.unusedVariables false
set_option maxRecDepth 8000
/-- The points up to one of a, and from one of b on. -/
def mgL (a b : List (Int × Int)) (i j : Nat) : List (Int × Int) := a.take (i + 1) ++ b.drop j
def mgV (a b : List (Int × Int)) : List (Int × Int) := if twI a b = true then mgL a b (bdP a b).1 (bdP a b).2 else []
theorem mgL_len (a b : List (Int × Int)) (i j : Nat) : (mgL a b i j).length ≤ a.length + b.length := by
  unfold mgL
  rw [List.length_append, List.length_take, List.length_drop]
  omega
theorem mgV_len (a b : List (Int × Int)) : (mgV a b).length ≤ a.length + b.length := by
  unfold mgV
  split
  · exact mgL_len _ _ _ _
  · exact Nat.zero_le _
theorem tw_some {a b : List (Int × Int)} (h : twI a b = true) : 0 < a.length ∧ 0 < b.length := by
  unfold twI chI at h
  simp only [Bool.and_eq_true, decide_eq_true_eq] at h
  exact ⟨h.1.2.1, h.2.1.2.1⟩
theorem bd_lt {a b : List (Int × Int)} (ha : 0 < a.length) (hb : 0 < b.length) : (bdP a b).1 < a.length ∧ (bdP a b).2 < b.length := by
  unfold bdP
  cases hq : ((List.range a.length).flatMap fun i => (List.range b.length).map fun j => (i, j)).find? fun p => brS a b p.1 p.2 with
  | none => exact ⟨ha, hb⟩
  | some q => exact bd_mem.1 (List.mem_of_find?_eq_some hq)
set_option maxHeartbeats 4000000 in
theorem merged_c (a b : List (Int × Int)) (pa pb : Option Addr) (na ca nb cb : Nat) (i j : Nat) (w : World) (hla : a.length = na) (hlb : b.length = nb) (h1 : na ≤ 1048576) (h2 : nb ≤ 1048576) (hFa : Fit pa na ca) (hFb : Fit pb nb cb) (hA : At w.heap.size pa a w) (hB : At w.heap.size pb b w) (hi : i < na) (hj : j < nb) :
    Calls Tryd.prog 27 #[.slice pa na ca, .slice pb nb cb, .int .i64 i, .int .i64 j] w fun e w' => ∃ v, e = .returned v ∧ Own w.heap.size v (mgL a b i j) w' ∧ Below w.heap.size w w' := by
  subst hla hlb
  have HA := hid hA
  have HB := hid hB
  clear hA hB
  obtain ⟨i0, hii, hz0, hz1, hz2⟩ := info_parts info_pt
  rcases hFa with ⟨rfl, rfl, hl0⟩ | ⟨⟨ba, oa, rfl⟩, hlca, hcma⟩
  · omega
  rcases hFb with ⟨rfl, rfl, hl0⟩ | ⟨⟨bb, ob, rfl⟩, hlcb, hcmb⟩
  · omega
  obtain ⟨u, hu⟩ : ∃ u, i + 1 = u := ⟨_, rfl⟩
  obtain ⟨c, hc⟩ : ∃ c, u + b.length - j = c := ⟨_, rfl⟩
  obtain ⟨x, hx⟩ : ∃ x, u + b.length = x := ⟨_, rfl⟩
  have e1 : IntKind.i64.wrap ((i : Int) + 1) = (u : Int) := by rw [IntKind.wrap_i64]; omega
  have e2 : IntKind.i64.wrap ((u : Int) + (b.length : Int)) = (x : Int) := by rw [IntKind.wrap_i64]; omega
  have e3 : IntKind.i64.wrap ((x : Int) - (j : Int)) = (c : Int) := by rw [IntKind.wrap_i64]; omega
  have f1 : (0 : Int) ≤ (u : Int) := by omega
  have f2 : (u : Int) ≤ (a.length : Int) := by omega
  have f3 : (u : Int) ≤ (ca : Int) := by omega
  have f4 : (0 : Int) ≤ (j : Int) := by omega
  have f5 : (j : Int) ≤ (b.length : Int) := by omega
  have f6 : (j : Int) ≤ (cb : Int) := by omega
  have f7 : (a.length : Int) ≤ (ca : Int) := by omega
  have f8 : (b.length : Int) ≤ (cb : Int) := by omega
  have f9 : (0 : Int) ≤ (c : Int) := by omega
  have hul : u ≤ a.length := by omega
  have hjl : j < b.length := hj
  have hcc : u + (b.length - j) ≤ c := by omega
  have hcm : c ≤ 2097152 := by omega
  have hck : cb ≠ j := by omega
  have HU := hid hu
  unfold mgL
  rw [hu]
  clear hu hc hx
  go_enter Tryd.func27, Tryd.ntmps27
  go_wp2_with (first
    | (at_make; refine wpList_make_own _ rfl _ _ 24 rfl w.heap.size 44 i0 _ 2 Tryd.underlying24 hii hz0 hz1 .i64 .i64 _ c rfl rfl (by omega) (by rw [hz2]; omega) (by unfold maxLen; omega) (Nat.le_refl _) ?_; intro w0 hown0 hgrow0; have hb0 := growNone hgrow0; have HA0 := hid (HA.out.later hb0); have HB0 := hid (HB.out.later hb0); have hsz0 := hb0.size; clear hgrow0)
    | (at_builtin; refine wpList_append_fits_any _ rfl (.tmp 18) (.tmp 22) 24 rfl w.heap.size 44 i0 2 Tryd.underlying24 hii hz1 w.heap.size 0 c [] rfl hown0 _ u _ (cells (a.take u)) rfl (by rw [cells_len, List.length_take, Nat.min_eq_left (by omega)]) (by intro h; cases h) (cells_pre HA0.out (by intro h; rfl)) (cells_ones _) (by omega) ?_; intro w1 hown1 hgrow1; simp only [Nat.zero_add, List.nil_append] at hown1; have hb1 : Below w.heap.size w0 w1 := grownB hgrow1 hsz0 (Nat.le_refl _); have HB1 := hid (At.laterB HB0.out hb1 (Nat.le_refl _)); have hbw1 := hb0.trans hb1)
    | (at_builtin; refine wpList_append_fits_any _ rfl (.tmp 24) (.tmp 27) 24 rfl w.heap.size 44 i0 2 Tryd.underlying24 hii hz1 w.heap.size u c _ rfl hown1 _ _ _ (cells (b.drop j)) rfl (by rw [cells_len, List.length_drop]) (by intro h; cases h) (cells_src HB1.out (by intro h; first | rfl | (exfalso; omega))) (cells_ones _) (by omega) ?_; intro w2 hown2 hgrow2; have hb2 : Below w.heap.size w1 w2 := grownB hgrow2 hbw1.size (Nat.le_refl _)))
  go_ret
  rw [← cells_append] at hown2
  exact ⟨_, rfl, own_of hown2, hbw1.trans hb2⟩
set_option maxHeartbeats 4000000 in
theorem l7Merge_c (a b : List (Int × Int)) (pa pb : Option Addr) (na ca nb cb : Nat) (w : World) (hla : a.length = na) (hlb : b.length = nb) (h1 : na ≤ 1048576) (h2 : nb ≤ 1048576) (hFa : Fit pa na ca) (hFb : Fit pb nb cb) (hA : At w.heap.size pa a w) (hB : At w.heap.size pb b w) (hT : twI a b = true) :
    Calls Tryd.prog 23 #[.slice pa na ca, .slice pb nb cb] w fun e w' => ∃ v, e = .returned v ∧ Own w.heap.size v (mgL a b (bdP a b).1 (bdP a b).2) w' ∧ Below w.heap.size w w' := by
  subst hla hlb
  have HA := hid hA
  have HB := hid hB
  have HF := hid (l7Find_c a b pa pb a.length ca b.length cb w rfl rfl h1 h2 hT hA hB)
  obtain ⟨ha0, hb0⟩ := tw_some hT
  obtain ⟨hi, hj⟩ := bd_lt ha0 hb0
  clear hA hB
  obtain ⟨i0, hii, hz0, hz1, hz2⟩ := info_parts info_pt
  have hi' := hii
  rcases hFa with ⟨rfl, rfl, hl0⟩ | ⟨⟨ba, oa, rfl⟩, hlca, hcma⟩
  · omega
  rcases hFb with ⟨rfl, rfl, hl0⟩ | ⟨⟨bb, ob, rfl⟩, hlcb, hcmb⟩
  · omega
  obtain ⟨i, hI⟩ : ∃ i, (bdP a b).1 = i := ⟨_, rfl⟩
  obtain ⟨j, hJ⟩ : ∃ j, (bdP a b).2 = j := ⟨_, rfl⟩
  rw [hI, hJ] at HF
  rw [hI] at hi
  rw [hJ] at hj
  rw [hI, hJ]
  clear hI hJ
  obtain ⟨u, hu⟩ : ∃ u, i + 1 = u := ⟨_, rfl⟩
  have e1 : IntKind.i64.wrap ((i : Int) + 1) = (u : Int) := by rw [IntKind.wrap_i64]; omega
  have f1 : (0 : Int) ≤ (u : Int) := by omega
  have f2 : (u : Int) ≤ (a.length : Int) := by omega
  have f3 : (u : Int) ≤ (ca : Int) := by omega
  have f4 : (0 : Int) ≤ (j : Int) := by omega
  have f5 : (j : Int) ≤ (b.length : Int) := by omega
  have f6 : (j : Int) ≤ (cb : Int) := by omega
  have f7 : (a.length : Int) ≤ (ca : Int) := by omega
  have f8 : (b.length : Int) ≤ (cb : Int) := by omega
  have hul : u ≤ a.length := by omega
  have hck : cb ≠ j := by omega
  have HU := hid hu
  have hi := hii
  unfold mgL
  rw [hu]
  clear hu
  go_enter Tryd.func23, Tryd.ntmps23
  go_upto_region 2 with (go_at_call 30; refine HF.out.mono ?_; rintro e w2 ⟨rfl, hb2⟩)
  refine wp_region_noPanic ?_
  refine wp_region_held_drew (S := (fun u => Below w2.heap.size w2 u)) (by kernel_rfl) ?_ (fun hHeld => ?_)
  · exact (Below.refl _ _).drew
  refine wpAnyH_take (i := 0) (oi := { dst := some 13, op := Op.move (Operand.tmp 0), type := 24, pos := "l7_tree.go:62", after := #[], guard := none }) (v := ?v501x0) rfl (by kernel_rfl) (by kernel_rfl) (by kernel_rfl) (fun _ _ _ h => h) (Or.inl ⟨by rfl, ?hy501x0⟩) (by with_reducible assumption) ?rest501x0
  case hy501x0 => (intro w hSw; (try dsimp only at hSw); go_simp; try with_reducible rfl)
  case' rest501x0 => (try simp only [Act.put, List.setIfInBounds_toArray, List.set_cons_zero, List.set_cons_succ])
  refine wpAnyH_take (i := 1) (oi := { dst := some 14, op := Op.move (Operand.tmp 5), type := 3, pos := "l7_tree.go:62", after := #[], guard := none }) (v := ?v501x1) rfl (by kernel_rfl) (by kernel_rfl) (by kernel_rfl) (fun _ _ _ h => h) (Or.inl ⟨by rfl, ?hy501x1⟩) (by with_reducible assumption) ?rest501x1
  case hy501x1 => (intro w hSw; (try dsimp only at hSw); go_simp; try with_reducible rfl)
  case' rest501x1 => (try simp only [Act.put, List.setIfInBounds_toArray, List.set_cons_zero, List.set_cons_succ])
  refine wpAnyH_take (i := 2) (oi := { dst := some 15, op := Op.binOp BinOp.add 3 (Operand.tmp 14) (Operand.const (Value.int IntKind.i64 1)) 3, type := 3, pos := "l7_tree.go:62", after := #[{ on := 1, ground := Ground.data }], guard := none }) (v := ?v501x2) rfl (by kernel_rfl) (by kernel_rfl) (by kernel_rfl) (fun _ _ _ h => h) (Or.inl ⟨by rfl, ?hy501x2⟩) (by with_reducible assumption) ?rest501x2
  case hy501x2 => (intro w hSw; (try dsimp only at hSw); go_simp; try with_reducible rfl)
  case' rest501x2 => (try simp only [Act.put, List.setIfInBounds_toArray, List.set_cons_zero, List.set_cons_succ])
  refine wpAnyH_take (i := 3) (oi := { dst := some 16, op := Op.slice 24 (Operand.tmp 13) none (some (Operand.tmp 15)) none, type := 24, pos := "l7_tree.go:62", after := #[{ on := 0, ground := Ground.data }, { on := 2, ground := Ground.data }], guard := none }) (v := ?v501x3) rfl (by kernel_rfl) (by kernel_rfl) (by kernel_rfl) (fun _ _ _ h => h) (Or.inl ⟨by rfl, ?hy501x3⟩) (by with_reducible assumption) ?rest501x3
  case hy501x3 => (intro w hSw; (try dsimp only at hSw); go_simp; try with_reducible rfl)
  case' rest501x3 => (try simp only [Act.put, List.setIfInBounds_toArray, List.set_cons_zero, List.set_cons_succ])
  refine wpAnyH_take (i := 5) (oi := { dst := some 18, op := Op.move (Operand.tmp 1), type := 24, pos := "l7_tree.go:62", after := #[], guard := none }) (v := ?v501x5) rfl (by kernel_rfl) (by kernel_rfl) (by kernel_rfl) (fun _ _ _ h => h) (Or.inl ⟨by rfl, ?hy501x5⟩) (by with_reducible assumption) ?rest501x5
  case hy501x5 => (intro w hSw; (try dsimp only at hSw); go_simp; try with_reducible rfl)
  case' rest501x5 => (try simp only [Act.put, List.setIfInBounds_toArray, List.set_cons_zero, List.set_cons_succ])
  refine wpAnyH_take (i := 6) (oi := { dst := some 19, op := Op.move (Operand.tmp 6), type := 3, pos := "l7_tree.go:62", after := #[], guard := none }) (v := ?v501x6) rfl (by kernel_rfl) (by kernel_rfl) (by kernel_rfl) (fun _ _ _ h => h) (Or.inl ⟨by rfl, ?hy501x6⟩) (by with_reducible assumption) ?rest501x6
  case hy501x6 => (intro w hSw; (try dsimp only at hSw); go_simp; try with_reducible rfl)
  case' rest501x6 => (try simp only [Act.put, List.setIfInBounds_toArray, List.set_cons_zero, List.set_cons_succ])
  refine wpAnyH_take (i := 7) (oi := { dst := some 20, op := Op.slice 24 (Operand.tmp 18) (some (Operand.tmp 19)) none none, type := 24, pos := "l7_tree.go:62", after := #[{ on := 5, ground := Ground.data }, { on := 6, ground := Ground.data }], guard := none }) (v := ?v501x7) rfl (by kernel_rfl) (by kernel_rfl) (by kernel_rfl) (fun _ _ _ h => h) (Or.inl ⟨by rfl, ?hy501x7⟩) (by with_reducible assumption) ?rest501x7
  case hy501x7 => (intro w hSw; (try dsimp only at hSw); go_simp; try with_reducible rfl)
  case' rest501x7 => (try simp only [Act.put, List.setIfInBounds_toArray, List.set_cons_zero, List.set_cons_succ])
  refine wpAnyH_ready (rs := [4]) (by kernel_rfl) (by simp) ?_
  refine AllReadyH.cons (o := { dst := some 17, op := Op.call { callee := Callee.value (Operand.func 43), args := #[Operand.tmp 16], argTypes := #[24] }, type := 24, pos := "l7_tree.go:62", after := #[{ on := 3, ground := Ground.data }], guard := none }) rfl (fun K hK => ?_) AllReadyH.nil
  go_simp
  refine (l2Own_c (a.take u) _ _ _ _ (by rw [List.length_take]; omega) (by omega) (.inr ⟨⟨ba, oa, rfl⟩, by omega, hcma⟩) (((HA.out.take u).later (grew hb2 (by with_reducible assumption : Below w2.heap.size w2 _))).mono (grew hb2 (by with_reducible assumption : Below w2.heap.size w2 _)).size)).mono ?_
  rintro e w4 ⟨v4, rfl, ho4, hb4⟩
  have hb24 : Below w2.heap.size w2 w4 := grew (by with_reducible assumption) hb4
  replace ho4 := ho4.mono (by with_reducible assumption : Below w2.heap.size w2 _).size
  go_wp2_with fail
  refine hK.out _ _ ?_ (fun hHeld => ?_)
  · with_reducible exact hb24
  clear hK K
  try simp only [Act.put, List.setIfInBounds_toArray, List.set_cons_zero, List.set_cons_succ]
  have HB4 := hid (HB.out.later (grew hb2 hb24))
  refine wpAnyH_ready (rs := [8]) (by kernel_rfl) (by simp) ?_
  refine AllReadyH.cons (o := { dst := some 21, op := Op.call { callee := Callee.builtin Builtin.append, args := #[Operand.tmp 17, Operand.tmp 20], argTypes := #[24, 24] }, type := 24, pos := "l7_tree.go:62", after := #[{ on := 4, ground := Ground.data }, { on := 7, ground := Ground.data }, { on := 4, ground := Ground.chain }], guard := none }) rfl (fun K hK => ?_) AllReadyH.nil
  rw [if_pos (by rfl)]
  refine wp_append_own _ (.tmp 17) (.tmp 20) 24 rfl w2.heap.size 44 i0 _ 2 16 Tryd.underlying24 hi hz0 hz1 hz2 rfl (by decide) _ _ _ rfl (cut_own ho4 (by rw [List.length_take]; omega)) ⟨bb, ob + j * 2, none⟩ _ _ (cells (b.drop j)) rfl (by rw [cells_len, List.length_drop]; try omega) (cells_src HB4.out (by intro h; first | rfl | (exfalso; omega)) _ rfl) (cells_ones _) (by unfold maxLen; omega) (by omega) hb24.size ?_
  intro v5 w5 hown5 hgrow5 _
  have hb25 : Below w2.heap.size w2 w5 := hb24.grown hgrow5 hb24.size (fun q hq => ((cut_own ho4 (by rw [List.length_take]; omega)).lt q hq).1)
  refine hK.out _ _ ?_ (fun hHeld => ?_)
  · with_reducible exact hb25
  clear hK K
  try simp only [Act.put, List.setIfInBounds_toArray, List.set_cons_zero, List.set_cons_succ]
  refine wpAnyH_take (i := 9) (oi := { dst := some 4, op := Op.assign (Operand.tmp 21), type := 24, pos := "l7_tree.go:62", after := #[{ on := 8, ground := Ground.data }, { on := 8, ground := Ground.chain }, { on := 0, ground := Ground.phase }, { on := 1, ground := Ground.phase }, { on := 2, ground := Ground.phase }, { on := 3, ground := Ground.phase }, { on := 4, ground := Ground.phase }, { on := 5, ground := Ground.phase }, { on := 6, ground := Ground.phase }, { on := 7, ground := Ground.phase }, { on := 8, ground := Ground.phase }], guard := none }) (v := ?v501x9) rfl (by kernel_rfl) (by kernel_rfl) (by kernel_rfl) (fun _ _ _ h => h) (Or.inl ⟨by rfl, ?hy501x9⟩) (by with_reducible assumption) ?rest501x9
  case hy501x9 => (intro w hSw; (try dsimp only at hSw); go_simp; try with_reducible rfl)
  case' rest501x9 => (try simp only [Act.put, List.setIfInBounds_toArray, List.set_cons_zero, List.set_cons_succ])
  refine wpAnyH_done (by kernel_rfl) ?_ _
  refine NoPanic.normal ?_
  go_wp2
  go_ret
  rw [← cells_append] at hown5
  exact ⟨_, rfl, (own_of hown5).mono hb2.size, grew hb2 hb25⟩
set_option maxHeartbeats 4000000 in
theorem mergeTopSpec_c (a b : List (Int × Int)) (pa pb : Option Addr) (na ca nb cb : Nat) (w : World) (hla : a.length = na) (hlb : b.length = nb) (h1 : na ≤ 1048576) (h2 : nb ≤ 1048576) (hFa : Fit pa na ca) (hFb : Fit pb nb cb) (hA : At w.heap.size pa a w) (hB : At w.heap.size pb b w) :
    Calls Tryd.prog 6 #[.slice pa na ca, .slice pb nb cb] w fun e w' => ∃ v, e = .returned (.tuple #[v, .bool (twI a b)]) ∧ Own w.heap.size v (mgV a b) w' ∧ Below w.heap.size w w' := by
  subst hla hlb
  have HA := hid hA
  have HB := hid hB
  have tk : True := trivial
  clear hA hB
  cases hT : twI a b
  · have EV : mgV a b = [] := by unfold mgV; rw [hT]; rfl
    rw [EV]
    go_enter Tryd.func6, Tryd.ntmps6
    go_wp2_with (go_at_call 22; refine (l7Two_c a b _ _ _ _ _ _ _ rfl rfl h1 h2 HA.out HB.out).mono ?_; rw [hT]; rintro e w1 ⟨rfl, hb1⟩)
    go_ret2
    exact ⟨_, rfl, Own.nil _ _, hb1⟩
  · have EV := hid (show mgV a b = mgL a b (bdP a b).1 (bdP a b).2 by unfold mgV; rw [hT]; rfl)
    have HT := hid hT
    go_enter Tryd.func6, Tryd.ntmps6
    go_wp2_with (first
      | (go_at_call 22; refine (l7Two_c a b _ _ _ _ _ _ _ rfl rfl h1 h2 HA.out HB.out).mono ?_; rw [hT]; rintro e w1 ⟨rfl, hb1⟩)
      | (go_at_call 23; refine (l7Merge_c a b _ _ _ _ _ _ w1 rfl rfl h1 h2 hFa hFb ((HA.out.later hb1).mono hb1.size) ((HB.out.later hb1).mono hb1.size) HT.out).mono ?_; rintro e w3 ⟨v3, rfl, ho3, hb3⟩; have hbf := grew hb1 hb3; have hb12 := hb1))
    go_ret2
    exact ⟨_, rfl, by rw [EV.out]; exact ho3.mono hb1.size, hbf⟩
set_option maxHeartbeats 4000000 in
theorem mergeTopImpl_c (a b : List (Int × Int)) (pa pb : Option Addr) (na ca nb cb : Nat) (w : World) (hla : a.length = na) (hlb : b.length = nb) (h1 : na ≤ 1048576) (h2 : nb ≤ 1048576) (hFa : Fit pa na ca) (hFb : Fit pb nb cb) (hA : At w.heap.size pa a w) (hB : At w.heap.size pb b w) (c0 : w.cell? ⟨0, 0, none⟩ = some (.int .i64 1000000)) :
    Calls Tryd.prog 8 #[.slice pa na ca, .slice pb nb cb] w fun e w' => ∃ v, e = .returned (.tuple #[v, .bool (twI a b)]) ∧ Own w.heap.size v (mgV a b) w' ∧ Below w.heap.size w w' := by
  subst hla hlb
  have HA := hid hA
  have HB := hid hB
  have C0 := hid c0
  clear hA hB
  cases hT : twI a b
  · have EV : mgV a b = [] := by unfold mgV; rw [hT]; rfl
    rw [EV]
    go_enter Tryd.func8, Tryd.ntmps8
    go_wp2_with (go_at_call 25; refine (areChains_c a b _ _ _ _ _ _ _ rfl rfl h1 h2 HA.out HB.out C0.out).mono ?_; rw [hT]; rintro e w1 ⟨rfl, hb1⟩)
    go_ret2
    exact ⟨_, rfl, Own.nil _ _, hb1⟩
  · have EV := hid (show mgV a b = mgL a b (bdP a b).1 (bdP a b).2 by unfold mgV; rw [hT]; rfl)
    have HT := hid hT
    go_enter Tryd.func8, Tryd.ntmps8
    go_wp2_with (first
      | (go_at_call 25; refine (areChains_c a b _ _ _ _ _ _ _ rfl rfl h1 h2 HA.out HB.out C0.out).mono ?_; rw [hT]; rintro e w1 ⟨rfl, hb1⟩)
      | (go_at_call 26; refine (bridgeOf_c a b _ _ _ _ _ _ w1 rfl rfl h1 h2 HT.out ((HA.out.later hb1).mono hb1.size) ((HB.out.later hb1).mono hb1.size) (cell_later hb1 C0.out)).mono ?_; rintro e w2 ⟨i, j, hi, hj, hBr, rfl, hb2⟩; have EE := hid (bd_of HT.out hi hj hBr); have hb12 := grew hb1 hb2)
      | (go_at_call 27; refine (merged_c a b _ _ _ _ _ _ _ _ w2 rfl rfl h1 h2 hFa hFb ((HA.out.later hb12).mono hb12.size) ((HB.out.later hb12).mono hb12.size) hi hj).mono ?_; rintro e w3 ⟨v3, rfl, ho3, hb3⟩; have hbf := grew hb12 hb3))
    go_ret2
    exact ⟨_, rfl, by rw [EV.out, EE.out]; exact ho3.mono hb12.size, hbf⟩
end Go.Proofs.YtibmgoaildhclaaDoor
