/-
  The drawn chains (contracts for the walks).
  Conditions: as each theorem states them.
-/
import Derived.Test.YtibmgoaildhclaaDoorDrHull
import Derived.Test.YtibmgoaildhclaaDoorHHalP
import Derived.Test.YtibmgoaildhclaaDoorBr7m
namespace Go.Proofs.YtibmgoaildhclaaDoor
open Go.RowKit
set_option linter.unusedVariables false
set_option maxRecDepth 8000
theorem lit3 (w : World) : OwnC w.heap.size (.slice (Option.some ⟨w.heap.size, 0, none⟩) 3 3) [(0, 1), (2, 0), (3, 3)] (w.alloc (.cells #[.int .i64 0, .int .i64 1, .int .i64 2, .int .i64 0, .int .i64 3, .int .i64 3] 44)) :=
  .inr ⟨w.heap.size, 3, 6, fun i => cel [(0, 1), (2, 0), (3, 3)] i, rfl, Nat.le_refl _, Nat.le_refl _, by unfold maxLen; omega, Nat.le_refl _, ⟨_, heap_alloc_new _ _, rfl, fun i hi => by
    match i, hi with
    | 0, _ => rfl
    | 1, _ => rfl
    | 2, _ => rfl
    | 3, _ => rfl
    | 4, _ => rfl
    | 5, _ => rfl⟩, fun i hi => rfl⟩
theorem halfC_len (l : List (Int × Int)) : (chainB slB l).length ≤ l.length := chainB_len l
set_option maxHeartbeats 8000000 in
theorem chains_r (N b m : Nat) (w : World) (h : Rd N b m w) (hm : m ≤ 600000) :
    Calls Tryd.prog 29 #[.pointer (some ⟨b, 0, none⟩)] w fun e w' => ∃ va vb, e = .returned (.tuple #[va, vb]) ∧ ∃ la lb, OwnC w.heap.size va la w' ∧ OwnC w.heap.size vb lb w' ∧ la.length ≤ 24 ∧ lb.length ≤ 24 ∧ Rd N b (m + 203) w' ∧ Only b w w' := by
  have hb := h.lt
  have H := hid h
  clear h
  go_enter Tryd.func29, Tryd.ntmps29
  go_upto_region 2 with (go_at_call 47; refine (set_r N b m _ H.out (by omega)).mono ?_; rintro e w1 ⟨v1, rfl, s, ho1, hl1, hR1, hO1⟩; obtain ⟨a1, p1, hv1⟩ := ho1.shape; subst hv1)
  have hs1 := hO1.size
  by_cases h2 : s.length < 2
  · go_upto_region 4 with fail
    have hoS := (lit3 w1).mono hs1
    have hRS := hR1.below (by go_grown : Below (b + 1) w1 (w1.alloc (.cells #[.int .i64 0, .int .i64 1, .int .i64 2, .int .i64 0, .int .i64 3, .int .i64 3] 44)))
    have hOS := hO1.alloc (.cells #[.int .i64 0, .int .i64 1, .int .i64 2, .int .i64 0, .int .i64 3, .int .i64 3] 44)
    have hsS : w.heap.size ≤ (w1.alloc (.cells #[.int .i64 0, .int .i64 1, .int .i64 2, .int .i64 0, .int .i64 3, .int .i64 3] 44)).heap.size := by simp; omega
    obtain ⟨g, hg⟩ : ∃ g, g = w1.heap.size := ⟨_, rfl⟩
    rw [← hg] at hoS ⊢
    generalize w1.alloc (.cells #[.int .i64 0, .int .i64 1, .int .i64 2, .int .i64 0, .int .i64 3, .int .i64 3] 44) = wS at hoS hRS hOS hsS ⊢
    obtain ⟨L, hL⟩ : ∃ L : List (Int × Int), [(0, 1), (2, 0), (3, 3)] = L := ⟨_, rfl⟩
    have hn : L.length = 3 := by rw [← hL]; rfl
    rw [hL] at hoS
    clear hL hg h2
    go_upto_region 5 with (go_at_call 38; refine (pick_h 2 (by omega) (by omega) N b _ wS hRS (by omega)).mono ?_; rintro e w2 ⟨v, rfl, hv0, hv1, hR2, hO2⟩; obtain ⟨k0, rfl⟩ := Int.eq_ofNat_of_zero_le hv0; obtain ⟨k, hk⟩ : ∃ k, 1 + k0 = k := ⟨_, rfl⟩; have hwk : IntKind.i64.wrap ((1 : Int) + (k0 : Int)) = (k : Int) := by rw [IntKind.wrap_i64]; omega)
    have hs2 := hO2.size
    have hO02 := hOS.trans hO2
    have hoS2 := hoS.only hO2 hb
    have hcl : 3 ≤ 3 := by rcases hoS2.fit with ⟨h, _, _⟩ | ⟨_, h, _⟩ <;> first | (cases h; done) | exact h
    have hAT : At w2.heap.size (some ⟨g, 0, none⟩) (L.take k) w2 := hoS2.at.take k
    have hAD : At w2.heap.size (some ⟨g, k * 2, none⟩) (L.drop k) w2 := by have := hoS2.at.drop k; rwa [Nat.zero_add] at this
    have k0i : (0 : Int) ≤ (k : Int) := by omega
    have k1i : (k : Int) ≤ (3 : Int) := by omega
    have k2i : (k : Int) ≤ (3 : Int) := by omega
    have k3i : (3 : Int) ≤ (3 : Int) := by omega
    have kne : 3 ≠ k := by omega
    have lT : (chainB slB (L.take k)).length ≤ 24 := by have := chainB_len (t := slB) (L.take k); rw [List.length_take] at this; omega
    have lD : (chainB slB (L.drop k)).length ≤ 24 := by have := chainB_len (t := slB) (L.drop k); rw [List.length_drop] at this; omega
    have lP : (L.take k).length ≤ 24 := by rw [List.length_take]; omega
    refine wp_region_held_drew (S := (fun u => Below w2.heap.size w2 u)) (by kernel_rfl) ?_ (fun hHeld => ?_)
    · exact (Below.refl _ _).drew
    refine wpAnyH_take (i := 0) (oi := { dst := some 23, op := Op.move (Operand.tmp 4), type := 24, pos := "l7_tree.go:173", after := #[], guard := none }) (v := ?v2yx0) rfl (by kernel_rfl) (by kernel_rfl) (by kernel_rfl) (fun _ _ _ h => h) (Or.inl ⟨by rfl, ?hy2yx0⟩) (by with_reducible assumption) ?rest2yx0
    case hy2yx0 => (intro wS hSw; (try dsimp only at hSw);  clear hSw; go_simp; try with_reducible rfl)
    case' rest2yx0 => (try simp only [Act.put, List.setIfInBounds_toArray, List.set_cons_zero, List.set_cons_succ])
    refine wpAnyH_take (i := 1) (oi := { dst := some 24, op := Op.move (Operand.tmp 5), type := 3, pos := "l7_tree.go:173", after := #[], guard := none }) (v := ?v3yx1) rfl (by kernel_rfl) (by kernel_rfl) (by kernel_rfl) (fun _ _ _ h => h) (Or.inl ⟨by rfl, ?hy3yx1⟩) (by with_reducible assumption) ?rest3yx1
    case hy3yx1 => (intro wS hSw; (try dsimp only at hSw);  clear hSw; go_simp; try with_reducible rfl)
    case' rest3yx1 => (try simp only [Act.put, List.setIfInBounds_toArray, List.set_cons_zero, List.set_cons_succ])
    refine wpAnyH_take (i := 2) (oi := { dst := some 25, op := Op.slice 24 (Operand.tmp 23) none (some (Operand.tmp 24)) none, type := 24, pos := "l7_tree.go:173", after := #[{ on := 0, ground := Ground.data }, { on := 1, ground := Ground.data }], guard := none }) (v := ?v4yx2) rfl (by kernel_rfl) (by kernel_rfl) (by kernel_rfl) (fun _ _ _ h => h) (Or.inl ⟨by rfl, ?hy4yx2⟩) (by with_reducible assumption) ?rest4yx2
    case hy4yx2 => (intro wS hSw; (try dsimp only at hSw);  clear hSw; go_simp; try with_reducible rfl)
    case' rest4yx2 => (try simp only [Act.put, List.setIfInBounds_toArray, List.set_cons_zero, List.set_cons_succ])
    refine wpAnyH_take (i := 4) (oi := { dst := some 27, op := Op.move (Operand.tmp 4), type := 24, pos := "l7_tree.go:173", after := #[], guard := none }) (v := ?v5yx4) rfl (by kernel_rfl) (by kernel_rfl) (by kernel_rfl) (fun _ _ _ h => h) (Or.inl ⟨by rfl, ?hy5yx4⟩) (by with_reducible assumption) ?rest5yx4
    case hy5yx4 => (intro wS hSw; (try dsimp only at hSw);  clear hSw; go_simp; try with_reducible rfl)
    case' rest5yx4 => (try simp only [Act.put, List.setIfInBounds_toArray, List.set_cons_zero, List.set_cons_succ])
    refine wpAnyH_take (i := 5) (oi := { dst := some 28, op := Op.move (Operand.tmp 5), type := 3, pos := "l7_tree.go:173", after := #[], guard := none }) (v := ?v6yx5) rfl (by kernel_rfl) (by kernel_rfl) (by kernel_rfl) (fun _ _ _ h => h) (Or.inl ⟨by rfl, ?hy6yx5⟩) (by with_reducible assumption) ?rest6yx5
    case hy6yx5 => (intro wS hSw; (try dsimp only at hSw);  clear hSw; go_simp; try with_reducible rfl)
    case' rest6yx5 => (try simp only [Act.put, List.setIfInBounds_toArray, List.set_cons_zero, List.set_cons_succ])
    refine wpAnyH_take (i := 6) (oi := { dst := some 29, op := Op.slice 24 (Operand.tmp 27) (some (Operand.tmp 28)) none none, type := 24, pos := "l7_tree.go:173", after := #[{ on := 4, ground := Ground.data }, { on := 5, ground := Ground.data }], guard := none }) (v := ?v7yx6) rfl (by kernel_rfl) (by kernel_rfl) (by kernel_rfl) (fun _ _ _ h => h) (Or.inl ⟨by rfl, ?hy7yx6⟩) (by with_reducible assumption) ?rest7yx6
    case hy7yx6 => (intro wS hSw; (try dsimp only at hSw);  clear hSw; go_simp; try with_reducible rfl)
    case' rest7yx6 => (try simp only [Act.put, List.setIfInBounds_toArray, List.set_cons_zero, List.set_cons_succ])
    refine wpAnyH_ready (rs := [3]) (by kernel_rfl) (by simp) ?_
    refine AllReadyH.cons (o := { dst := some 26, op := Op.call { callee := Callee.value (Operand.func 48), args := #[Operand.tmp 25], argTypes := #[24] }, type := 24, pos := "l7_tree.go:173", after := #[{ on := 2, ground := Ground.data }], guard := none }) rfl (fun K hK => ?_) AllReadyH.nil
    go_simp
    refine (l3Half_c (L.take k) _ _ _ _ (by first | (rw [List.length_take]; omega) | (rw [List.length_drop]; omega) | (rw [List.length_drop])) (by omega) ((((hAT)).later (by with_reducible assumption)).mono (by with_reducible assumption : Below w2.heap.size w2 _).size)).mono ?_
    rintro e wt ⟨vt, rfl, ot, ht⟩
    have Bt : Below w2.heap.size w2 wt := grew (by with_reducible assumption) ht
    replace ot := ot.mono (show w2.heap.size ≤ _ from (by with_reducible assumption : Below w2.heap.size w2 _).size)
    go_wp2_with fail
    refine hK.out _ _ ?_ (fun hHeld => ?_)
    · with_reducible exact Bt
    clear hK K
    try simp only [Act.put, List.setIfInBounds_toArray, List.set_cons_zero, List.set_cons_succ]
    refine wpAnyH_ready (rs := [7]) (by kernel_rfl) (by simp) ?_
    refine AllReadyH.cons (o := { dst := some 30, op := Op.call { callee := Callee.value (Operand.func 48), args := #[Operand.tmp 29], argTypes := #[24] }, type := 24, pos := "l7_tree.go:173", after := #[{ on := 6, ground := Ground.data }, { on := 3, ground := Ground.chain }], guard := none }) rfl (fun K hK => ?_) AllReadyH.nil
    go_simp
    refine (l3Half_c (L.drop k) _ _ _ _ (by first | (rw [List.length_take]; omega) | (rw [List.length_drop]; omega) | (rw [List.length_drop])) (by omega) ((((hAD)).later (by with_reducible assumption)).mono (by with_reducible assumption : Below w2.heap.size w2 _).size)).mono ?_
    rintro e wd ⟨vd, rfl, od, hd⟩
    have Bd : Below w2.heap.size w2 wd := grew (by with_reducible assumption) hd
    replace od := od.mono (show w2.heap.size ≤ _ from (by with_reducible assumption : Below w2.heap.size w2 _).size)
    go_wp2_with fail
    refine hK.out _ _ ?_ (fun hHeld => ?_)
    · with_reducible exact Bd
    clear hK K
    try simp only [Act.put, List.setIfInBounds_toArray, List.set_cons_zero, List.set_cons_succ]
    refine wpAnyH_take (i := 8) (oi := { dst := some 6, op := Op.assign (Operand.tmp 26), type := 24, pos := "l7_tree.go:173", after := #[{ on := 3, ground := Ground.data }, { on := 7, ground := Ground.chain }, { on := 0, ground := Ground.phase }, { on := 1, ground := Ground.phase }, { on := 2, ground := Ground.phase }, { on := 3, ground := Ground.phase }, { on := 4, ground := Ground.textOnly Departure.lateStores }, { on := 5, ground := Ground.textOnly Departure.lateStores }, { on := 6, ground := Ground.textOnly Departure.lateStoresUnsure }, { on := 7, ground := Ground.textOnly Departure.lateStoresUnsure }], guard := none }) (v := ?v8yx8) rfl (by kernel_rfl) (by kernel_rfl) (by kernel_rfl) (fun _ _ _ h => h) (Or.inl ⟨by rfl, ?hy8yx8⟩) (by with_reducible assumption) ?rest8yx8
    case hy8yx8 => (intro wS hSw; (try dsimp only at hSw);  clear hSw; go_simp; try with_reducible rfl)
    case' rest8yx8 => (try simp only [Act.put, List.setIfInBounds_toArray, List.set_cons_zero, List.set_cons_succ])
    refine wpAnyH_take (i := 9) (oi := { dst := some 7, op := Op.assign (Operand.tmp 30), type := 24, pos := "l7_tree.go:173", after := #[{ on := 7, ground := Ground.data }, { on := 8, ground := Ground.chain }, { on := 0, ground := Ground.phase }, { on := 1, ground := Ground.phase }, { on := 2, ground := Ground.phase }, { on := 3, ground := Ground.phase }, { on := 4, ground := Ground.phase }, { on := 5, ground := Ground.phase }, { on := 6, ground := Ground.phase }, { on := 7, ground := Ground.phase }, { on := 8, ground := Ground.phase }], guard := none }) (v := ?v9yx9) rfl (by kernel_rfl) (by kernel_rfl) (by kernel_rfl) (fun _ _ _ h => h) (Or.inl ⟨by rfl, ?hy9yx9⟩) (by with_reducible assumption) ?rest9yx9
    case hy9yx9 => (intro wS hSw; (try dsimp only at hSw);  clear hSw; go_simp; try with_reducible rfl)
    case' rest9yx9 => (try simp only [Act.put, List.setIfInBounds_toArray, List.set_cons_zero, List.set_cons_succ])
    refine wpAnyH_done (by kernel_rfl) ?_ _
    replace ot := ot.later hd
    have hRU := hR2.below (Bd.mono (show b + 1 ≤ w2.heap.size by omega))
    have hOU := hO02.trans (Only.ofBelow Bd)
    have hoU := hoS2.later Bd
    go_wp2_with (go_at_call 38; refine (pick_r 20 (by omega) (by omega) N b _ wd hRU (by omega)).mono ?_; rintro e w3 ⟨x, rfl, hx0, hx1, hR3, hO3⟩; have hO03 := hOU.trans hO3; have oT := (ot.only hO3 (by omega)).mono (show w.heap.size ≤ w2.heap.size by omega); have oD := (od.only hO3 (by omega)).mono (show w.heap.size ≤ w2.heap.size by omega); have oP := (hoU.only hO3 hb).take (k := k) (c := 3) (by omega) (by omega) (Nat.le_refl _))
    all_goals go_ret2
    all_goals first | exact ⟨_, _, rfl, _, _, oD, oT, lD, lT, hR3.mono (by omega), hO03⟩ | exact ⟨_, _, rfl, _, _, oP, oD, lP, lD, hR3.mono (by omega), hO03⟩ | exact ⟨_, _, rfl, [], _, OwnC.nil _ _, oD, Nat.zero_le _, lD, hR3.mono (by omega), hO03⟩ | exact ⟨_, _, rfl, _, _, oT, oD, lT, lD, hR3.mono (by omega), hO03⟩
  · go_upto_region 4 with fail
    have hoS := ho1.cut
    have hRS := hR1
    have hOS := hO1
    have hsS := hs1
    obtain ⟨g, hg, hgN⟩ := hoS.block (by omega)
    subst hg
    obtain ⟨n1, hn1⟩ : ∃ n1 : Nat, n1 + 1 = s.length := ⟨s.length - 1, by omega⟩
    have hw1 : IntKind.i64.wrap ((s.length : Int) - 1) = (n1 : Int) := by rw [IntKind.wrap_i64]; omega
    go_upto_region 5 with (go_at_call 38; refine (pick_h (n1 : Int) (by omega) (by omega) N b _ w1 hRS (by omega)).mono ?_; rintro e w2 ⟨v, rfl, hv0, hv1, hR2, hO2⟩; obtain ⟨k0, rfl⟩ := Int.eq_ofNat_of_zero_le hv0; obtain ⟨k, hk⟩ : ∃ k, 1 + k0 = k := ⟨_, rfl⟩; have hwk : IntKind.i64.wrap ((1 : Int) + (k0 : Int)) = (k : Int) := by rw [IntKind.wrap_i64]; omega)
    have hs2 := hO2.size
    have hO02 := hOS.trans hO2
    have hoS2 := hoS.only hO2 hb
    have hcl : s.length ≤ p1 := by rcases hoS2.fit with ⟨h, _, _⟩ | ⟨_, h, _⟩ <;> first | (cases h; done) | exact h
    have hAT : At w2.heap.size (some ⟨g, 0, none⟩) (s.take k) w2 := hoS2.at.take k
    have hAD : At w2.heap.size (some ⟨g, k * 2, none⟩) (s.drop k) w2 := by have := hoS2.at.drop k; rwa [Nat.zero_add] at this
    have k0i : (0 : Int) ≤ (k : Int) := by omega
    have k1i : (k : Int) ≤ (s.length : Int) := by omega
    have k2i : (k : Int) ≤ (p1 : Int) := by omega
    have k3i : (s.length : Int) ≤ (p1 : Int) := by omega
    have kne : p1 ≠ k := by omega
    have lT : (chainB slB (s.take k)).length ≤ 24 := by have := chainB_len (t := slB) (s.take k); rw [List.length_take] at this; omega
    have lD : (chainB slB (s.drop k)).length ≤ 24 := by have := chainB_len (t := slB) (s.drop k); rw [List.length_drop] at this; omega
    have lP : (s.take k).length ≤ 24 := by rw [List.length_take]; omega
    refine wp_region_held_drew (S := (fun u => Below w2.heap.size w2 u)) (by kernel_rfl) ?_ (fun hHeld => ?_)
    · exact (Below.refl _ _).drew
    refine wpAnyH_take (i := 0) (oi := { dst := some 23, op := Op.move (Operand.tmp 4), type := 24, pos := "l7_tree.go:173", after := #[], guard := none }) (v := ?v11yx0) rfl (by kernel_rfl) (by kernel_rfl) (by kernel_rfl) (fun _ _ _ h => h) (Or.inl ⟨by rfl, ?hy11yx0⟩) (by with_reducible assumption) ?rest11yx0
    case hy11yx0 => (intro wS hSw; (try dsimp only at hSw);  clear hSw; go_simp; try with_reducible rfl)
    case' rest11yx0 => (try simp only [Act.put, List.setIfInBounds_toArray, List.set_cons_zero, List.set_cons_succ])
    refine wpAnyH_take (i := 1) (oi := { dst := some 24, op := Op.move (Operand.tmp 5), type := 3, pos := "l7_tree.go:173", after := #[], guard := none }) (v := ?v12yx1) rfl (by kernel_rfl) (by kernel_rfl) (by kernel_rfl) (fun _ _ _ h => h) (Or.inl ⟨by rfl, ?hy12yx1⟩) (by with_reducible assumption) ?rest12yx1
    case hy12yx1 => (intro wS hSw; (try dsimp only at hSw);  clear hSw; go_simp; try with_reducible rfl)
    case' rest12yx1 => (try simp only [Act.put, List.setIfInBounds_toArray, List.set_cons_zero, List.set_cons_succ])
    refine wpAnyH_take (i := 2) (oi := { dst := some 25, op := Op.slice 24 (Operand.tmp 23) none (some (Operand.tmp 24)) none, type := 24, pos := "l7_tree.go:173", after := #[{ on := 0, ground := Ground.data }, { on := 1, ground := Ground.data }], guard := none }) (v := ?v13yx2) rfl (by kernel_rfl) (by kernel_rfl) (by kernel_rfl) (fun _ _ _ h => h) (Or.inl ⟨by rfl, ?hy13yx2⟩) (by with_reducible assumption) ?rest13yx2
    case hy13yx2 => (intro wS hSw; (try dsimp only at hSw);  clear hSw; go_simp; try with_reducible rfl)
    case' rest13yx2 => (try simp only [Act.put, List.setIfInBounds_toArray, List.set_cons_zero, List.set_cons_succ])
    refine wpAnyH_take (i := 4) (oi := { dst := some 27, op := Op.move (Operand.tmp 4), type := 24, pos := "l7_tree.go:173", after := #[], guard := none }) (v := ?v14yx4) rfl (by kernel_rfl) (by kernel_rfl) (by kernel_rfl) (fun _ _ _ h => h) (Or.inl ⟨by rfl, ?hy14yx4⟩) (by with_reducible assumption) ?rest14yx4
    case hy14yx4 => (intro wS hSw; (try dsimp only at hSw);  clear hSw; go_simp; try with_reducible rfl)
    case' rest14yx4 => (try simp only [Act.put, List.setIfInBounds_toArray, List.set_cons_zero, List.set_cons_succ])
    refine wpAnyH_take (i := 5) (oi := { dst := some 28, op := Op.move (Operand.tmp 5), type := 3, pos := "l7_tree.go:173", after := #[], guard := none }) (v := ?v15yx5) rfl (by kernel_rfl) (by kernel_rfl) (by kernel_rfl) (fun _ _ _ h => h) (Or.inl ⟨by rfl, ?hy15yx5⟩) (by with_reducible assumption) ?rest15yx5
    case hy15yx5 => (intro wS hSw; (try dsimp only at hSw);  clear hSw; go_simp; try with_reducible rfl)
    case' rest15yx5 => (try simp only [Act.put, List.setIfInBounds_toArray, List.set_cons_zero, List.set_cons_succ])
    refine wpAnyH_take (i := 6) (oi := { dst := some 29, op := Op.slice 24 (Operand.tmp 27) (some (Operand.tmp 28)) none none, type := 24, pos := "l7_tree.go:173", after := #[{ on := 4, ground := Ground.data }, { on := 5, ground := Ground.data }], guard := none }) (v := ?v16yx6) rfl (by kernel_rfl) (by kernel_rfl) (by kernel_rfl) (fun _ _ _ h => h) (Or.inl ⟨by rfl, ?hy16yx6⟩) (by with_reducible assumption) ?rest16yx6
    case hy16yx6 => (intro wS hSw; (try dsimp only at hSw);  clear hSw; go_simp; try with_reducible rfl)
    case' rest16yx6 => (try simp only [Act.put, List.setIfInBounds_toArray, List.set_cons_zero, List.set_cons_succ])
    refine wpAnyH_ready (rs := [3]) (by kernel_rfl) (by simp) ?_
    refine AllReadyH.cons (o := { dst := some 26, op := Op.call { callee := Callee.value (Operand.func 48), args := #[Operand.tmp 25], argTypes := #[24] }, type := 24, pos := "l7_tree.go:173", after := #[{ on := 2, ground := Ground.data }], guard := none }) rfl (fun K hK => ?_) AllReadyH.nil
    go_simp
    refine (l3Half_c (s.take k) _ _ _ _ (by first | (rw [List.length_take]; omega) | (rw [List.length_drop]; omega) | (rw [List.length_drop])) (by omega) ((((hAT)).later (by with_reducible assumption)).mono (by with_reducible assumption : Below w2.heap.size w2 _).size)).mono ?_
    rintro e wt ⟨vt, rfl, ot, ht⟩
    have Bt : Below w2.heap.size w2 wt := grew (by with_reducible assumption) ht
    replace ot := ot.mono (show w2.heap.size ≤ _ from (by with_reducible assumption : Below w2.heap.size w2 _).size)
    go_wp2_with fail
    refine hK.out _ _ ?_ (fun hHeld => ?_)
    · with_reducible exact Bt
    clear hK K
    try simp only [Act.put, List.setIfInBounds_toArray, List.set_cons_zero, List.set_cons_succ]
    refine wpAnyH_ready (rs := [7]) (by kernel_rfl) (by simp) ?_
    refine AllReadyH.cons (o := { dst := some 30, op := Op.call { callee := Callee.value (Operand.func 48), args := #[Operand.tmp 29], argTypes := #[24] }, type := 24, pos := "l7_tree.go:173", after := #[{ on := 6, ground := Ground.data }, { on := 3, ground := Ground.chain }], guard := none }) rfl (fun K hK => ?_) AllReadyH.nil
    go_simp
    refine (l3Half_c (s.drop k) _ _ _ _ (by first | (rw [List.length_take]; omega) | (rw [List.length_drop]; omega) | (rw [List.length_drop])) (by omega) ((((hAD)).later (by with_reducible assumption)).mono (by with_reducible assumption : Below w2.heap.size w2 _).size)).mono ?_
    rintro e wd ⟨vd, rfl, od, hd⟩
    have Bd : Below w2.heap.size w2 wd := grew (by with_reducible assumption) hd
    replace od := od.mono (show w2.heap.size ≤ _ from (by with_reducible assumption : Below w2.heap.size w2 _).size)
    go_wp2_with fail
    refine hK.out _ _ ?_ (fun hHeld => ?_)
    · with_reducible exact Bd
    clear hK K
    try simp only [Act.put, List.setIfInBounds_toArray, List.set_cons_zero, List.set_cons_succ]
    refine wpAnyH_take (i := 8) (oi := { dst := some 6, op := Op.assign (Operand.tmp 26), type := 24, pos := "l7_tree.go:173", after := #[{ on := 3, ground := Ground.data }, { on := 7, ground := Ground.chain }, { on := 0, ground := Ground.phase }, { on := 1, ground := Ground.phase }, { on := 2, ground := Ground.phase }, { on := 3, ground := Ground.phase }, { on := 4, ground := Ground.textOnly Departure.lateStores }, { on := 5, ground := Ground.textOnly Departure.lateStores }, { on := 6, ground := Ground.textOnly Departure.lateStoresUnsure }, { on := 7, ground := Ground.textOnly Departure.lateStoresUnsure }], guard := none }) (v := ?v17yx8) rfl (by kernel_rfl) (by kernel_rfl) (by kernel_rfl) (fun _ _ _ h => h) (Or.inl ⟨by rfl, ?hy17yx8⟩) (by with_reducible assumption) ?rest17yx8
    case hy17yx8 => (intro wS hSw; (try dsimp only at hSw);  clear hSw; go_simp; try with_reducible rfl)
    case' rest17yx8 => (try simp only [Act.put, List.setIfInBounds_toArray, List.set_cons_zero, List.set_cons_succ])
    refine wpAnyH_take (i := 9) (oi := { dst := some 7, op := Op.assign (Operand.tmp 30), type := 24, pos := "l7_tree.go:173", after := #[{ on := 7, ground := Ground.data }, { on := 8, ground := Ground.chain }, { on := 0, ground := Ground.phase }, { on := 1, ground := Ground.phase }, { on := 2, ground := Ground.phase }, { on := 3, ground := Ground.phase }, { on := 4, ground := Ground.phase }, { on := 5, ground := Ground.phase }, { on := 6, ground := Ground.phase }, { on := 7, ground := Ground.phase }, { on := 8, ground := Ground.phase }], guard := none }) (v := ?v18yx9) rfl (by kernel_rfl) (by kernel_rfl) (by kernel_rfl) (fun _ _ _ h => h) (Or.inl ⟨by rfl, ?hy18yx9⟩) (by with_reducible assumption) ?rest18yx9
    case hy18yx9 => (intro wS hSw; (try dsimp only at hSw);  clear hSw; go_simp; try with_reducible rfl)
    case' rest18yx9 => (try simp only [Act.put, List.setIfInBounds_toArray, List.set_cons_zero, List.set_cons_succ])
    refine wpAnyH_done (by kernel_rfl) ?_ _
    replace ot := ot.later hd
    have hRU := hR2.below (Bd.mono (show b + 1 ≤ w2.heap.size by omega))
    have hOU := hO02.trans (Only.ofBelow Bd)
    have hoU := hoS2.later Bd
    go_wp2_with (go_at_call 38; refine (pick_r 20 (by omega) (by omega) N b _ wd hRU (by omega)).mono ?_; rintro e w3 ⟨x, rfl, hx0, hx1, hR3, hO3⟩; have hO03 := hOU.trans hO3; have oT := (ot.only hO3 (by omega)).mono (show w.heap.size ≤ w2.heap.size by omega); have oD := (od.only hO3 (by omega)).mono (show w.heap.size ≤ w2.heap.size by omega); have oP := (hoU.only hO3 hb).take (k := k) (c := p1) (by omega) (by omega) (Nat.le_refl _))
    all_goals go_ret2
    all_goals first | exact ⟨_, _, rfl, _, _, oD, oT, lD, lT, hR3.mono (by omega), hO03⟩ | exact ⟨_, _, rfl, _, _, oP, oD, lP, lD, hR3.mono (by omega), hO03⟩ | exact ⟨_, _, rfl, [], _, OwnC.nil _ _, oD, Nat.zero_le _, lD, hR3.mono (by omega), hO03⟩ | exact ⟨_, _, rfl, _, _, oT, oD, lT, lD, hR3.mono (by omega), hO03⟩
theorem Bytes.mono {N N' : Nat} {a : Option Addr} {len : Nat} {w : World} (h : Bytes N a len w) (hN : N ≤ N') : Bytes N' a len w := fun i hi => by
  obtain ⟨blk, off, z, e, hb, hc, h0, h1⟩ := h i hi
  exact ⟨blk, off, z, e, Nat.lt_of_lt_of_le hb hN, hc, h0, h1⟩
/-- A new cursor is ready. -/
theorem rd_new (N b : Nat) (a : Option Addr) (len cap : Nat) (U : World) (hB : Bytes N a len U) (hl : len ≤ 1048576) (hN : N ≤ b) (hb : U.heap.size = b) :
    Rd N b 0 (U.alloc (.cells #[.slice a len cap, .int .i64 0, .int .u64 0] 54)) := by
  subst hb
  refine ⟨a, len, cap, 0, ⟨?_, ?_, ⟨0, ?_, by omega, by omega⟩, ?_, ?_⟩, hB.below ((Below.refl _ _).alloc (Nat.le_refl _) _), hN, hl, Nat.le_refl _⟩
  · simp [go_sem]
  · simp [go_sem]
  · simp [go_sem]
  · simp [go_sem]
  · simp [go_sem]
theorem drawBridge_c (a : Option Addr) (len cap : Nat) (w : World) (hB : Bytes w.heap.size a len w) (hl : len ≤ 1048576) :
    Calls Tryd.prog 13 #[.slice a len cap] w fun e w' => ∃ va vb, e = .returned (.tuple #[va, vb]) ∧ ∃ la lb, OwnC w.heap.size va la w' ∧ OwnC w.heap.size vb lb w' ∧ la.length ≤ 24 ∧ lb.length ≤ 24 ∧ Below w.heap.size w w' := by
  have hR0 : Rd w.heap.size w.heap.size 0 (w.alloc (.cells #[.slice a len cap, .int .i64 0, .int .u64 0] 54)) := rd_new _ _ _ _ _ _ hB hl (by omega) rfl
  clear hB
  have hW : Below w.heap.size w (w.alloc (.cells #[.slice a len cap, .int .i64 0, .int .u64 0] 54)) := by go_grown
  have hsz : (w.alloc (.cells #[.slice a len cap, .int .i64 0, .int .u64 0] 54)).heap.size = w.heap.size + 1 := by simp
  go_enter Tryd.func13, Tryd.ntmps13
  go_upto_region 2 with fail
  generalize w.alloc (.cells #[.slice a len cap, .int .i64 0, .int .u64 0] 54) = wB at hR0 hW hsz ⊢
  go_wp2_with (go_at_call 29; refine (chains_r w.heap.size w.heap.size 0 wB hR0 (by omega)).mono ?_; rintro e w1 ⟨va, vb, rfl, la, lb, oa, ob, hla, hlb, hR1, hO1⟩; have hs1 := hO1.size; obtain ⟨a1, p1, hv1⟩ := oa.shape; subst hv1; obtain ⟨a2, p2, hv2⟩ := ob.shape; subst hv2; replace oa := oa.mono (show w.heap.size + 1 ≤ wB.heap.size by omega); replace ob := ob.mono (show w.heap.size + 1 ≤ wB.heap.size by omega))
  go_ret2
  exact ⟨_, _, rfl, la, lb, oa.mono (Nat.le_succ _), ob.mono (Nat.le_succ _), hla, hlb, hW.trans (hO1.below (by omega) (Nat.le_refl _))⟩
set_option maxHeartbeats 4000000 in
theorem drawIs_c (a : Option Addr) (len cap : Nat) (w : World) (hB : Bytes w.heap.size a len w) (hl : len ≤ 1048576) :
    Calls Tryd.prog 20 #[.slice a len cap] w fun e w' => ∃ va vb x y, e = .returned (.tuple #[va, vb, .int .i64 x, .int .i64 y]) ∧ ∃ la lb, OwnC w.heap.size va la w' ∧ OwnC w.heap.size vb lb w' ∧ la.length ≤ 24 ∧ lb.length ≤ 24 ∧ Below w.heap.size w w' := by
  have hR0 : Rd w.heap.size w.heap.size 0 (w.alloc (.cells #[.slice a len cap, .int .i64 0, .int .u64 0] 54)) := rd_new _ _ _ _ _ _ hB hl (by omega) rfl
  clear hB
  have hW : Below w.heap.size w (w.alloc (.cells #[.slice a len cap, .int .i64 0, .int .u64 0] 54)) := by go_grown
  have hsz : (w.alloc (.cells #[.slice a len cap, .int .i64 0, .int .u64 0] 54)).heap.size = w.heap.size + 1 := by simp
  go_enter Tryd.func20, Tryd.ntmps20
  go_upto_region 2 with fail
  generalize w.alloc (.cells #[.slice a len cap, .int .i64 0, .int .u64 0] 54) = wB at hR0 hW hsz ⊢
  go_upto_region 3 with (go_at_call 29; refine (chains_r w.heap.size w.heap.size 0 wB hR0 (by omega)).mono ?_; rintro e w1 ⟨va, vb, rfl, la, lb, oa, ob, hla, hlb, hR1, hO1⟩; have hs1 := hO1.size; obtain ⟨a1, p1, hv1⟩ := oa.shape; subst hv1; obtain ⟨a2, p2, hv2⟩ := ob.shape; subst hv2; replace oa := oa.mono (show w.heap.size + 1 ≤ wB.heap.size by omega); replace ob := ob.mono (show w.heap.size + 1 ≤ wB.heap.size by omega))
  go_upto_region 4 with (go_at_call 15; refine (bridgeTopSpec_c la lb _ _ _ _ _ _ w1 rfl rfl (by omega) (by omega) oa.at ob.at).mono ?_; rintro e w2 ⟨rfl, hb2⟩)
  have hR2 := hR1.below (hb2.mono (show w.heap.size + 1 ≤ w1.heap.size by omega))
  have hO2 := hO1.trans (Only.ofBelow hb2 (b := w.heap.size))
  have hs2 := hO2.size
  replace oa := oa.later hb2
  replace ob := ob.later hb2
  clear hb2
  have hna : IntKind.i64.wrap ((la.length : Int) + 1) = (la.length : Int) + 1 := by rw [IntKind.wrap_i64]; omega
  have hnb : IntKind.i64.wrap ((lb.length : Int) + 1) = (lb.length : Int) + 1 := by rw [IntKind.wrap_i64]; omega
  cases hT : twI la lb
  · have t4 : True := trivial
    have t5 : True := trivial
    go_wp2_with (first
      | (go_at_call 38; clear t4; refine (pick_h ((la.length : Int) + 1) (by omega) (by omega) w.heap.size w.heap.size _ w2 hR2 (by omega)).mono ?_; rintro e w4 ⟨x4, rfl, hx4, hy4, hR4, hP4⟩; have hO4 := hO2.trans hP4)
      | (go_at_call 38; clear t5; refine (pick_h 20 (by omega) (by omega) w.heap.size w.heap.size _ w4 hR4 (by omega)).mono ?_; rintro e w5 ⟨x5, rfl, hx5, hy5, hR5, hP5⟩; have hO5 := hO4.trans hP5)
      | (go_at_call 38; refine (pick_h ((lb.length : Int) + 1) (by omega) (by omega) w.heap.size w.heap.size _ w5 hR5 (by omega)).mono ?_; rintro e w6 ⟨x6, rfl, hx6, hy6, hR6, hP6⟩; have hO6 := hO5.trans hP6))
    (try simp only [Exit.inBlock, Exit.then])
    exact bodyPost_ret (by simp [results, Tryd.results20, go_sem]; first | done | exact ⟨rfl, rfl⟩ | rfl) rfl ⟨.slice a1 la.length p1, .slice a2 lb.length p2, _, _, rfl, la, lb, (oa.only ((hP4.trans hP5).trans hP6) (Nat.lt_succ_self _)).mono (Nat.le_succ _), (ob.only ((hP4.trans hP5).trans hP6) (Nat.lt_succ_self _)).mono (Nat.le_succ _), hla, hlb, hW.trans (hO6.below (by omega) (Nat.le_refl _))⟩
  · have t4 : True := trivial
    have t5 : True := trivial
    have t3 : True := trivial
    go_wp2_with (first
      | (go_at_call 37; clear t3; refine (one_r 2 (by omega) (by omega) w.heap.size w.heap.size _ w2 hR2 (by omega)).mono ?_; rintro e w3 ⟨x3, rfl, hR3, hO3⟩; have hO23 := hO2.trans hO3; have oa3 := oa.only hO3 (Nat.lt_succ_self _); have ob3 := ob.only hO3 (Nat.lt_succ_self _); have hs3 := hO23.size)
      | (go_at_call 38; clear t4; refine (pick_h ((la.length : Int) + 1) (by omega) (by omega) w.heap.size w.heap.size _ w3 hR3 (by omega)).mono ?_; rintro e w4 ⟨x4, rfl, hx4, hy4, hR4, hP4⟩; have hO4 := hO23.trans hP4)
      | (go_at_call 38; clear t5; refine (pick_h 20 (by omega) (by omega) w.heap.size w.heap.size _ w4 hR4 (by omega)).mono ?_; rintro e w5 ⟨x5, rfl, hx5, hy5, hR5, hP5⟩; have hO5 := hO4.trans hP5)
      | (go_at_call 38; refine (pick_h ((lb.length : Int) + 1) (by omega) (by omega) w.heap.size w.heap.size _ w5 hR5 (by omega)).mono ?_; rintro e w6 ⟨x6, rfl, hx6, hy6, hR6, hP6⟩; have hO6 := hO5.trans hP6))
    all_goals (try simp only [Exit.inBlock, Exit.then])
    all_goals first
      | exact bodyPost_ret (by simp [results, Tryd.results20, go_sem]; first | done | exact ⟨rfl, rfl⟩ | rfl) rfl ⟨.slice a1 la.length p1, .slice a2 lb.length p2, _, _, rfl, la, lb, (oa3.only ((hP4.trans hP5).trans hP6) (Nat.lt_succ_self _)).mono (Nat.le_succ _), (ob3.only ((hP4.trans hP5).trans hP6) (Nat.lt_succ_self _)).mono (Nat.le_succ _), hla, hlb, hW.trans (hO6.below (by omega) (Nat.le_refl _))⟩
      | exact bodyPost_ret (by simp [results, Tryd.results20, go_sem]; first | done | exact ⟨rfl, rfl⟩ | rfl) rfl ⟨.slice a1 la.length p1, .slice a2 lb.length p2, _, _, rfl, la, lb, oa3.mono (Nat.le_succ _), ob3.mono (Nat.le_succ _), hla, hlb, hW.trans (hO23.below (by omega) (Nat.le_refl _))⟩
end Go.Proofs.YtibmgoaildhclaaDoor
