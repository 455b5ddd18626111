/-
  More draws of the set laws' arguments (contracts for the walks).
  Conditions: as each theorem states them.
-/
import Derived.Test.YtfhlgdngmdlakaaDoorDrawS
namespace Go.Proofs.YtfhlgdngmdlakaaDoor
open Go.RowKit
set_option linter.unusedVariables false
theorem At.onlyG {N g q : Nat} {l : List (Int × Int)} {u u' : World} (h : At N (some ⟨g, 0, none⟩) l u) (hO : Only q u u') (hq : g ≠ q) : At N (some ⟨g, 0, none⟩) l u' := fun i hi => by
  obtain ⟨b, off, e, hb, h0, h1⟩ := h i hi
  have hbg : b = g := by simp at e; exact e.1.symm
  exact ⟨b, off, e, hb, (hO.cell (World.block_lt_of_cell? _ _ h0) (by show b ≠ q; omega)).trans h0, (hO.cell (World.block_lt_of_cell? _ _ h1) (by show b ≠ q; omega)).trans h1⟩
set_option maxHeartbeats 1000000 in
theorem pick_g (n : Int) (hn : 1 ≤ n) (hn' : n ≤ 200) (N b m : Nat) (w : World) (h : Rd N b m w) (hm : m ≤ 1000000) :
    Calls Tryd.prog 31 #[.pointer (some ⟨b, 0, none⟩), .int .i64 n] w fun e w' => ∃ v : Int, e = .returned (.int .i64 v) ∧ 0 ≤ v ∧ v < n ∧ Rd N b (m + 1) w' ∧ Only b w w' := by
  by_cases h2 : 2 ≤ n
  · exact pick_r n h2 hn' N b m w h hm
  · obtain rfl : n = 1 := by omega
    have H := hid h
    clear h
    go_enter Tryd.func31, Tryd.ntmps31
    go_wp2
    go_ret
    exact ⟨0, rfl, by omega, by omega, H.out.mono (by omega), Only.refl _ _⟩
set_option maxHeartbeats 2000000 in
theorem drawPut_c (a : Option Addr) (len cap : Nat) (w : World) (hB : Bytes w.heap.size a len w) (hl : len ≤ 1048576) :
    Calls Tryd.prog 6 #[.slice a len cap] w fun e w' => ∃ v x y, e = .returned (.tuple #[v, .agg #[.int .i64 x, .int .i64 y]]) ∧ ∃ l, Own w.heap.size v l w' ∧ l.length ≤ 13 ∧ Below w.heap.size w w' := by
  have hR0 : Rd w.heap.size (w.heap.size + 1) 0 ((w.alloc (.cells #[.int .i64 0, .int .i64 0] 26)).alloc (.cells #[.slice a len cap, .int .i64 0, .int .u64 0] 44)) := rd_new _ _ _ _ _ _ (hB.below (by go_grown)) hl (by omega) (by go_simp)
  clear hB
  have hW : Below w.heap.size w ((w.alloc (.cells #[.int .i64 0, .int .i64 0] 26)).alloc (.cells #[.slice a len cap, .int .i64 0, .int .u64 0] 44)) := by go_grown
  have z0 : ((w.alloc (.cells #[.int .i64 0, .int .i64 0] 26)).alloc (.cells #[.slice a len cap, .int .i64 0, .int .u64 0] 44)).cell? ⟨w.heap.size, 0, none⟩ = some (.int .i64 0) := by go_simp
  have z1 : ((w.alloc (.cells #[.int .i64 0, .int .i64 0] 26)).alloc (.cells #[.slice a len cap, .int .i64 0, .int .u64 0] 44)).cell? ⟨w.heap.size, 1, none⟩ = some (.int .i64 0) := by go_simp
  have y0 : ((w.alloc (.cells #[.int .i64 0, .int .i64 0] 26)).alloc (.cells #[.slice a len cap, .int .i64 0, .int .u64 0] 44)).frozen? ⟨w.heap.size, 0, none⟩ = false := by go_simp
  have y1 : ((w.alloc (.cells #[.int .i64 0, .int .i64 0] 26)).alloc (.cells #[.slice a len cap, .int .i64 0, .int .u64 0] 44)).frozen? ⟨w.heap.size, 1, none⟩ = false := by go_simp
  go_enter Tryd.func6, Tryd.ntmps6
  go_upto_region 2 with fail
  generalize (w.alloc (.cells #[.int .i64 0, .int .i64 0] 26)).alloc (.cells #[.slice a len cap, .int .i64 0, .int .u64 0] 44) = wB at hR0 hW z0 z1 y0 y1 ⊢
  generalize hbe : w.heap.size + 1 = b at hR0 ⊢
  have hlt0 : w.heap.size < wB.heap.size := World.block_lt_of_cell? wB _ z0
  have hnb : w.heap.size ≠ b := by omega
  have hbB := hR0.lt
  go_upto_region 3 with (go_at_call 29; refine (anySet_r w.heap.size b 0 wB hR0 (by omega)).mono ?_; rintro e w1 ⟨v1, rfl, l, ho1, hl1, hR1, hO1⟩; obtain ⟨a1, p1, hv1⟩ := ho1.shape; subst hv1)
  have hs1 := hO1.size
  by_cases hl0 : 0 < l.length
  · obtain ⟨g, rfl, hg1, hg2, _⟩ := ho1.block hl0
    go_wp2_with (first
      | (go_at_call 30; refine (one_r 3 (by omega) (by omega) w.heap.size b _ w1 hR1 (by omega)).mono ?_; rintro e w2 ⟨v2, rfl, hR2, hO2⟩; have hO12 := hO1.trans hO2; have hs2 := hO2.size)
      | (go_at_call 32; refine (anyPoint_r w.heap.size b _ w2 hR2 (by omega)).mono ?_; rintro e w3 ⟨x, y, rfl, _, _, _, _, hR3, hO3⟩; have hO13 := hO12.trans hO3; have k0 := (hO13.cell (p := ⟨w.heap.size, 0, none⟩) hlt0 hnb).trans z0; have k1 := (hO13.cell (p := ⟨w.heap.size, 1, none⟩) hlt0 hnb).trans z1; have f0 := (hO13.frozen (p := ⟨w.heap.size, 0, none⟩) hlt0 hnb).trans y0; have f1 := (hO13.frozen (p := ⟨w.heap.size, 1, none⟩) hlt0 hnb).trans y1; have hs3 := hO13.size))
    · have HA2 : Hid (At w2.heap.size (some ⟨g, 0, none⟩) l w2) := hid (ho1.only hO2 (by omega)).at
      have hlt2 : w.heap.size < w2.heap.size := by omega
      have z20 := (hO12.cell (p := ⟨w.heap.size, 0, none⟩) hlt0 hnb).trans z0
      have z21 := (hO12.cell (p := ⟨w.heap.size, 1, none⟩) hlt0 hnb).trans z1
      have y20 := (hO12.frozen (p := ⟨w.heap.size, 0, none⟩) hlt0 hnb).trans y0
      have y21 := (hO12.frozen (p := ⟨w.heap.size, 1, none⟩) hlt0 hnb).trans y1
      refine wp_region_noPanic ?_
      refine wp_region_held_drew (S := (fun u => At w2.heap.size (some ⟨g, 0, none⟩) l u)) (by kernel_rfl) ?_ (fun hHeld => ?_)
      · exact HA2.out.later (Below.refl _ _).drew
      refine wpAnyH_take (i := 0) (oi := { dst := some 18, op := Op.move (Operand.tmp 5), type := 24, pos := "l2_set.go:189", after := #[], guard := none }) (v := ?vrdrawPut_cx0) rfl (by kernel_rfl) (by kernel_rfl) (by kernel_rfl) (fun _ _ _ h => h) (Or.inl ⟨by rfl, ?hyrdrawPut_cx0⟩) (by with_reducible assumption) ?restrdrawPut_cx0
      case hyrdrawPut_cx0 => (intro w hSw; (try dsimp only at hSw); go_simp; try with_reducible rfl)
      case' restrdrawPut_cx0 => (try simp only [Act.put, List.setIfInBounds_toArray, List.set_cons_zero, List.set_cons_succ])
      refine wpAnyH_take (i := 1) (oi := { dst := some 19, op := Op.move (Operand.tmp 5), type := 24, pos := "l2_set.go:189", after := #[{ on := 8, ground := Ground.gcOnly Departure.lateStores }], guard := none }) (v := ?vrdrawPut_cx1) rfl (by kernel_rfl) (by kernel_rfl) (by kernel_rfl) (fun _ _ _ h => h) (Or.inl ⟨by rfl, ?hyrdrawPut_cx1⟩) (by with_reducible assumption) ?restrdrawPut_cx1
      case hyrdrawPut_cx1 => (intro w hSw; (try dsimp only at hSw); go_simp; try with_reducible rfl)
      case' restrdrawPut_cx1 => (try simp only [Act.put, List.setIfInBounds_toArray, List.set_cons_zero, List.set_cons_succ])
      refine wpAnyH_take (i := 2) (oi := { dst := some 20, op := Op.move (Operand.tmp 4), type := 41, pos := "l2_set.go:189", after := #[], guard := none }) (v := ?vrdrawPut_cx2) rfl (by kernel_rfl) (by kernel_rfl) (by kernel_rfl) (fun _ _ _ h => h) (Or.inl ⟨by rfl, ?hyrdrawPut_cx2⟩) (by with_reducible assumption) ?restrdrawPut_cx2
      case hyrdrawPut_cx2 => (intro w hSw; (try dsimp only at hSw); go_simp; try with_reducible rfl)
      case' restrdrawPut_cx2 => (try simp only [Act.put, List.setIfInBounds_toArray, List.set_cons_zero, List.set_cons_succ])
      refine wpAnyH_take (i := 3) (oi := { dst := some 21, op := Op.move (Operand.tmp 5), type := 24, pos := "l2_set.go:189", after := #[], guard := none }) (v := ?vrdrawPut_cx3) rfl (by kernel_rfl) (by kernel_rfl) (by kernel_rfl) (fun _ _ _ h => h) (Or.inl ⟨by rfl, ?hyrdrawPut_cx3⟩) (by with_reducible assumption) ?restrdrawPut_cx3
      case hyrdrawPut_cx3 => (intro w hSw; (try dsimp only at hSw); go_simp; try with_reducible rfl)
      case' restrdrawPut_cx3 => (try simp only [Act.put, List.setIfInBounds_toArray, List.set_cons_zero, List.set_cons_succ])
      refine wpAnyH_take (i := 4) (oi := { dst := some 22, op := Op.call { callee := Callee.builtin Builtin.len, args := #[Operand.tmp 21], argTypes := #[24] }, type := 3, pos := "l2_set.go:189", after := #[{ on := 3, ground := Ground.data }], guard := none }) (v := ?vrdrawPut_cx4) rfl (by kernel_rfl) (by kernel_rfl) (by kernel_rfl) (fun _ _ _ h => h) (Or.inl ⟨by rfl, ?hyrdrawPut_cx4⟩) (by with_reducible assumption) ?restrdrawPut_cx4
      case hyrdrawPut_cx4 => (intro w hSw; (try dsimp only at hSw); go_simp; try with_reducible rfl)
      case' restrdrawPut_cx4 => (try simp only [Act.put, List.setIfInBounds_toArray, List.set_cons_zero, List.set_cons_succ])
      refine wpAnyH_ready (rs := [5]) (by kernel_rfl) (by simp) ?_
      refine AllReadyH.cons (o := { dst := some 23, op := Op.call { callee := Callee.value (Operand.func 31), args := #[Operand.tmp 20, Operand.tmp 22], argTypes := #[41, 3] }, type := 3, pos := "l2_set.go:189", after := #[{ on := 2, ground := Ground.data }, { on := 4, ground := Ground.data }], guard := none }) rfl (fun K hK => ?_) AllReadyH.nil
      go_simp
      refine (pick_g _ ?_ ?_ w.heap.size b _ _ (hR2.below (Below.refl _ _).drew) ?_).mono ?_
      · omega
      · omega
      · omega
      rintro e w3 ⟨xi, rfl, hx0, hx1, hR3, hO3⟩
      obtain ⟨i, rfl⟩ := Int.eq_ofNat_of_zero_le hx0
      go_wp2_with fail
      refine hK.out _ _ ?_ (fun hHeld => ?_)
      · exact At.onlyG (HA2.out.later (Below.refl _ _).drew) hO3 (by omega)
      clear hK K
      try simp only [Act.put, List.setIfInBounds_toArray, List.set_cons_zero, List.set_cons_succ]
      have hil : i < l.length := by omega
      have hi1 : (0 : Int) ≤ (i : Int) := by omega
      have hi2 : (i : Int) < (l.length : Int) := by omega
      have hO23 : Only b w2 w3 := (Only.refl b w2).drew.trans hO3
      have k0 := (hO23.cell (p := ⟨w.heap.size, 0, none⟩) hlt2 hnb).trans z20
      have k1 := (hO23.cell (p := ⟨w.heap.size, 1, none⟩) hlt2 hnb).trans z21
      have f0 := (hO23.frozen (p := ⟨w.heap.size, 0, none⟩) hlt2 hnb).trans y20
      have f1 := (hO23.frozen (p := ⟨w.heap.size, 1, none⟩) hlt2 hnb).trans y21
      refine wpAnyH_take (i := 6) (oi := { dst := some 24, op := Op.indexAddr 24 (Operand.tmp 19) (Operand.tmp 23), type := 0, pos := "l2_set.go:189", after := #[{ on := 1, ground := Ground.data }, { on := 5, ground := Ground.data }, { on := 8, ground := Ground.gcOnly Departure.lateStores }], guard := none }) (v := ?vrdrawPut_cx6) rfl (by kernel_rfl) (by kernel_rfl) (by kernel_rfl) (fun _ _ _ h => h) (Or.inl ⟨by rfl, ?hyrdrawPut_cx6⟩) (by with_reducible assumption) ?restrdrawPut_cx6
      case hyrdrawPut_cx6 => (intro w hSw; (try dsimp only at hSw); go_simp; try with_reducible rfl)
      case' restrdrawPut_cx6 => (try simp only [Act.put, List.setIfInBounds_toArray, List.set_cons_zero, List.set_cons_succ])
      refine wpAnyH_take (i := 7) (oi := { dst := some 25, op := Op.load 26 (Operand.tmp 24), type := 26, pos := "l2_set.go:189", after := #[{ on := 6, ground := Ground.data }, { on := 8, ground := Ground.gcOnly Departure.lateStores }], guard := none }) (v := ?vrdrawPut_cx7) rfl (by kernel_rfl) (by kernel_rfl) (by kernel_rfl) (fun _ _ _ h => h) (Or.inl ⟨by rfl, ?hyrdrawPut_cx7⟩) (by with_reducible assumption) ?restrdrawPut_cx7
      case hyrdrawPut_cx7 => (intro u hSu; (try dsimp only at hSu); obtain ⟨bb, oo, e1, _, q0, q1⟩ := hSu i hil; obtain ⟨rfl, rfl⟩ : g = bb ∧ 0 = oo := (by simp at e1; exact e1); simp only [Nat.zero_add] at q0 q1; go_simp; try with_reducible rfl)
      case' restrdrawPut_cx7 => (try simp only [Act.put, List.setIfInBounds_toArray, List.set_cons_zero, List.set_cons_succ])
      refine wpAnyH_take (i := 8) (oi := { dst := some 2, op := Op.assign (Operand.tmp 18), type := 24, pos := "l2_set.go:189", after := #[{ on := 0, ground := Ground.data }, { on := 5, ground := Ground.chain }, { on := 0, ground := Ground.phase }, { on := 1, ground := Ground.textOnly Departure.lateStores }, { on := 2, ground := Ground.textOnly Departure.lateStores }, { on := 3, ground := Ground.textOnly Departure.lateStores }, { on := 4, ground := Ground.textOnly Departure.lateStoresUnsure }, { on := 5, ground := Ground.textOnly Departure.lateStoresUnsure }, { on := 6, ground := Ground.textOnly Departure.lateStores }, { on := 7, ground := Ground.textOnly Departure.lateStores }], guard := none }) (v := ?vrdrawPut_cx8) rfl (by kernel_rfl) (by kernel_rfl) (by kernel_rfl) (fun _ _ _ h => h) (Or.inl ⟨by rfl, ?hyrdrawPut_cx8⟩) (by with_reducible assumption) ?restrdrawPut_cx8
      case hyrdrawPut_cx8 => (intro w hSw; (try dsimp only at hSw); go_simp; try with_reducible rfl)
      case' restrdrawPut_cx8 => (try simp only [Act.put, List.setIfInBounds_toArray, List.set_cons_zero, List.set_cons_succ])
      refine wpAnyH_ready (rs := [9]) (by kernel_rfl) (by simp) ?_
      refine AllReadyH.cons (o := { dst := none, op := Op.store 26 (Operand.tmp 3) (Operand.tmp 25), type := 0, pos := "l2_set.go:189", after := #[{ on := 7, ground := Ground.data }, { on := 8, ground := Ground.chain }, { on := 0, ground := Ground.phase }, { on := 1, ground := Ground.phase }, { on := 2, ground := Ground.phase }, { on := 3, ground := Ground.phase }, { on := 4, ground := Ground.phase }, { on := 5, ground := Ground.phase }, { on := 6, ground := Ground.phase }, { on := 7, ground := Ground.phase }, { on := 8, ground := Ground.phase }], guard := none }) rfl (fun K hK => ?_) AllReadyH.nil
      go_simp
      refine hK.out _ _ ?_ (fun hHeld => ?_)
      · exact At.onlyG (At.onlyG (HA2.out.later (Below.refl _ _).drew) hO3 (by omega)) (((Only.refl w.heap.size _).setCell (.inl rfl) _).setCell (.inl rfl) _) (by omega)
      clear hK K
      try simp only [Act.put, List.setIfInBounds_toArray, List.set_cons_zero, List.set_cons_succ]
      refine wpAnyH_done (by kernel_rfl) ?_ _
      refine NoPanic.normal ?_
      go_wp2
      refine bodyPost_ret (v := .tuple #[.slice (some ⟨g, 0, none⟩) l.length p1, .agg #[.int .i64 (px l i), .int .i64 (py l i)]]) (by simp [results, Tryd.results6, go_sem, k0, k1]) rfl ⟨_, _, _, rfl, l, ?_, hl1, ?_⟩
      · exact ((((ho1.only hO2 (by omega)).only hO23 (by omega)).mono (show w.heap.size + 1 ≤ wB.heap.size by omega)).only (((Only.refl w.heap.size _).setCell (.inl rfl) _).setCell (.inl rfl) _) (Nat.lt_succ_self _)).mono (Nat.le_succ _)
      · exact hW.trans ((((hO12.trans hO23).below (by omega) (by omega) : Below w.heap.size wB w3).setCell (Nat.le_refl _) _).setCell (Nat.le_refl _) _)
    · skip
      refine bodyPost_ret (v := .tuple #[.slice (some ⟨g, 0, none⟩) l.length p1, .agg #[.int .i64 (x), .int .i64 (y)]]) (by simp [results, Tryd.results6, go_sem, k0, k1]) rfl ⟨_, _, _, rfl, l, ?_, hl1, ?_⟩
      · exact ((((ho1.only hO2 (by omega)).only hO3 (by omega)).mono (show w.heap.size + 1 ≤ wB.heap.size by omega)).only (((Only.refl w.heap.size _).setCell (.inl rfl) _).setCell (.inl rfl) _) (Nat.lt_succ_self _)).mono (Nat.le_succ _)
      · exact hW.trans ((((hO13).below (by omega) (by omega) : Below w.heap.size wB w3).setCell (Nat.le_refl _) _).setCell (Nat.le_refl _) _)
  · go_wp2_with (go_at_call 32; refine (anyPoint_r w.heap.size b _ w1 hR1 (by omega)).mono ?_; rintro e w3 ⟨x, y, rfl, _, _, _, _, hR3, hO3⟩; have hO13 := hO1.trans hO3; have k0 := (hO13.cell (p := ⟨w.heap.size, 0, none⟩) hlt0 hnb).trans z0; have k1 := (hO13.cell (p := ⟨w.heap.size, 1, none⟩) hlt0 hnb).trans z1; have f0 := (hO13.frozen (p := ⟨w.heap.size, 0, none⟩) hlt0 hnb).trans y0; have f1 := (hO13.frozen (p := ⟨w.heap.size, 1, none⟩) hlt0 hnb).trans y1; have hs3 := hO13.size)
    refine bodyPost_ret (v := .tuple #[.slice a1 l.length p1, .agg #[.int .i64 (x), .int .i64 (y)]]) (by simp [results, Tryd.results6, go_sem, k0, k1]) rfl ⟨_, _, _, rfl, l, ?_, hl1, ?_⟩
    · exact (((ho1.only hO3 (by omega)).mono (show w.heap.size + 1 ≤ wB.heap.size by omega)).only (((Only.refl w.heap.size _).setCell (.inl rfl) _).setCell (.inl rfl) _) (Nat.lt_succ_self _)).mono (Nat.le_succ _)
    · exact hW.trans ((((hO13).below (by omega) (by omega) : Below w.heap.size wB w3).setCell (Nat.le_refl _) _).setCell (Nat.le_refl _) _)
set_option maxHeartbeats 2000000 in
theorem drawDrop_c (a : Option Addr) (len cap : Nat) (w : World) (hB : Bytes w.heap.size a len w) (hl : len ≤ 1048576) :
    Calls Tryd.prog 14 #[.slice a len cap] w fun e w' => ∃ v x y, e = .returned (.tuple #[v, .agg #[.int .i64 x, .int .i64 y]]) ∧ ∃ l, Own w.heap.size v l w' ∧ l.length ≤ 13 ∧ Below w.heap.size w w' := by
  have hR0 : Rd w.heap.size (w.heap.size + 1) 0 ((w.alloc (.cells #[.int .i64 0, .int .i64 0] 26)).alloc (.cells #[.slice a len cap, .int .i64 0, .int .u64 0] 44)) := rd_new _ _ _ _ _ _ (hB.below (by go_grown)) hl (by omega) (by go_simp)
  clear hB
  have hW : Below w.heap.size w ((w.alloc (.cells #[.int .i64 0, .int .i64 0] 26)).alloc (.cells #[.slice a len cap, .int .i64 0, .int .u64 0] 44)) := by go_grown
  have z0 : ((w.alloc (.cells #[.int .i64 0, .int .i64 0] 26)).alloc (.cells #[.slice a len cap, .int .i64 0, .int .u64 0] 44)).cell? ⟨w.heap.size, 0, none⟩ = some (.int .i64 0) := by go_simp
  have z1 : ((w.alloc (.cells #[.int .i64 0, .int .i64 0] 26)).alloc (.cells #[.slice a len cap, .int .i64 0, .int .u64 0] 44)).cell? ⟨w.heap.size, 1, none⟩ = some (.int .i64 0) := by go_simp
  have y0 : ((w.alloc (.cells #[.int .i64 0, .int .i64 0] 26)).alloc (.cells #[.slice a len cap, .int .i64 0, .int .u64 0] 44)).frozen? ⟨w.heap.size, 0, none⟩ = false := by go_simp
  have y1 : ((w.alloc (.cells #[.int .i64 0, .int .i64 0] 26)).alloc (.cells #[.slice a len cap, .int .i64 0, .int .u64 0] 44)).frozen? ⟨w.heap.size, 1, none⟩ = false := by go_simp
  go_enter Tryd.func14, Tryd.ntmps14
  go_upto_region 2 with fail
  generalize (w.alloc (.cells #[.int .i64 0, .int .i64 0] 26)).alloc (.cells #[.slice a len cap, .int .i64 0, .int .u64 0] 44) = wB at hR0 hW z0 z1 y0 y1 ⊢
  generalize hbe : w.heap.size + 1 = b at hR0 ⊢
  have hlt0 : w.heap.size < wB.heap.size := World.block_lt_of_cell? wB _ z0
  have hnb : w.heap.size ≠ b := by omega
  have hbB := hR0.lt
  go_upto_region 3 with (go_at_call 29; refine (anySet_r w.heap.size b 0 wB hR0 (by omega)).mono ?_; rintro e w1 ⟨v1, rfl, l, ho1, hl1, hR1, hO1⟩; obtain ⟨a1, p1, hv1⟩ := ho1.shape; subst hv1)
  have hs1 := hO1.size
  by_cases hl0 : 0 < l.length
  · obtain ⟨g, rfl, hg1, hg2, _⟩ := ho1.block hl0
    go_wp2_with (first
      | (go_at_call 30; refine (one_r 4 (by omega) (by omega) w.heap.size b _ w1 hR1 (by omega)).mono ?_; rintro e w2 ⟨v2, rfl, hR2, hO2⟩; have hO12 := hO1.trans hO2; have hs2 := hO2.size)
      | (go_at_call 32; refine (anyPoint_r w.heap.size b _ w2 hR2 (by omega)).mono ?_; rintro e w3 ⟨x, y, rfl, _, _, _, _, hR3, hO3⟩; have hO13 := hO12.trans hO3; have k0 := (hO13.cell (p := ⟨w.heap.size, 0, none⟩) hlt0 hnb).trans z0; have k1 := (hO13.cell (p := ⟨w.heap.size, 1, none⟩) hlt0 hnb).trans z1; have f0 := (hO13.frozen (p := ⟨w.heap.size, 0, none⟩) hlt0 hnb).trans y0; have f1 := (hO13.frozen (p := ⟨w.heap.size, 1, none⟩) hlt0 hnb).trans y1; have hs3 := hO13.size))
    · have HA2 : Hid (At w2.heap.size (some ⟨g, 0, none⟩) l w2) := hid (ho1.only hO2 (by omega)).at
      have hlt2 : w.heap.size < w2.heap.size := by omega
      have z20 := (hO12.cell (p := ⟨w.heap.size, 0, none⟩) hlt0 hnb).trans z0
      have z21 := (hO12.cell (p := ⟨w.heap.size, 1, none⟩) hlt0 hnb).trans z1
      have y20 := (hO12.frozen (p := ⟨w.heap.size, 0, none⟩) hlt0 hnb).trans y0
      have y21 := (hO12.frozen (p := ⟨w.heap.size, 1, none⟩) hlt0 hnb).trans y1
      refine wp_region_noPanic ?_
      refine wp_region_held_drew (S := (fun u => At w2.heap.size (some ⟨g, 0, none⟩) l u)) (by kernel_rfl) ?_ (fun hHeld => ?_)
      · exact HA2.out.later (Below.refl _ _).drew
      refine wpAnyH_take (i := 0) (oi := { dst := some 19, op := Op.move (Operand.tmp 5), type := 24, pos := "l2_set.go:198", after := #[], guard := none }) (v := ?vrdrawDrop_cx0) rfl (by kernel_rfl) (by kernel_rfl) (by kernel_rfl) (fun _ _ _ h => h) (Or.inl ⟨by rfl, ?hyrdrawDrop_cx0⟩) (by with_reducible assumption) ?restrdrawDrop_cx0
      case hyrdrawDrop_cx0 => (intro w hSw; (try dsimp only at hSw); go_simp; try with_reducible rfl)
      case' restrdrawDrop_cx0 => (try simp only [Act.put, List.setIfInBounds_toArray, List.set_cons_zero, List.set_cons_succ])
      refine wpAnyH_take (i := 1) (oi := { dst := some 20, op := Op.move (Operand.tmp 5), type := 24, pos := "l2_set.go:198", after := #[{ on := 8, ground := Ground.gcOnly Departure.lateStores }], guard := none }) (v := ?vrdrawDrop_cx1) rfl (by kernel_rfl) (by kernel_rfl) (by kernel_rfl) (fun _ _ _ h => h) (Or.inl ⟨by rfl, ?hyrdrawDrop_cx1⟩) (by with_reducible assumption) ?restrdrawDrop_cx1
      case hyrdrawDrop_cx1 => (intro w hSw; (try dsimp only at hSw); go_simp; try with_reducible rfl)
      case' restrdrawDrop_cx1 => (try simp only [Act.put, List.setIfInBounds_toArray, List.set_cons_zero, List.set_cons_succ])
      refine wpAnyH_take (i := 2) (oi := { dst := some 21, op := Op.move (Operand.tmp 4), type := 41, pos := "l2_set.go:198", after := #[], guard := none }) (v := ?vrdrawDrop_cx2) rfl (by kernel_rfl) (by kernel_rfl) (by kernel_rfl) (fun _ _ _ h => h) (Or.inl ⟨by rfl, ?hyrdrawDrop_cx2⟩) (by with_reducible assumption) ?restrdrawDrop_cx2
      case hyrdrawDrop_cx2 => (intro w hSw; (try dsimp only at hSw); go_simp; try with_reducible rfl)
      case' restrdrawDrop_cx2 => (try simp only [Act.put, List.setIfInBounds_toArray, List.set_cons_zero, List.set_cons_succ])
      refine wpAnyH_take (i := 3) (oi := { dst := some 22, op := Op.move (Operand.tmp 5), type := 24, pos := "l2_set.go:198", after := #[], guard := none }) (v := ?vrdrawDrop_cx3) rfl (by kernel_rfl) (by kernel_rfl) (by kernel_rfl) (fun _ _ _ h => h) (Or.inl ⟨by rfl, ?hyrdrawDrop_cx3⟩) (by with_reducible assumption) ?restrdrawDrop_cx3
      case hyrdrawDrop_cx3 => (intro w hSw; (try dsimp only at hSw); go_simp; try with_reducible rfl)
      case' restrdrawDrop_cx3 => (try simp only [Act.put, List.setIfInBounds_toArray, List.set_cons_zero, List.set_cons_succ])
      refine wpAnyH_take (i := 4) (oi := { dst := some 23, op := Op.call { callee := Callee.builtin Builtin.len, args := #[Operand.tmp 22], argTypes := #[24] }, type := 3, pos := "l2_set.go:198", after := #[{ on := 3, ground := Ground.data }], guard := none }) (v := ?vrdrawDrop_cx4) rfl (by kernel_rfl) (by kernel_rfl) (by kernel_rfl) (fun _ _ _ h => h) (Or.inl ⟨by rfl, ?hyrdrawDrop_cx4⟩) (by with_reducible assumption) ?restrdrawDrop_cx4
      case hyrdrawDrop_cx4 => (intro w hSw; (try dsimp only at hSw); go_simp; try with_reducible rfl)
      case' restrdrawDrop_cx4 => (try simp only [Act.put, List.setIfInBounds_toArray, List.set_cons_zero, List.set_cons_succ])
      refine wpAnyH_ready (rs := [5]) (by kernel_rfl) (by simp) ?_
      refine AllReadyH.cons (o := { dst := some 24, op := Op.call { callee := Callee.value (Operand.func 31), args := #[Operand.tmp 21, Operand.tmp 23], argTypes := #[41, 3] }, type := 3, pos := "l2_set.go:198", after := #[{ on := 2, ground := Ground.data }, { on := 4, ground := Ground.data }], guard := none }) rfl (fun K hK => ?_) AllReadyH.nil
      go_simp
      refine (pick_g _ ?_ ?_ w.heap.size b _ _ (hR2.below (Below.refl _ _).drew) ?_).mono ?_
      · omega
      · omega
      · omega
      rintro e w3 ⟨xi, rfl, hx0, hx1, hR3, hO3⟩
      obtain ⟨i, rfl⟩ := Int.eq_ofNat_of_zero_le hx0
      go_wp2_with fail
      refine hK.out _ _ ?_ (fun hHeld => ?_)
      · exact At.onlyG (HA2.out.later (Below.refl _ _).drew) hO3 (by omega)
      clear hK K
      try simp only [Act.put, List.setIfInBounds_toArray, List.set_cons_zero, List.set_cons_succ]
      have hil : i < l.length := by omega
      have hi1 : (0 : Int) ≤ (i : Int) := by omega
      have hi2 : (i : Int) < (l.length : Int) := by omega
      have hO23 : Only b w2 w3 := (Only.refl b w2).drew.trans hO3
      have k0 := (hO23.cell (p := ⟨w.heap.size, 0, none⟩) hlt2 hnb).trans z20
      have k1 := (hO23.cell (p := ⟨w.heap.size, 1, none⟩) hlt2 hnb).trans z21
      have f0 := (hO23.frozen (p := ⟨w.heap.size, 0, none⟩) hlt2 hnb).trans y20
      have f1 := (hO23.frozen (p := ⟨w.heap.size, 1, none⟩) hlt2 hnb).trans y21
      refine wpAnyH_take (i := 6) (oi := { dst := some 25, op := Op.indexAddr 24 (Operand.tmp 20) (Operand.tmp 24), type := 0, pos := "l2_set.go:198", after := #[{ on := 1, ground := Ground.data }, { on := 5, ground := Ground.data }, { on := 8, ground := Ground.gcOnly Departure.lateStores }], guard := none }) (v := ?vrdrawDrop_cx6) rfl (by kernel_rfl) (by kernel_rfl) (by kernel_rfl) (fun _ _ _ h => h) (Or.inl ⟨by rfl, ?hyrdrawDrop_cx6⟩) (by with_reducible assumption) ?restrdrawDrop_cx6
      case hyrdrawDrop_cx6 => (intro w hSw; (try dsimp only at hSw); go_simp; try with_reducible rfl)
      case' restrdrawDrop_cx6 => (try simp only [Act.put, List.setIfInBounds_toArray, List.set_cons_zero, List.set_cons_succ])
      refine wpAnyH_take (i := 7) (oi := { dst := some 26, op := Op.load 26 (Operand.tmp 25), type := 26, pos := "l2_set.go:198", after := #[{ on := 6, ground := Ground.data }, { on := 8, ground := Ground.gcOnly Departure.lateStores }], guard := none }) (v := ?vrdrawDrop_cx7) rfl (by kernel_rfl) (by kernel_rfl) (by kernel_rfl) (fun _ _ _ h => h) (Or.inl ⟨by rfl, ?hyrdrawDrop_cx7⟩) (by with_reducible assumption) ?restrdrawDrop_cx7
      case hyrdrawDrop_cx7 => (intro u hSu; (try dsimp only at hSu); obtain ⟨bb, oo, e1, _, q0, q1⟩ := hSu i hil; obtain ⟨rfl, rfl⟩ : g = bb ∧ 0 = oo := (by simp at e1; exact e1); simp only [Nat.zero_add] at q0 q1; go_simp; try with_reducible rfl)
      case' restrdrawDrop_cx7 => (try simp only [Act.put, List.setIfInBounds_toArray, List.set_cons_zero, List.set_cons_succ])
      refine wpAnyH_take (i := 8) (oi := { dst := some 2, op := Op.assign (Operand.tmp 19), type := 24, pos := "l2_set.go:198", after := #[{ on := 0, ground := Ground.data }, { on := 5, ground := Ground.chain }, { on := 0, ground := Ground.phase }, { on := 1, ground := Ground.textOnly Departure.lateStores }, { on := 2, ground := Ground.textOnly Departure.lateStores }, { on := 3, ground := Ground.textOnly Departure.lateStores }, { on := 4, ground := Ground.textOnly Departure.lateStoresUnsure }, { on := 5, ground := Ground.textOnly Departure.lateStoresUnsure }, { on := 6, ground := Ground.textOnly Departure.lateStores }, { on := 7, ground := Ground.textOnly Departure.lateStores }], guard := none }) (v := ?vrdrawDrop_cx8) rfl (by kernel_rfl) (by kernel_rfl) (by kernel_rfl) (fun _ _ _ h => h) (Or.inl ⟨by rfl, ?hyrdrawDrop_cx8⟩) (by with_reducible assumption) ?restrdrawDrop_cx8
      case hyrdrawDrop_cx8 => (intro w hSw; (try dsimp only at hSw); go_simp; try with_reducible rfl)
      case' restrdrawDrop_cx8 => (try simp only [Act.put, List.setIfInBounds_toArray, List.set_cons_zero, List.set_cons_succ])
      refine wpAnyH_ready (rs := [9]) (by kernel_rfl) (by simp) ?_
      refine AllReadyH.cons (o := { dst := none, op := Op.store 26 (Operand.tmp 3) (Operand.tmp 26), type := 0, pos := "l2_set.go:198", after := #[{ on := 7, ground := Ground.data }, { on := 8, ground := Ground.chain }, { on := 0, ground := Ground.phase }, { on := 1, ground := Ground.phase }, { on := 2, ground := Ground.phase }, { on := 3, ground := Ground.phase }, { on := 4, ground := Ground.phase }, { on := 5, ground := Ground.phase }, { on := 6, ground := Ground.phase }, { on := 7, ground := Ground.phase }, { on := 8, ground := Ground.phase }], guard := none }) rfl (fun K hK => ?_) AllReadyH.nil
      go_simp
      refine hK.out _ _ ?_ (fun hHeld => ?_)
      · exact At.onlyG (At.onlyG (HA2.out.later (Below.refl _ _).drew) hO3 (by omega)) (((Only.refl w.heap.size _).setCell (.inl rfl) _).setCell (.inl rfl) _) (by omega)
      clear hK K
      try simp only [Act.put, List.setIfInBounds_toArray, List.set_cons_zero, List.set_cons_succ]
      refine wpAnyH_done (by kernel_rfl) ?_ _
      refine NoPanic.normal ?_
      go_wp2
      refine bodyPost_ret (v := .tuple #[.slice (some ⟨g, 0, none⟩) l.length p1, .agg #[.int .i64 (px l i), .int .i64 (py l i)]]) (by simp [results, Tryd.results14, go_sem, k0, k1]) rfl ⟨_, _, _, rfl, l, ?_, hl1, ?_⟩
      · exact ((((ho1.only hO2 (by omega)).only hO23 (by omega)).mono (show w.heap.size + 1 ≤ wB.heap.size by omega)).only (((Only.refl w.heap.size _).setCell (.inl rfl) _).setCell (.inl rfl) _) (Nat.lt_succ_self _)).mono (Nat.le_succ _)
      · exact hW.trans ((((hO12.trans hO23).below (by omega) (by omega) : Below w.heap.size wB w3).setCell (Nat.le_refl _) _).setCell (Nat.le_refl _) _)
    · skip
      refine bodyPost_ret (v := .tuple #[.slice (some ⟨g, 0, none⟩) l.length p1, .agg #[.int .i64 (x), .int .i64 (y)]]) (by simp [results, Tryd.results14, go_sem, k0, k1]) rfl ⟨_, _, _, rfl, l, ?_, hl1, ?_⟩
      · exact ((((ho1.only hO2 (by omega)).only hO3 (by omega)).mono (show w.heap.size + 1 ≤ wB.heap.size by omega)).only (((Only.refl w.heap.size _).setCell (.inl rfl) _).setCell (.inl rfl) _) (Nat.lt_succ_self _)).mono (Nat.le_succ _)
      · exact hW.trans ((((hO13).below (by omega) (by omega) : Below w.heap.size wB w3).setCell (Nat.le_refl _) _).setCell (Nat.le_refl _) _)
  · go_wp2_with (go_at_call 32; refine (anyPoint_r w.heap.size b _ w1 hR1 (by omega)).mono ?_; rintro e w3 ⟨x, y, rfl, _, _, _, _, hR3, hO3⟩; have hO13 := hO1.trans hO3; have k0 := (hO13.cell (p := ⟨w.heap.size, 0, none⟩) hlt0 hnb).trans z0; have k1 := (hO13.cell (p := ⟨w.heap.size, 1, none⟩) hlt0 hnb).trans z1; have f0 := (hO13.frozen (p := ⟨w.heap.size, 0, none⟩) hlt0 hnb).trans y0; have f1 := (hO13.frozen (p := ⟨w.heap.size, 1, none⟩) hlt0 hnb).trans y1; have hs3 := hO13.size)
    refine bodyPost_ret (v := .tuple #[.slice a1 l.length p1, .agg #[.int .i64 (x), .int .i64 (y)]]) (by simp [results, Tryd.results14, go_sem, k0, k1]) rfl ⟨_, _, _, rfl, l, ?_, hl1, ?_⟩
    · exact (((ho1.only hO3 (by omega)).mono (show w.heap.size + 1 ≤ wB.heap.size by omega)).only (((Only.refl w.heap.size _).setCell (.inl rfl) _).setCell (.inl rfl) _) (Nat.lt_succ_self _)).mono (Nat.le_succ _)
    · exact hW.trans ((((hO13).below (by omega) (by omega) : Below w.heap.size wB w3).setCell (Nat.le_refl _) _).setCell (Nat.le_refl _) _)
theorem zero_cells (n : Nat) : (madeCells #[.int .i64 0, .int .i64 0] (n * 2)).toList = cells (List.replicate n (0, 0)) := by
  refine List.ext_getElem? fun i => ?_
  by_cases hi : i < n * 2
  · rw [cells_get _ _ (by rw [List.length_replicate]; exact hi), Array.getElem?_toList]
    have hz : cel (List.replicate n (0, 0)) i = .int .i64 0 := by
      unfold cel
      have e1 : px (List.replicate n (0, 0)) (i / 2) = 0 := by simp [px, show i / 2 < n by omega]
      have e2 : py (List.replicate n (0, 0)) (i / 2) = 0 := by simp [py, show i / 2 < n by omega]
      split
      · rw [e1]
      · rw [e2]
    rw [hz]
    simp [madeCells, hi]
    rcases (show i % 2 = 0 ∨ i % 2 = 1 by omega) with h | h <;> simp [h]
  · rw [List.getElem?_eq_none (by simp [size_madeCells]; omega), List.getElem?_eq_none (by rw [cells_len, List.length_replicate]; omega)]
set_option maxHeartbeats 2000000 in
theorem drawFrom_c (a : Option Addr) (len cap : Nat) (w : World) (hB : Bytes w.heap.size a len w) (hl : len ≤ 1048576) :
    Calls Tryd.prog 17 #[.slice a len cap] w fun e w' => ∃ v, e = .returned v ∧ ∃ l, Own w.heap.size v l w' ∧ l.length ≤ 61 ∧ Below w.heap.size w w' := by
  have hR0 : Rd w.heap.size w.heap.size 0 (w.alloc (.cells #[.slice a len cap, .int .i64 0, .int .u64 0] 44)) := rd_new _ _ _ _ _ _ hB hl (by omega) rfl
  clear hB
  have hW : Below w.heap.size w (w.alloc (.cells #[.slice a len cap, .int .i64 0, .int .u64 0] 44)) := by go_grown
  have hsz : (w.alloc (.cells #[.slice a len cap, .int .i64 0, .int .u64 0] 44)).heap.size = w.heap.size + 1 := by simp
  obtain ⟨i0, hi, hz0, hz1, hz2⟩ := info_parts info_pt
  go_enter Tryd.func17, Tryd.ntmps17
  go_upto_region 2 with fail
  generalize w.alloc (.cells #[.slice a len cap, .int .i64 0, .int .u64 0] 44) = wB at hR0 hW hsz ⊢
  go_upto_region 3 with (go_at_call 45; refine (points_r w.heap.size w.heap.size 0 wB hR0 (by omega)).mono ?_; rintro e w1 ⟨v1, rfl, l, ho1, hl1, _, hR1, hO1⟩; obtain ⟨a1, p1, hv1⟩ := ho1.shape; subst hv1)
  have hs1 := hO1.size
  have HEND : ∀ (v : Value) (l' : List (Int × Int)) (w' : World), Own wB.heap.size v l' w' → l'.length ≤ 61 → Only w.heap.size wB w' → ∃ u, Ending.returned v = .returned u ∧ ∃ l, Own w.heap.size u l w' ∧ l.length ≤ 61 ∧ Below w.heap.size w w' := fun v l' w' h1 h2 h3 => ⟨v, rfl, l', h1.mono (by omega), h2, hW.trans (h3.below (by omega) (Nat.le_refl _))⟩
  by_cases hl0 : 0 < l.length
  · obtain ⟨g, rfl, hg1, hg2, hgf⟩ := ho1.block hl0
    have t1 : True := trivial
    go_upto_region 4 with (go_at_call 30; refine (one_r 20 (by omega) (by omega) w.heap.size w.heap.size _ w1 hR1 (by omega)).mono ?_; rintro e w2 ⟨v2, rfl, hR2, hO2⟩)
    · have hO12 := hO1.trans hO2
      have ho2 := ho1.only hO2 (by omega)
      obtain ⟨b', off', e1, _, q0, q1⟩ := ho2.at 0 hl0
      obtain ⟨rfl, rfl⟩ : g = b' ∧ 0 = off' := by simp at e1; exact e1
      simp only [Nat.zero_mul, Nat.zero_add] at q0 q1
      obtain ⟨g3, e3, _, hg4, hgf2⟩ := ho2.block hl0
      obtain rfl : g = g3 := by simpa using e3
      have f1 := hgf2 1
      have hbg : w.heap.size + 1 ≤ g := by omega
      obtain ⟨l', e', ho'⟩ := ho2.set 1 1000001
      have HO' := hid ho'
      have hRs : Rd w.heap.size w.heap.size _ (w2.setCell ⟨g, 1, none⟩ (.int .i64 1000001)) := hR2.below ((Below.refl _ _).setCell hbg _)
      have hOs : Only w.heap.size wB (w2.setCell ⟨g, 1, none⟩ (.int .i64 1000001)) := hO12.setCell (Or.inr (by show wB.heap.size ≤ g; omega)) _
      clear ho' e1 e3 hgf hgf2
      go_wp2_with (first
        | (go_at_call 30; refine (one_r 30 (by omega) (by omega) w.heap.size w.heap.size _ _ hRs (by omega)).mono ?_; rintro e w3 ⟨v3, rfl, hR3, hO3⟩; have hO13 := hOs.trans hO3)
        | (go_at_call 31; refine (pick_r 2 (by omega) (by omega) w.heap.size w.heap.size _ w3 hR3 (by omega)).mono ?_; rintro e w4 ⟨d, rfl, hd0, hd1, hR4, hO4⟩; obtain ⟨k, rfl⟩ := Int.eq_ofNat_of_zero_le hd0; have hO14 := hO13.trans hO4)
        | (at_make; refine wpList_make_full _ rfl _ _ 24 rfl w4.heap.size 26 i0 _ 2 Tryd.underlying24 hi hz0 hz1 .i64 .i64 _ _ (60 + k) rfl rfl (by omega) (by omega) (by rw [hz2]; omega) (by unfold maxLen; omega) (Nat.le_refl _) ?_; intro w9 hown9 hgrow9))
      · go_ret
        have ho9 := own_of (l := List.replicate (60 + k) (0, 0)) (by rw [← zero_cells]; exact hown9)
        exact HEND _ _ _ (ho9.mono hO14.size) (by simp; omega) (hO14.trans (Only.ofBelow (growNone hgrow9)))
      · go_ret
        exact HEND _ _ _ (HO'.out.only hO3 (by omega)) (by omega) hO13
    · have hO12 := hO1.trans hO2
      have ho2 := ho1.only hO2 (by omega)
      go_wp2_with (first
        | (go_at_call 30; refine (one_r 30 (by omega) (by omega) w.heap.size w.heap.size _ w2 hR2 (by omega)).mono ?_; rintro e w3 ⟨v3, rfl, hR3, hO3⟩; have hO13 := hO12.trans hO3)
        | (go_at_call 31; refine (pick_r 2 (by omega) (by omega) w.heap.size w.heap.size _ w3 hR3 (by omega)).mono ?_; rintro e w4 ⟨d, rfl, hd0, hd1, hR4, hO4⟩; obtain ⟨k, rfl⟩ := Int.eq_ofNat_of_zero_le hd0; have hO14 := hO13.trans hO4)
        | (at_make; refine wpList_make_full _ rfl _ _ 24 rfl w4.heap.size 26 i0 _ 2 Tryd.underlying24 hi hz0 hz1 .i64 .i64 _ _ (60 + k) rfl rfl (by omega) (by omega) (by rw [hz2]; omega) (by unfold maxLen; omega) (Nat.le_refl _) ?_; intro w9 hown9 hgrow9))
      · go_ret
        have ho9 := own_of (l := List.replicate (60 + k) (0, 0)) (by rw [← zero_cells]; exact hown9)
        exact HEND _ _ _ (ho9.mono hO14.size) (by simp; omega) (hO14.trans (Only.ofBelow (growNone hgrow9)))
      · go_ret
        exact HEND _ _ _ (ho2.only hO3 (by omega)) (by omega) hO13
  · go_wp2_with (first
      | (go_at_call 30; refine (one_r 30 (by omega) (by omega) w.heap.size w.heap.size _ w1 hR1 (by omega)).mono ?_; rintro e w2 ⟨v2, rfl, hR2, hO2⟩; have hO12 := hO1.trans hO2)
      | (go_at_call 31; refine (pick_r 2 (by omega) (by omega) w.heap.size w.heap.size _ w2 hR2 (by omega)).mono ?_; rintro e w3 ⟨d, rfl, hd0, hd1, hR3, hO3⟩; obtain ⟨k, rfl⟩ := Int.eq_ofNat_of_zero_le hd0; have hO13 := hO12.trans hO3)
      | (at_make; refine wpList_make_full _ rfl _ _ 24 rfl w3.heap.size 26 i0 _ 2 Tryd.underlying24 hi hz0 hz1 .i64 .i64 _ _ (60 + k) rfl rfl (by omega) (by omega) (by rw [hz2]; omega) (by unfold maxLen; omega) (Nat.le_refl _) ?_; intro w9 hown9 hgrow9))
    · go_ret
      have ho9 := own_of (l := List.replicate (60 + k) (0, 0)) (by rw [← zero_cells]; exact hown9)
      exact HEND _ _ _ (ho9.mono hO13.size) (by simp; omega) (hO13.trans (Only.ofBelow (growNone hgrow9)))
    · go_ret
      exact HEND _ _ _ (ho1.only hO2 (by omega)) (by omega) hO12
end Go.Proofs.YtfhlgdngmdlakaaDoor
