/-
  The draws of the layers' laws (contracts for the walks).
  Conditions: as each theorem states them.
-/
import Derived.Test.YtoefllklngnmeaaGreatDoorB4
import Derived.Test.YtoefllklngnmeaaGreatDoorSame
namespace Go.Proofs.YtoefllklngnmeaaGreatDoor
open Go.RowKit
set_option linter.unusedVariables false
theorem Bytes.mono {N N' : Nat} {a : Option Addr} {len : Nat} {w : World} (h : Bytes N a len w) (hN : N ≤ N') : Bytes N' a len w := fun i hi => by
  obtain ⟨blk, off, z, e, hb, hc, h0, h1⟩ := h i hi
  exact ⟨blk, off, z, e, Nat.lt_of_lt_of_le hb hN, hc, h0, h1⟩
/-- A new cursor is ready. -/
theorem rd_new (N b : Nat) (a : Option Addr) (len cap : Nat) (U : World) (hB : Bytes N a len U) (hl : len ≤ 1048576) (hN : N ≤ b) (hb : U.heap.size = b) :
    Rd N b 0 (U.alloc (.cells #[.slice a len cap, .int .i64 0, .int .u64 0] 59)) := by
  subst hb
  refine ⟨a, len, cap, 0, ⟨?_, ?_, ⟨0, ?_, by omega, by omega⟩, ?_, ?_⟩, hB.below ((Below.refl _ _).alloc (Nat.le_refl _) _), hN, hl, Nat.le_refl _⟩
  · simp [go_sem]
  · simp [go_sem]
  · simp [go_sem]
  · simp [go_sem]
  · simp [go_sem]
theorem At.onlyG {N g q : Nat} {l : List (Int × Int)} {u u' : World} (h : At N (some ⟨g, 0, none⟩) l u) (hO : Only q u u') (hq : g ≠ q) : At N (some ⟨g, 0, none⟩) l u' := fun i hi => by
  obtain ⟨b, off, e, hb, h0, h1⟩ := h i hi
  have hbg : b = g := by simp at e; exact e.1.symm
  exact ⟨b, off, e, hb, (hO.cell (World.block_lt_of_cell? _ _ h0) (by show b ≠ q; omega)).trans h0, (hO.cell (World.block_lt_of_cell? _ _ h1) (by show b ≠ q; omega)).trans h1⟩
set_option maxHeartbeats 1000000 in
theorem pick_g (n : Int) (hn : 1 ≤ n) (hn' : n ≤ 200) (N b m : Nat) (w : World) (h : Rd N b m w) (hm : m ≤ 1000000) :
    Calls Tryz.prog 60 #[.pointer (some ⟨b, 0, none⟩), .int .i64 n] w fun e w' => ∃ v : Int, e = .returned (.int .i64 v) ∧ 0 ≤ v ∧ v < n ∧ Rd N b (m + 1) w' ∧ Only b w w' := by
  by_cases h2 : 2 ≤ n
  · exact pick_r n h2 hn' N b m w h hm
  · obtain rfl : n = 1 := by omega
    have H := hid h
    clear h
    go_enter Tryz.func60, Tryz.ntmps60
    go_wp2
    go_ret
    exact ⟨0, rfl, by omega, by omega, H.out.mono (by omega), Only.refl _ _⟩
set_option maxHeartbeats 2000000 in
theorem drawDrop_c (a : Option Addr) (len cap : Nat) (w : World) (hB : Bytes w.heap.size a len w) (hl : len ≤ 1048576) :
    Calls Tryz.prog 38 #[.slice a len cap] w fun e w' => ∃ v x y, e = .returned (.tuple #[v, .agg #[.int .i64 x, .int .i64 y]]) ∧ ∃ l, Own w.heap.size v l w' ∧ l.length ≤ 13 ∧ Below w.heap.size w w' := by
  have hR0 : Rd w.heap.size (w.heap.size + 1) 0 ((w.alloc (.cells #[.int .i64 0, .int .i64 0] 36)).alloc (.cells #[.slice a len cap, .int .i64 0, .int .u64 0] 59)) := rd_new _ _ _ _ _ _ (hB.below (by go_grown)) hl (by omega) (by go_simp)
  clear hB
  have hW : Below w.heap.size w ((w.alloc (.cells #[.int .i64 0, .int .i64 0] 36)).alloc (.cells #[.slice a len cap, .int .i64 0, .int .u64 0] 59)) := by go_grown
  have z0 : ((w.alloc (.cells #[.int .i64 0, .int .i64 0] 36)).alloc (.cells #[.slice a len cap, .int .i64 0, .int .u64 0] 59)).cell? ⟨w.heap.size, 0, none⟩ = some (.int .i64 0) := by go_simp
  have z1 : ((w.alloc (.cells #[.int .i64 0, .int .i64 0] 36)).alloc (.cells #[.slice a len cap, .int .i64 0, .int .u64 0] 59)).cell? ⟨w.heap.size, 1, none⟩ = some (.int .i64 0) := by go_simp
  have y0 : ((w.alloc (.cells #[.int .i64 0, .int .i64 0] 36)).alloc (.cells #[.slice a len cap, .int .i64 0, .int .u64 0] 59)).frozen? ⟨w.heap.size, 0, none⟩ = false := by go_simp
  have y1 : ((w.alloc (.cells #[.int .i64 0, .int .i64 0] 36)).alloc (.cells #[.slice a len cap, .int .i64 0, .int .u64 0] 59)).frozen? ⟨w.heap.size, 1, none⟩ = false := by go_simp
  go_enter Tryz.func38, Tryz.ntmps38
  go_upto_region 2 with fail
  generalize (w.alloc (.cells #[.int .i64 0, .int .i64 0] 36)).alloc (.cells #[.slice a len cap, .int .i64 0, .int .u64 0] 59) = wB at hR0 hW z0 z1 y0 y1 ⊢
  generalize hbe : w.heap.size + 1 = b at hR0 ⊢
  have hlt0 : w.heap.size < wB.heap.size := World.block_lt_of_cell? wB _ z0
  have hnb : w.heap.size ≠ b := by omega
  have hbB := hR0.lt
  go_upto_region 3 with (go_at_call 34; refine (anySet_r w.heap.size b 0 wB hR0 (by omega)).mono ?_; rintro e w1 ⟨v1, rfl, l, ho1, hl1, hR1, hO1⟩; obtain ⟨a1, p1, hv1⟩ := ho1.shape; subst hv1)
  have hs1 := hO1.size
  by_cases hl0 : 0 < l.length
  · obtain ⟨g, rfl, hg1, hg2, _⟩ := ho1.block hl0
    go_wp2_with (first
      | (go_at_call 61; refine (one_r 4 (by omega) (by omega) w.heap.size b _ w1 hR1 (by omega)).mono ?_; rintro e w2 ⟨v2, rfl, hR2, hO2⟩; have hO12 := hO1.trans hO2; have hs2 := hO2.size)
      | (go_at_call 62; refine (anyPoint_r w.heap.size b _ w2 hR2 (by omega)).mono ?_; rintro e w3 ⟨x, y, rfl, _, _, _, _, hR3, hO3⟩; have hO13 := hO12.trans hO3; have k0 := (hO13.cell (p := ⟨w.heap.size, 0, none⟩) hlt0 hnb).trans z0; have k1 := (hO13.cell (p := ⟨w.heap.size, 1, none⟩) hlt0 hnb).trans z1; have f0 := (hO13.frozen (p := ⟨w.heap.size, 0, none⟩) hlt0 hnb).trans y0; have f1 := (hO13.frozen (p := ⟨w.heap.size, 1, none⟩) hlt0 hnb).trans y1; have hs3 := hO13.size))
    · have HA2 : Hid (At w2.heap.size (some ⟨g, 0, none⟩) l w2) := hid (ho1.only hO2 (by omega)).at
      have hlt2 : w.heap.size < w2.heap.size := by omega
      have z20 := (hO12.cell (p := ⟨w.heap.size, 0, none⟩) hlt0 hnb).trans z0
      have z21 := (hO12.cell (p := ⟨w.heap.size, 1, none⟩) hlt0 hnb).trans z1
      have y20 := (hO12.frozen (p := ⟨w.heap.size, 0, none⟩) hlt0 hnb).trans y0
      have y21 := (hO12.frozen (p := ⟨w.heap.size, 1, none⟩) hlt0 hnb).trans y1
      refine wp_region_noPanic ?_
      refine wp_region_held_drew (S := (fun u => At w2.heap.size (some ⟨g, 0, none⟩) l u)) (by kernel_rfl) ?_ (fun hHeld => ?_)
      · exact HA2.out.later (Below.refl _ _).drew
      refine wpAnyH_take (i := 0) (oi := { dst := some 19, op := Op.move (Operand.tmp 5), type := 24, pos := "l2_set.go:198", after := #[], guard := none }) (v := ?vrdrawDrop_cx0) rfl (by kernel_rfl) (by kernel_rfl) (by kernel_rfl) (fun _ _ _ h => h) (Or.inl ⟨by rfl, ?hyrdrawDrop_cx0⟩) (by with_reducible assumption) ?restrdrawDrop_cx0
      case hyrdrawDrop_cx0 => (intro w hSw; (try dsimp only at hSw); go_simp; try with_reducible rfl)
      case' restrdrawDrop_cx0 => (try simp only [Act.put, List.setIfInBounds_toArray, List.set_cons_zero, List.set_cons_succ])
      refine wpAnyH_take (i := 1) (oi := { dst := some 20, op := Op.move (Operand.tmp 5), type := 24, pos := "l2_set.go:198", after := #[{ on := 8, ground := Ground.gcOnly Departure.lateStores }], guard := none }) (v := ?vrdrawDrop_cx1) rfl (by kernel_rfl) (by kernel_rfl) (by kernel_rfl) (fun _ _ _ h => h) (Or.inl ⟨by rfl, ?hyrdrawDrop_cx1⟩) (by with_reducible assumption) ?restrdrawDrop_cx1
      case hyrdrawDrop_cx1 => (intro w hSw; (try dsimp only at hSw); go_simp; try with_reducible rfl)
      case' restrdrawDrop_cx1 => (try simp only [Act.put, List.setIfInBounds_toArray, List.set_cons_zero, List.set_cons_succ])
      refine wpAnyH_take (i := 2) (oi := { dst := some 21, op := Op.move (Operand.tmp 4), type := 56, pos := "l2_set.go:198", after := #[], guard := none }) (v := ?vrdrawDrop_cx2) rfl (by kernel_rfl) (by kernel_rfl) (by kernel_rfl) (fun _ _ _ h => h) (Or.inl ⟨by rfl, ?hyrdrawDrop_cx2⟩) (by with_reducible assumption) ?restrdrawDrop_cx2
      case hyrdrawDrop_cx2 => (intro w hSw; (try dsimp only at hSw); go_simp; try with_reducible rfl)
      case' restrdrawDrop_cx2 => (try simp only [Act.put, List.setIfInBounds_toArray, List.set_cons_zero, List.set_cons_succ])
      refine wpAnyH_take (i := 3) (oi := { dst := some 22, op := Op.move (Operand.tmp 5), type := 24, pos := "l2_set.go:198", after := #[], guard := none }) (v := ?vrdrawDrop_cx3) rfl (by kernel_rfl) (by kernel_rfl) (by kernel_rfl) (fun _ _ _ h => h) (Or.inl ⟨by rfl, ?hyrdrawDrop_cx3⟩) (by with_reducible assumption) ?restrdrawDrop_cx3
      case hyrdrawDrop_cx3 => (intro w hSw; (try dsimp only at hSw); go_simp; try with_reducible rfl)
      case' restrdrawDrop_cx3 => (try simp only [Act.put, List.setIfInBounds_toArray, List.set_cons_zero, List.set_cons_succ])
      refine wpAnyH_take (i := 4) (oi := { dst := some 23, op := Op.call { callee := Callee.builtin Builtin.len, args := #[Operand.tmp 22], argTypes := #[24] }, type := 3, pos := "l2_set.go:198", after := #[{ on := 3, ground := Ground.data }], guard := none }) (v := ?vrdrawDrop_cx4) rfl (by kernel_rfl) (by kernel_rfl) (by kernel_rfl) (fun _ _ _ h => h) (Or.inl ⟨by rfl, ?hyrdrawDrop_cx4⟩) (by with_reducible assumption) ?restrdrawDrop_cx4
      case hyrdrawDrop_cx4 => (intro w hSw; (try dsimp only at hSw); go_simp; try with_reducible rfl)
      case' restrdrawDrop_cx4 => (try simp only [Act.put, List.setIfInBounds_toArray, List.set_cons_zero, List.set_cons_succ])
      refine wpAnyH_ready (rs := [5]) (by kernel_rfl) (by simp) ?_
      refine AllReadyH.cons (o := { dst := some 24, op := Op.call { callee := Callee.value (Operand.func 60), args := #[Operand.tmp 21, Operand.tmp 23], argTypes := #[56, 3] }, type := 3, pos := "l2_set.go:198", after := #[{ on := 2, ground := Ground.data }, { on := 4, ground := Ground.data }], guard := none }) rfl (fun K hK => ?_) AllReadyH.nil
      go_simp
      refine (pick_g _ ?_ ?_ w.heap.size b _ _ (hR2.below (Below.refl _ _).drew) ?_).mono ?_
      · omega
      · omega
      · omega
      rintro e w3 ⟨xi, rfl, hx0, hx1, hR3, hO3⟩
      obtain ⟨i, rfl⟩ := Int.eq_ofNat_of_zero_le hx0
      go_wp2_with fail
      refine hK.out _ _ ?_ (fun hHeld => ?_)
      · exact At.onlyG (HA2.out.later (Below.refl _ _).drew) hO3 (by omega)
      clear hK K
      try simp only [Act.put, List.setIfInBounds_toArray, List.set_cons_zero, List.set_cons_succ]
      have hil : i < l.length := by omega
      have hi1 : (0 : Int) ≤ (i : Int) := by omega
      have hi2 : (i : Int) < (l.length : Int) := by omega
      have hO23 : Only b w2 w3 := (Only.refl b w2).drew.trans hO3
      have k0 := (hO23.cell (p := ⟨w.heap.size, 0, none⟩) hlt2 hnb).trans z20
      have k1 := (hO23.cell (p := ⟨w.heap.size, 1, none⟩) hlt2 hnb).trans z21
      have f0 := (hO23.frozen (p := ⟨w.heap.size, 0, none⟩) hlt2 hnb).trans y20
      have f1 := (hO23.frozen (p := ⟨w.heap.size, 1, none⟩) hlt2 hnb).trans y21
      refine wpAnyH_take (i := 6) (oi := { dst := some 25, op := Op.indexAddr 24 (Operand.tmp 20) (Operand.tmp 24), type := 0, pos := "l2_set.go:198", after := #[{ on := 1, ground := Ground.data }, { on := 5, ground := Ground.data }, { on := 8, ground := Ground.gcOnly Departure.lateStores }], guard := none }) (v := ?vrdrawDrop_cx6) rfl (by kernel_rfl) (by kernel_rfl) (by kernel_rfl) (fun _ _ _ h => h) (Or.inl ⟨by rfl, ?hyrdrawDrop_cx6⟩) (by with_reducible assumption) ?restrdrawDrop_cx6
      case hyrdrawDrop_cx6 => (intro w hSw; (try dsimp only at hSw); go_simp; try with_reducible rfl)
      case' restrdrawDrop_cx6 => (try simp only [Act.put, List.setIfInBounds_toArray, List.set_cons_zero, List.set_cons_succ])
      refine wpAnyH_take (i := 7) (oi := { dst := some 26, op := Op.load 36 (Operand.tmp 25), type := 36, pos := "l2_set.go:198", after := #[{ on := 6, ground := Ground.data }, { on := 8, ground := Ground.gcOnly Departure.lateStores }], guard := none }) (v := ?vrdrawDrop_cx7) rfl (by kernel_rfl) (by kernel_rfl) (by kernel_rfl) (fun _ _ _ h => h) (Or.inl ⟨by rfl, ?hyrdrawDrop_cx7⟩) (by with_reducible assumption) ?restrdrawDrop_cx7
      case hyrdrawDrop_cx7 => (intro u hSu; (try dsimp only at hSu); obtain ⟨bb, oo, e1, _, q0, q1⟩ := hSu i hil; obtain ⟨rfl, rfl⟩ : g = bb ∧ 0 = oo := (by simp at e1; exact e1); simp only [Nat.zero_add] at q0 q1; go_simp; try with_reducible rfl)
      case' restrdrawDrop_cx7 => (try simp only [Act.put, List.setIfInBounds_toArray, List.set_cons_zero, List.set_cons_succ])
      refine wpAnyH_take (i := 8) (oi := { dst := some 2, op := Op.assign (Operand.tmp 19), type := 24, pos := "l2_set.go:198", after := #[{ on := 0, ground := Ground.data }, { on := 5, ground := Ground.chain }, { on := 0, ground := Ground.phase }, { on := 1, ground := Ground.textOnly Departure.lateStores }, { on := 2, ground := Ground.textOnly Departure.lateStores }, { on := 3, ground := Ground.textOnly Departure.lateStores }, { on := 4, ground := Ground.textOnly Departure.lateStoresUnsure }, { on := 5, ground := Ground.textOnly Departure.lateStoresUnsure }, { on := 6, ground := Ground.textOnly Departure.lateStores }, { on := 7, ground := Ground.textOnly Departure.lateStores }], guard := none }) (v := ?vrdrawDrop_cx8) rfl (by kernel_rfl) (by kernel_rfl) (by kernel_rfl) (fun _ _ _ h => h) (Or.inl ⟨by rfl, ?hyrdrawDrop_cx8⟩) (by with_reducible assumption) ?restrdrawDrop_cx8
      case hyrdrawDrop_cx8 => (intro w hSw; (try dsimp only at hSw); go_simp; try with_reducible rfl)
      case' restrdrawDrop_cx8 => (try simp only [Act.put, List.setIfInBounds_toArray, List.set_cons_zero, List.set_cons_succ])
      refine wpAnyH_ready (rs := [9]) (by kernel_rfl) (by simp) ?_
      refine AllReadyH.cons (o := { dst := none, op := Op.store 36 (Operand.tmp 3) (Operand.tmp 26), type := 0, pos := "l2_set.go:198", after := #[{ on := 7, ground := Ground.data }, { on := 8, ground := Ground.chain }, { on := 0, ground := Ground.phase }, { on := 1, ground := Ground.phase }, { on := 2, ground := Ground.phase }, { on := 3, ground := Ground.phase }, { on := 4, ground := Ground.phase }, { on := 5, ground := Ground.phase }, { on := 6, ground := Ground.phase }, { on := 7, ground := Ground.phase }, { on := 8, ground := Ground.phase }], guard := none }) rfl (fun K hK => ?_) AllReadyH.nil
      go_simp
      refine hK.out _ _ ?_ (fun hHeld => ?_)
      · exact At.onlyG (At.onlyG (HA2.out.later (Below.refl _ _).drew) hO3 (by omega)) (((Only.refl w.heap.size _).setCell (.inl rfl) _).setCell (.inl rfl) _) (by omega)
      clear hK K
      try simp only [Act.put, List.setIfInBounds_toArray, List.set_cons_zero, List.set_cons_succ]
      refine wpAnyH_done (by kernel_rfl) ?_ _
      refine NoPanic.normal ?_
      go_wp2
      refine bodyPost_ret (v := .tuple #[.slice (some ⟨g, 0, none⟩) l.length p1, .agg #[.int .i64 (px l i), .int .i64 (py l i)]]) (by simp [results, Tryz.results38, go_sem, k0, k1]) rfl ⟨_, _, _, rfl, l, ?_, hl1, ?_⟩
      · exact ((((ho1.only hO2 (by omega)).only hO23 (by omega)).mono (show w.heap.size + 1 ≤ wB.heap.size by omega)).only (((Only.refl w.heap.size _).setCell (.inl rfl) _).setCell (.inl rfl) _) (Nat.lt_succ_self _)).mono (Nat.le_succ _)
      · exact hW.trans ((((hO12.trans hO23).below (by omega) (by omega) : Below w.heap.size wB w3).setCell (Nat.le_refl _) _).setCell (Nat.le_refl _) _)
    · skip
      refine bodyPost_ret (v := .tuple #[.slice (some ⟨g, 0, none⟩) l.length p1, .agg #[.int .i64 (x), .int .i64 (y)]]) (by simp [results, Tryz.results38, go_sem, k0, k1]) rfl ⟨_, _, _, rfl, l, ?_, hl1, ?_⟩
      · exact ((((ho1.only hO2 (by omega)).only hO3 (by omega)).mono (show w.heap.size + 1 ≤ wB.heap.size by omega)).only (((Only.refl w.heap.size _).setCell (.inl rfl) _).setCell (.inl rfl) _) (Nat.lt_succ_self _)).mono (Nat.le_succ _)
      · exact hW.trans ((((hO13).below (by omega) (by omega) : Below w.heap.size wB w3).setCell (Nat.le_refl _) _).setCell (Nat.le_refl _) _)
  · go_wp2_with (go_at_call 62; refine (anyPoint_r w.heap.size b _ w1 hR1 (by omega)).mono ?_; rintro e w3 ⟨x, y, rfl, _, _, _, _, hR3, hO3⟩; have hO13 := hO1.trans hO3; have k0 := (hO13.cell (p := ⟨w.heap.size, 0, none⟩) hlt0 hnb).trans z0; have k1 := (hO13.cell (p := ⟨w.heap.size, 1, none⟩) hlt0 hnb).trans z1; have f0 := (hO13.frozen (p := ⟨w.heap.size, 0, none⟩) hlt0 hnb).trans y0; have f1 := (hO13.frozen (p := ⟨w.heap.size, 1, none⟩) hlt0 hnb).trans y1; have hs3 := hO13.size)
    refine bodyPost_ret (v := .tuple #[.slice a1 l.length p1, .agg #[.int .i64 (x), .int .i64 (y)]]) (by simp [results, Tryz.results38, go_sem, k0, k1]) rfl ⟨_, _, _, rfl, l, ?_, hl1, ?_⟩
    · exact (((ho1.only hO3 (by omega)).mono (show w.heap.size + 1 ≤ wB.heap.size by omega)).only (((Only.refl w.heap.size _).setCell (.inl rfl) _).setCell (.inl rfl) _) (Nat.lt_succ_self _)).mono (Nat.le_succ _)
    · exact hW.trans ((((hO13).below (by omega) (by omega) : Below w.heap.size wB w3).setCell (Nat.le_refl _) _).setCell (Nat.le_refl _) _)
set_option maxHeartbeats 2000000 in
theorem drawGood_c (a : Option Addr) (len cap : Nat) (w : World) (hB : Bytes w.heap.size a len w) (hl : len ≤ 1048576) :
    Calls Tryz.prog 22 #[.slice a len cap] w fun e w' => ∃ v, e = .returned v ∧ ∃ l, Own w.heap.size v l w' ∧ l.length ≤ 13 ∧ Below w.heap.size w w' := by
  have hR0 : Rd w.heap.size w.heap.size 0 (w.alloc (.cells #[.slice a len cap, .int .i64 0, .int .u64 0] 59)) := rd_new _ _ _ _ _ _ hB hl (by omega) rfl
  clear hB
  have hW : Below w.heap.size w (w.alloc (.cells #[.slice a len cap, .int .i64 0, .int .u64 0] 59)) := by go_grown
  have hsz : (w.alloc (.cells #[.slice a len cap, .int .i64 0, .int .u64 0] 59)).heap.size = w.heap.size + 1 := by simp
  go_enter Tryz.func22, Tryz.ntmps22
  go_upto_region 2 with fail
  generalize w.alloc (.cells #[.slice a len cap, .int .i64 0, .int .u64 0] 59) = wB at hR0 hW hsz ⊢
  go_wp2_with (go_at_call 34; refine (anySet_r w.heap.size w.heap.size 0 wB hR0 (by omega)).mono ?_; rintro e w1 ⟨v1, rfl, l, ho1, hl1, hR1, hO1⟩; obtain ⟨a1, p1, hv1⟩ := ho1.shape; subst hv1; have hs1 := hO1.size)
  go_ret
  exact ⟨_, rfl, l, ho1.mono (by omega), hl1, hW.trans (hO1.below (by omega) (Nat.le_refl _))⟩
theorem drawLays_c (a : Option Addr) (len cap : Nat) (w : World) (hB : Bytes w.heap.size a len w) (hl : len ≤ 1048576) :
    Calls Tryz.prog 5 #[.slice a len cap] w fun e w' => ∃ v, e = .returned v ∧ ∃ l, Own w.heap.size v l w' ∧ l.length ≤ 13 ∧ Below w.heap.size w w' := by
  have HB := hid hB
  clear hB
  go_enter Tryz.func5, Tryz.ntmps5
  go_wp2_with (go_at_call 22; refine (drawGood_c _ _ _ _ HB.out hl).mono ?_; rintro e w1 ⟨v1, rfl, l, ho1, hl1, hb1⟩; obtain ⟨a1, p1, hv1⟩ := ho1.shape; subst hv1)
  go_ret
  exact ⟨_, rfl, l, ho1, hl1, hb1⟩
theorem frozen_later {w w' : World} {b : Nat} (hb : Below w.heap.size w w') (hlt : b < w.heap.size) (i : Nat) : w'.frozen? ⟨b, i, none⟩ = w.frozen? ⟨b, i, none⟩ := World.frozen?_of_block (a := ⟨b, i, none⟩) (hb.block b hlt)
theorem drawLay_c (a : Option Addr) (len cap : Nat) (w : World) (hB : Bytes w.heap.size a len w) (hl : len ≤ 1048576) :
    Calls Tryz.prog 20 #[.slice a len cap] w fun e w' => ∃ v x y, e = .returned (.tuple #[v, .agg #[.int .i64 x, .int .i64 y]]) ∧ ∃ l, Own w.heap.size v l w' ∧ l.length ≤ 13 ∧ Below w.heap.size w w' := by
  have hW : Below w.heap.size w (w.alloc (.cells #[.int .i64 0, .int .i64 0] 36)) := by go_grown
  have HB := hid ((hB.below hW).mono hW.size)
  have z0 : (w.alloc (.cells #[.int .i64 0, .int .i64 0] 36)).cell? ⟨w.heap.size, 0, none⟩ = some (.int .i64 0) := by simp [go_sem]
  have z1 : (w.alloc (.cells #[.int .i64 0, .int .i64 0] 36)).cell? ⟨w.heap.size, 1, none⟩ = some (.int .i64 0) := by simp [go_sem]
  have y0 : (w.alloc (.cells #[.int .i64 0, .int .i64 0] 36)).frozen? ⟨w.heap.size, 0, none⟩ = false := by simp [go_sem]
  have y1 : (w.alloc (.cells #[.int .i64 0, .int .i64 0] 36)).frozen? ⟨w.heap.size, 1, none⟩ = false := by simp [go_sem]
  clear hB
  go_enter Tryz.func20, Tryz.ntmps20
  go_upto_region 1 with fail
  have hsw : w.heap.size ≤ (w.alloc (.cells #[.int .i64 0, .int .i64 0] 36)).heap.size := hW.size
  have hlt0 := World.block_lt_of_cell? _ _ z0
  generalize w.alloc (.cells #[.int .i64 0, .int .i64 0] 36) = wB at *
  go_wp2_with (go_at_call 38; refine (drawDrop_c _ _ _ _ HB.out hl).mono ?_; rintro e w1 ⟨v1, x, y, rfl, l, ho1, hl1, hb1⟩; obtain ⟨a1, p1, hv1⟩ := ho1.shape; subst hv1; have u0 := cell_later hb1 z0; have u1 := cell_later hb1 z1; have g0 := (frozen_later hb1 hlt0 0).trans y0; have g1 := (frozen_later hb1 hlt0 1).trans y1; have hs1 := hb1.size)
  have k0 : ((w1.setCell ⟨w.heap.size, 0, none⟩ (.int .i64 x)).setCell ⟨w.heap.size, 1, none⟩ (.int .i64 y)).cell? ⟨w.heap.size, 0, none⟩ = some (.int .i64 x) := by simp [go_sem, u0]
  have k1 : ((w1.setCell ⟨w.heap.size, 0, none⟩ (.int .i64 x)).setCell ⟨w.heap.size, 1, none⟩ (.int .i64 y)).cell? ⟨w.heap.size, 1, none⟩ = some (.int .i64 y) := by simp [go_sem, u1]
  have hO : Only w.heap.size w1 ((w1.setCell ⟨w.heap.size, 0, none⟩ (.int .i64 x)).setCell ⟨w.heap.size, 1, none⟩ (.int .i64 y)) := ((Only.refl w.heap.size _).setCell (.inl rfl) _).setCell (.inl rfl) _
  have HOW := (ho1.mono (show w.heap.size + 1 ≤ wB.heap.size by omega)).only hO (Nat.lt_succ_self _)
  have HBW := hW.trans ((((hb1.mono hsw).setCell (p := ⟨w.heap.size, 0, none⟩) (Nat.le_refl _) (.int .i64 x)).setCell (p := ⟨w.heap.size, 1, none⟩) (Nat.le_refl _) (.int .i64 y)))
  (try simp only [Exit.inBlock, Exit.then])
  generalize (w1.setCell ⟨w.heap.size, 0, none⟩ (.int .i64 x)).setCell ⟨w.heap.size, 1, none⟩ (.int .i64 y) = w9 at *
  refine bodyPost_ret (v := .tuple #[.slice a1 l.length p1, .agg #[.int .i64 x, .int .i64 y]]) (by simp [results, Tryz.results20, go_sem, k0, k1]) rfl ⟨_, _, _, rfl, l, HOW.mono (Nat.le_succ _), hl1, HBW⟩
theorem seven (k : Nat) (hk : k < 7) : -1 ≤ ([0, 1, 3, 6, 60, 61, -1] : List Int).getD k 0 ∧ ([0, 1, 3, 6, 60, 61, -1] : List Int).getD k 0 ≤ 61 := by
  match k, hk with
  | 0, _ => decide
  | 1, _ => decide
  | 2, _ => decide
  | 3, _ => decide
  | 4, _ => decide
  | 5, _ => decide
  | 6, _ => decide
theorem amongL_r (n : Nat) (vs : Nat → Int) (hn : 1 ≤ n) (hn' : n ≤ 200) (N b m g : Nat) (w : World) (h : Rd N b m w) (hm : m ≤ 1000000) (hc : ∀ i, i < n → w.cell? ⟨g, i, none⟩ = some (.int .i64 (vs i))) (hgb : g ≠ b) :
    Calls Tryz.prog 35 #[.pointer (some ⟨b, 0, none⟩), .slice (some ⟨g, 0, none⟩) n n] w fun e w' => ∃ i : Nat, i < n ∧ e = .returned (.int .i64 (vs i)) ∧ Rd N b (m + 1) w' ∧ Only b w w' := by
  have H := hid h
  have HC := hid hc
  clear h hc
  go_enter Tryz.func35, Tryz.ntmps35
  go_wp2_with (go_at_call 60; refine (pick_g (n : Int) (by omega) (by omega) N b m _ H.out hm).mono ?_; rintro e w1 ⟨xi, rfl, hx0, hx1, hR1, hO1⟩; obtain ⟨i, rfl⟩ := Int.eq_ofNat_of_zero_le hx0; have q0 := (hO1.cell (p := ⟨g, i, none⟩) (World.block_lt_of_cell? _ _ (HC.out i (by omega))) hgb).trans (HC.out i (by omega)))
  go_ret
  exact ⟨i, by omega, rfl, hR1, hO1⟩
theorem seven_cells (w : World) (i : Nat) (hi : i < 7) : (w.alloc (.cells #[.int .i64 0, .int .i64 1, .int .i64 3, .int .i64 6, .int .i64 60, .int .i64 61, .int .i64 (-1)] 3)).cell? ⟨w.heap.size, i, none⟩ = some (.int .i64 (([0, 1, 3, 6, 60, 61, -1] : List Int).getD i 0)) := by
  match i, hi with
  | 0, _ => simp [go_sem]
  | 1, _ => simp [go_sem]
  | 2, _ => simp [go_sem]
  | 3, _ => simp [go_sem]
  | 4, _ => simp [go_sem]
  | 5, _ => simp [go_sem]
  | 6, _ => simp [go_sem]
set_option maxHeartbeats 2000000 in
theorem drawPeel_c (a : Option Addr) (len cap : Nat) (w : World) (hB : Bytes w.heap.size a len w) (hl : len ≤ 1048576) :
    Calls Tryz.prog 17 #[.slice a len cap] w fun e w' => ∃ v m, e = .returned (.tuple #[v, .int .i64 m]) ∧ ∃ l, Own w.heap.size v l w' ∧ l.length ≤ 13 ∧ (-1 ≤ m ∧ m ≤ 61) ∧ Below w.heap.size w w' := by
  have hR0 : Rd w.heap.size w.heap.size 0 (w.alloc (.cells #[.slice a len cap, .int .i64 0, .int .u64 0] 59)) := rd_new _ _ _ _ _ _ hB hl (by omega) rfl
  clear hB
  have hW : Below w.heap.size w (w.alloc (.cells #[.slice a len cap, .int .i64 0, .int .u64 0] 59)) := by go_grown
  have hsz : (w.alloc (.cells #[.slice a len cap, .int .i64 0, .int .u64 0] 59)).heap.size = w.heap.size + 1 := by simp
  go_enter Tryz.func17, Tryz.ntmps17
  go_upto_region 2 with fail
  generalize w.alloc (.cells #[.slice a len cap, .int .i64 0, .int .u64 0] 59) = wB at hR0 hW hsz ⊢
  go_wp2_with (first
    | (go_at_call 34; refine (anySet_r w.heap.size w.heap.size 0 wB hR0 (by omega)).mono ?_; rintro e w1 ⟨v1, rfl, l, ho1, hl1, hR1, hO1⟩; obtain ⟨a1, p1, hv1⟩ := ho1.shape; subst hv1; have hs1 := hO1.size)
    | (go_at_call 35; refine (amongL_r 7 (fun i => [0, 1, 3, 6, 60, 61, -1].getD i 0) (by omega) (by omega) w.heap.size w.heap.size _ w1.heap.size (w1.alloc (.cells #[.int .i64 0, .int .i64 1, .int .i64 3, .int .i64 6, .int .i64 60, .int .i64 61, .int .i64 (-1)] 3)) (hR1.below (by go_grown)) (by omega) (seven_cells w1) (by omega)).mono ?_; rintro e w2 ⟨k, hk, rfl, hR2, hO2⟩; have hmm : -1 ≤ ([0, 1, 3, 6, 60, 61, -1] : List Int).getD k 0 ∧ ([0, 1, 3, 6, 60, 61, -1] : List Int).getD k 0 ≤ 61 := seven k hk; generalize ([0, 1, 3, 6, 60, 61, -1] : List Int).getD k 0 = mm at hmm ⊢))
  go_ret2
  exact ⟨_, _, rfl, l, ((ho1.mono (show w.heap.size + 1 ≤ wB.heap.size by omega)).later (by go_grown)).only hO2 (Nat.lt_succ_self _) |>.mono (Nat.le_succ _), hl1, hmm, hW.trans (((hO1.below (by omega) (Nat.le_refl _)).alloc (by omega) _).trans (hO2.below (by simp; omega) (Nat.le_refl _)))⟩
end Go.Proofs.YtoefllklngnmeaaGreatDoor
