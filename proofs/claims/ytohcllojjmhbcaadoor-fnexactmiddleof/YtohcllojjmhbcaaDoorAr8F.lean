/-
  The fan as a list of triangles and twice the area by it, as the program reckons them (contracts for the walks).
  Conditions: as each theorem states them.
-/
import Derived.Test.YtohcllojjmhbcaaDoorAr8R
namespace Go.Proofs.YtohcllojjmhbcaaDoor
open Go.RowKit Go.Shelf
set_option linter.unusedVariables false
set_option maxRecDepth 8000
theorem info_tr : (Tryd.prog.info? 69).map (fun i => (i.zero, i.size, i.bytes)) = some (some (.agg #[.int .i64 0, .int .i64 0, .int .i64 0, .int .i64 0, .int .i64 0, .int .i64 0]), 6, 48) := by kernel_rfl
/-- The points of the first k triangles of the fan, one behind the other. -/
def fanP (l : List (Int × Int)) : Nat → List (Int × Int)
  | 0 => []
  | k + 1 => fanP l k ++ [pt l 0, pt l (k + 1), pt l (k + 2)]
theorem fanP_len (l : List (Int × Int)) : ∀ k, (fanP l k).length = k * 3
  | 0 => rfl
  | k + 1 => by unfold fanP; rw [List.length_append, fanP_len l k]; simp; omega
theorem fanP_at (l : List (Int × Int)) : ∀ (k i : Nat), i < k → pt (fanP l k) (i * 3) = pt l 0 ∧ pt (fanP l k) (i * 3 + 1) = pt l (i + 1) ∧ pt (fanP l k) (i * 3 + 2) = pt l (i + 2)
  | 0, i, h => absurd h (Nat.not_lt_zero _)
  | k + 1, i, h => by
    have hl := fanP_len l k
    unfold fanP
    by_cases hi : i < k
    · have := fanP_at l k i hi
      unfold pt px py at this ⊢
      simp only [List.getD_eq_getElem?_getD] at this ⊢
      rw [List.getElem?_append_left (by omega), List.getElem?_append_left (by omega), List.getElem?_append_left (by omega)]
      exact this
    · obtain rfl : i = k := by omega
      unfold pt px py
      simp only [List.getD_eq_getElem?_getD]
      rw [List.getElem?_append_right (by omega), List.getElem?_append_right (by omega), List.getElem?_append_right (by omega)]
      rw [hl, show i * 3 - i * 3 = 0 by omega, show i * 3 + 1 - i * 3 = 1 by omega, show i * 3 + 2 - i * 3 = 2 by omega]
      exact ⟨rfl, rfl, rfl⟩
theorem ownsRow_later {N t s n : Nat} {v : Value} {xs : List Value} {w w' : World} (h : w.ownsRow N t s v n xs) (hb : Below w.heap.size w w') : w'.ownsRow N t s v n xs := by
  refine ⟨h.1, ?_⟩
  rcases h.2 with h | ⟨g, cap, cur, e, h1, h2, h3⟩
  · exact .inl h
  · exact .inr ⟨g, cap, cur, e, h1, (hb.block g (Array.getElem?_eq_some_iff.1 h2).1).trans h2, h3⟩
theorem grewT {N t s n : Nat} {v : Value} {xs : List Value} {w w' : World} (ho : w.ownsRow N t s v n xs) (hg : w.grownBy w' v.ownBlock) (hN : N ≤ w.heap.size) : Below N w w' :=
  (Below.refl _ _).grown hg hN (fun k hk => (ho.lt k hk).1)
theorem tri_src (w : World) (x0 y0 x1 y1 x2 y2 : Int) : ∀ j u, (cells [(x0, y0), (x1, y1), (x2, y2)])[j]? = some u → (w.alloc (.cells #[.int .i64 x0, .int .i64 y0, .int .i64 x1, .int .i64 y1, .int .i64 x2, .int .i64 y2] 69)).cell? ((⟨w.heap.size, 0, none⟩ : Addr).add j) = some u := by
  intro j u hu
  have hj : j < 6 := by
    have := (List.getElem?_eq_some_iff.1 hu).1
    simpa [cells] using this
  rw [Go.WideShapes.add_plain]
  have hc : j = 0 ∨ j = 1 ∨ j = 2 ∨ j = 3 ∨ j = 4 ∨ j = 5 := by omega
  rcases hc with rfl | rfl | rfl | rfl | rfl | rfl <;> (simp [cells] at hu; subst hu; simp [go_sem])
set_option maxHeartbeats 4000000 in
theorem fanOf_c (l : List (Int × Int)) (a : Option Addr) (len cap : Nat) (w : World) (hl : l.length = len) (h60 : len ≤ 60) (hA : At w.heap.size a l w) :
    Calls Tryd.prog 52 #[.slice a len cap] w fun e w' => ∃ v, e = .returned v ∧ w'.ownsRow w.heap.size 69 6 v (l.length - 2) (cells (fanP l (l.length - 2))) ∧ Below w.heap.size w w' := by
  subst hl
  have HA := hid hA
  clear hA
  obtain ⟨i0, hi, hz0, hz1, hz2⟩ := info_parts info_tr
  go_enter Tryd.func52, Tryd.ntmps52
  go_wp2
  go_loopw [3, 4] (fun v i wr => ∃ k : Nat, 2 ≤ k ∧ (k = 2 ∨ k ≤ l.length) ∧ i = .int .i64 (k : Int) ∧ wr.ownsRow w.heap.size 69 6 v (k - 2) (cells (fanP l (k - 2))) ∧ Below w.heap.size w wr) (fun _ i _ => l.length - (intOf i).toNat)
  case atStart => exact ⟨2, Nat.le_refl _, .inl rfl, rfl, World.ownsRow_nil _ _ _ _, by go_grown⟩
  case round =>
    obtain ⟨k, hk2, hk, rfl, hO, hbw⟩ := hrel
    have HO := hid hO
    by_cases hkl : k < l.length
    · obtain ⟨b, off, rfl, hbN, g0, g1⟩ := HA.out 0 (by omega)
      obtain ⟨b1, off1, e1, _, g2, g3⟩ := HA.out (k - 1) (by omega)
      obtain ⟨b2, off2, e2, _, g4, g5⟩ := HA.out k (by omega)
      obtain ⟨rfl, rfl⟩ : b = b1 ∧ off = off1 := by simpa using e1
      obtain ⟨rfl, rfl⟩ : b = b2 ∧ off = off2 := by simpa using e2
      clear e1 e2
      simp only [Nat.zero_mul, Nat.add_zero] at g0 g1
      have HT := hid (show fanP l (k + 1 - 2) = fanP l (k - 2) ++ [(px l 0, py l 0), (px l (k - 1), py l (k - 1)), (px l k, py l k)] by
        obtain ⟨j, rfl⟩ : ∃ j, k = j + 2 := ⟨k - 2, by omega⟩
        rfl)
      obtain ⟨x0, hx0⟩ : ∃ x, px l 0 = x := ⟨_, rfl⟩
      obtain ⟨y0, hy0⟩ : ∃ x, py l 0 = x := ⟨_, rfl⟩
      obtain ⟨x1, hx1⟩ : ∃ x, px l (k - 1) = x := ⟨_, rfl⟩
      obtain ⟨y1, hy1⟩ : ∃ x, py l (k - 1) = x := ⟨_, rfl⟩
      obtain ⟨x2, hx2⟩ : ∃ x, px l k = x := ⟨_, rfl⟩
      obtain ⟨y2, hy2⟩ : ∃ x, py l k = x := ⟨_, rfl⟩
      rw [hx0, hy0, hx1, hy1, hx2, hy2] at HT
      rw [hx0] at g0
      rw [hy0] at g1
      rw [hx1] at g2
      rw [hy1] at g3
      rw [hx2] at g4
      rw [hy2] at g5
      clear hx0 hy0 hx1 hy1 hx2 hy2
      obtain ⟨m, hm⟩ : ∃ m, k - 1 = m := ⟨_, rfl⟩
      have hc : (k : Int) - 1 = (m : Int) := by omega
      have hwm : IntKind.i64.wrap (m : Int) = (m : Int) := by rw [IntKind.wrap_i64]; omega
      rw [hm] at g2 g3
      have m0 : (0 : Int) ≤ (m : Int) := by omega
      have m1 : (m : Int) < (l.length : Int) := by omega
      have k0 : (0 : Int) ≤ (k : Int) := by omega
      have k1 : (k : Int) < (l.length : Int) := by omega
      have n0 : 0 < l.length := by omega
      have hsz := hbw.size
      clear hm hO
      go_upto_region 5 with fail
      refine wp_region_held_drew (S := (fun u => Below w.heap.size w u)) (by kernel_rfl) ?_ (fun hHeld => ?_)
      · exact hbw.drew
      refine wpAnyH_take (i := 0) (oi := { dst := some 11, op := Op.move (Operand.tmp 3), type := 66, pos := "l4_inside.go:97", after := #[], guard := none }) (v := ?v2yx0) rfl (by kernel_rfl) (by kernel_rfl) (by kernel_rfl) (fun _ _ _ h => h) (Or.inl ⟨by rfl, ?hy2yx0⟩) (by with_reducible assumption) ?rest2yx0
      case hy2yx0 => (intro wS hSw; (try dsimp only at hSw); have z0 := cell_later hSw g0; have z1 := cell_later hSw g1; have z2 := cell_later hSw g2; have z3 := cell_later hSw g3; have z4 := cell_later hSw g4; have z5 := cell_later hSw g5; clear hSw; go_simp; try with_reducible rfl)
      case' rest2yx0 => (try simp only [Act.put, List.setIfInBounds_toArray, List.set_cons_zero, List.set_cons_succ])
      refine wpAnyH_take (i := 1) (oi := { dst := some 12, op := Op.move (Operand.tmp 0), type := 24, pos := "l4_inside.go:97", after := #[], guard := none }) (v := ?v3yx1) rfl (by kernel_rfl) (by kernel_rfl) (by kernel_rfl) (fun _ _ _ h => h) (Or.inl ⟨by rfl, ?hy3yx1⟩) (by with_reducible assumption) ?rest3yx1
      case hy3yx1 => (intro wS hSw; (try dsimp only at hSw); have z0 := cell_later hSw g0; have z1 := cell_later hSw g1; have z2 := cell_later hSw g2; have z3 := cell_later hSw g3; have z4 := cell_later hSw g4; have z5 := cell_later hSw g5; clear hSw; go_simp; try with_reducible rfl)
      case' rest3yx1 => (try simp only [Act.put, List.setIfInBounds_toArray, List.set_cons_zero, List.set_cons_succ])
      refine wpAnyH_take (i := 2) (oi := { dst := some 13, op := Op.indexAddr 24 (Operand.tmp 12) (Operand.const (Value.int IntKind.i64 0)), type := 0, pos := "l4_inside.go:97", after := #[{ on := 1, ground := Ground.data }], guard := none }) (v := ?v4yx2) rfl (by kernel_rfl) (by kernel_rfl) (by kernel_rfl) (fun _ _ _ h => h) (Or.inl ⟨by rfl, ?hy4yx2⟩) (by with_reducible assumption) ?rest4yx2
      case hy4yx2 => (intro wS hSw; (try dsimp only at hSw); have z0 := cell_later hSw g0; have z1 := cell_later hSw g1; have z2 := cell_later hSw g2; have z3 := cell_later hSw g3; have z4 := cell_later hSw g4; have z5 := cell_later hSw g5; clear hSw; go_simp; try with_reducible rfl)
      case' rest4yx2 => (try simp only [Act.put, List.setIfInBounds_toArray, List.set_cons_zero, List.set_cons_succ])
      refine wpAnyH_take (i := 3) (oi := { dst := some 14, op := Op.load 26 (Operand.tmp 13), type := 26, pos := "l4_inside.go:97", after := #[{ on := 2, ground := Ground.data }], guard := none }) (v := ?v5yx3) rfl (by kernel_rfl) (by kernel_rfl) (by kernel_rfl) (fun _ _ _ h => h) (Or.inl ⟨by rfl, ?hy5yx3⟩) (by with_reducible assumption) ?rest5yx3
      case hy5yx3 => (intro wS hSw; (try dsimp only at hSw); have z0 := cell_later hSw g0; have z1 := cell_later hSw g1; have z2 := cell_later hSw g2; have z3 := cell_later hSw g3; have z4 := cell_later hSw g4; have z5 := cell_later hSw g5; clear hSw; go_simp; try with_reducible rfl)
      case' rest5yx3 => (try simp only [Act.put, List.setIfInBounds_toArray, List.set_cons_zero, List.set_cons_succ])
      refine wpAnyH_take (i := 4) (oi := { dst := some 15, op := Op.move (Operand.tmp 0), type := 24, pos := "l4_inside.go:97", after := #[], guard := none }) (v := ?v6yx4) rfl (by kernel_rfl) (by kernel_rfl) (by kernel_rfl) (fun _ _ _ h => h) (Or.inl ⟨by rfl, ?hy6yx4⟩) (by with_reducible assumption) ?rest6yx4
      case hy6yx4 => (intro wS hSw; (try dsimp only at hSw); have z0 := cell_later hSw g0; have z1 := cell_later hSw g1; have z2 := cell_later hSw g2; have z3 := cell_later hSw g3; have z4 := cell_later hSw g4; have z5 := cell_later hSw g5; clear hSw; go_simp; try with_reducible rfl)
      case' rest6yx4 => (try simp only [Act.put, List.setIfInBounds_toArray, List.set_cons_zero, List.set_cons_succ])
      refine wpAnyH_take (i := 5) (oi := { dst := some 16, op := Op.move (Operand.tmp 4), type := 3, pos := "l4_inside.go:97", after := #[], guard := none }) (v := ?v7yx5) rfl (by kernel_rfl) (by kernel_rfl) (by kernel_rfl) (fun _ _ _ h => h) (Or.inl ⟨by rfl, ?hy7yx5⟩) (by with_reducible assumption) ?rest7yx5
      case hy7yx5 => (intro wS hSw; (try dsimp only at hSw); have z0 := cell_later hSw g0; have z1 := cell_later hSw g1; have z2 := cell_later hSw g2; have z3 := cell_later hSw g3; have z4 := cell_later hSw g4; have z5 := cell_later hSw g5; clear hSw; go_simp; try with_reducible rfl)
      case' rest7yx5 => (try simp only [Act.put, List.setIfInBounds_toArray, List.set_cons_zero, List.set_cons_succ])
      refine wpAnyH_take (i := 6) (oi := { dst := some 17, op := Op.binOp BinOp.sub 3 (Operand.tmp 16) (Operand.const (Value.int IntKind.i64 1)) 3, type := 3, pos := "l4_inside.go:97", after := #[{ on := 5, ground := Ground.data }], guard := none }) (v := ?v8yx6) rfl (by kernel_rfl) (by kernel_rfl) (by kernel_rfl) (fun _ _ _ h => h) (Or.inl ⟨by rfl, ?hy8yx6⟩) (by with_reducible assumption) ?rest8yx6
      case hy8yx6 => (intro wS hSw; (try dsimp only at hSw); have z0 := cell_later hSw g0; have z1 := cell_later hSw g1; have z2 := cell_later hSw g2; have z3 := cell_later hSw g3; have z4 := cell_later hSw g4; have z5 := cell_later hSw g5; clear hSw; go_simp; try with_reducible rfl)
      case' rest8yx6 => (try simp only [Act.put, List.setIfInBounds_toArray, List.set_cons_zero, List.set_cons_succ])
      refine wpAnyH_take (i := 7) (oi := { dst := some 18, op := Op.indexAddr 24 (Operand.tmp 15) (Operand.tmp 17), type := 0, pos := "l4_inside.go:97", after := #[{ on := 4, ground := Ground.data }, { on := 6, ground := Ground.data }], guard := none }) (v := ?v9yx7) rfl (by kernel_rfl) (by kernel_rfl) (by kernel_rfl) (fun _ _ _ h => h) (Or.inl ⟨by rfl, ?hy9yx7⟩) (by with_reducible assumption) ?rest9yx7
      case hy9yx7 => (intro wS hSw; (try dsimp only at hSw); have z0 := cell_later hSw g0; have z1 := cell_later hSw g1; have z2 := cell_later hSw g2; have z3 := cell_later hSw g3; have z4 := cell_later hSw g4; have z5 := cell_later hSw g5; clear hSw; go_simp; try with_reducible rfl)
      case' rest9yx7 => (try simp only [Act.put, List.setIfInBounds_toArray, List.set_cons_zero, List.set_cons_succ])
      refine wpAnyH_take (i := 8) (oi := { dst := some 19, op := Op.load 26 (Operand.tmp 18), type := 26, pos := "l4_inside.go:97", after := #[{ on := 7, ground := Ground.data }], guard := none }) (v := ?v10yx8) rfl (by kernel_rfl) (by kernel_rfl) (by kernel_rfl) (fun _ _ _ h => h) (Or.inl ⟨by rfl, ?hy10yx8⟩) (by with_reducible assumption) ?rest10yx8
      case hy10yx8 => (intro wS hSw; (try dsimp only at hSw); have z0 := cell_later hSw g0; have z1 := cell_later hSw g1; have z2 := cell_later hSw g2; have z3 := cell_later hSw g3; have z4 := cell_later hSw g4; have z5 := cell_later hSw g5; clear hSw; go_simp; try with_reducible rfl)
      case' rest10yx8 => (try simp only [Act.put, List.setIfInBounds_toArray, List.set_cons_zero, List.set_cons_succ])
      refine wpAnyH_take (i := 9) (oi := { dst := some 20, op := Op.move (Operand.tmp 0), type := 24, pos := "l4_inside.go:97", after := #[], guard := none }) (v := ?v11yx9) rfl (by kernel_rfl) (by kernel_rfl) (by kernel_rfl) (fun _ _ _ h => h) (Or.inl ⟨by rfl, ?hy11yx9⟩) (by with_reducible assumption) ?rest11yx9
      case hy11yx9 => (intro wS hSw; (try dsimp only at hSw); have z0 := cell_later hSw g0; have z1 := cell_later hSw g1; have z2 := cell_later hSw g2; have z3 := cell_later hSw g3; have z4 := cell_later hSw g4; have z5 := cell_later hSw g5; clear hSw; go_simp; try with_reducible rfl)
      case' rest11yx9 => (try simp only [Act.put, List.setIfInBounds_toArray, List.set_cons_zero, List.set_cons_succ])
      refine wpAnyH_take (i := 10) (oi := { dst := some 21, op := Op.move (Operand.tmp 4), type := 3, pos := "l4_inside.go:97", after := #[], guard := none }) (v := ?v12yx10) rfl (by kernel_rfl) (by kernel_rfl) (by kernel_rfl) (fun _ _ _ h => h) (Or.inl ⟨by rfl, ?hy12yx10⟩) (by with_reducible assumption) ?rest12yx10
      case hy12yx10 => (intro wS hSw; (try dsimp only at hSw); have z0 := cell_later hSw g0; have z1 := cell_later hSw g1; have z2 := cell_later hSw g2; have z3 := cell_later hSw g3; have z4 := cell_later hSw g4; have z5 := cell_later hSw g5; clear hSw; go_simp; try with_reducible rfl)
      case' rest12yx10 => (try simp only [Act.put, List.setIfInBounds_toArray, List.set_cons_zero, List.set_cons_succ])
      refine wpAnyH_take (i := 11) (oi := { dst := some 22, op := Op.indexAddr 24 (Operand.tmp 20) (Operand.tmp 21), type := 0, pos := "l4_inside.go:97", after := #[{ on := 9, ground := Ground.data }, { on := 10, ground := Ground.data }], guard := none }) (v := ?v13yx11) rfl (by kernel_rfl) (by kernel_rfl) (by kernel_rfl) (fun _ _ _ h => h) (Or.inl ⟨by rfl, ?hy13yx11⟩) (by with_reducible assumption) ?rest13yx11
      case hy13yx11 => (intro wS hSw; (try dsimp only at hSw); have z0 := cell_later hSw g0; have z1 := cell_later hSw g1; have z2 := cell_later hSw g2; have z3 := cell_later hSw g3; have z4 := cell_later hSw g4; have z5 := cell_later hSw g5; clear hSw; go_simp; try with_reducible rfl)
      case' rest13yx11 => (try simp only [Act.put, List.setIfInBounds_toArray, List.set_cons_zero, List.set_cons_succ])
      refine wpAnyH_take (i := 12) (oi := { dst := some 23, op := Op.load 26 (Operand.tmp 22), type := 26, pos := "l4_inside.go:97", after := #[{ on := 11, ground := Ground.data }], guard := none }) (v := ?v14yx12) rfl (by kernel_rfl) (by kernel_rfl) (by kernel_rfl) (fun _ _ _ h => h) (Or.inl ⟨by rfl, ?hy14yx12⟩) (by with_reducible assumption) ?rest14yx12
      case hy14yx12 => (intro wS hSw; (try dsimp only at hSw); have z0 := cell_later hSw g0; have z1 := cell_later hSw g1; have z2 := cell_later hSw g2; have z3 := cell_later hSw g3; have z4 := cell_later hSw g4; have z5 := cell_later hSw g5; clear hSw; go_simp; try with_reducible rfl)
      case' rest14yx12 => (try simp only [Act.put, List.setIfInBounds_toArray, List.set_cons_zero, List.set_cons_succ])
      refine wpAnyH_take (i := 13) (oi := { dst := some 24, op := Op.build 69 #[(0, Operand.tmp 14), (1, Operand.tmp 19), (2, Operand.tmp 23)], type := 69, pos := "l4_inside.go:97", after := #[{ on := 3, ground := Ground.data }, { on := 8, ground := Ground.data }, { on := 12, ground := Ground.data }], guard := none }) (v := ?v15yx13) rfl (by kernel_rfl) (by kernel_rfl) (by kernel_rfl) (fun _ _ _ h => h) (Or.inl ⟨by rfl, ?hy15yx13⟩) (by with_reducible assumption) ?rest15yx13
      case hy15yx13 => (intro wS hSw; (try dsimp only at hSw); have z0 := cell_later hSw g0; have z1 := cell_later hSw g1; have z2 := cell_later hSw g2; have z3 := cell_later hSw g3; have z4 := cell_later hSw g4; have z5 := cell_later hSw g5; clear hSw; go_simp; try with_reducible rfl)
      case' rest15yx13 => (try simp only [Act.put, List.setIfInBounds_toArray, List.set_cons_zero, List.set_cons_succ])
      refine wpAnyH_ready (rs := [14]) (by kernel_rfl) (by simp) ?_
      refine AllReadyH.cons (o := { dst := some 25, op := Op.buildSlice 66 1 #[(0, Operand.tmp 24)], type := 66, pos := "l4_inside.go:97", after := #[{ on := 13, ground := Ground.data }], guard := none }) rfl (fun K hK => ?_) AllReadyH.nil
      go_simp
      refine hK.out _ _ ?_ (fun hHeld => ?_)
      · exact hbw.trans (by go_grown)
      clear hK K
      try simp only [Act.put, List.setIfInBounds_toArray, List.set_cons_zero, List.set_cons_succ]
      refine wpAnyH_ready (rs := [15]) (by kernel_rfl) (by simp) ?_
      refine AllReadyH.cons (o := { dst := some 26, op := Op.call { callee := Callee.builtin Builtin.append, args := #[Operand.tmp 11, Operand.tmp 25], argTypes := #[66, 66] }, type := 66, pos := "l4_inside.go:97", after := #[{ on := 0, ground := Ground.data }, { on := 14, ground := Ground.data }], guard := none }) rfl (fun K hK => ?_) AllReadyH.nil
      rw [if_pos (by rfl)]
      refine wp_append_own _ (.tmp 11) (.tmp 25) 66 rfl w.heap.size 69 i0 _ 6 48 Tryd.underlying66 hi hz0 hz1 hz2 rfl (by decide) u3 (k - 2) (cells (fanP l (k - 2))) rfl (ownsRow_later HO.out (by go_grown)) ⟨wr.heap.size, 0, none⟩ 1 1 (cells [(x0, y0), (x1, y1), (x2, y2)]) rfl rfl ?nw (cells_ones _) (by unfold maxLen; omega) (by omega) (by simp; omega) ?_
      case nw => exact tri_src wr.drew _ _ _ _ _ _
      intro v2 w2 hO2 hg2 _
      have HB2 := (grewT (ownsRow_later HO.out (by go_grown : Below wr.heap.size wr _)) hg2 (by simp; omega))
      refine hK.out _ _ ?_ (fun hHeld => ?_)
      · exact (hbw.trans (by go_grown)).trans HB2
      clear hK K
      try simp only [Act.put, List.setIfInBounds_toArray, List.set_cons_zero, List.set_cons_succ]
      refine wpAnyH_take (i := 16) (oi := { dst := some 3, op := Op.assign (Operand.tmp 26), type := 66, pos := "l4_inside.go:97", after := #[{ on := 15, ground := Ground.data }, { on := 15, ground := Ground.chain }, { on := 0, ground := Ground.phase }, { on := 1, ground := Ground.phase }, { on := 2, ground := Ground.phase }, { on := 3, ground := Ground.phase }, { on := 4, ground := Ground.phase }, { on := 5, ground := Ground.phase }, { on := 6, ground := Ground.phase }, { on := 7, ground := Ground.phase }, { on := 8, ground := Ground.phase }, { on := 9, ground := Ground.phase }, { on := 10, ground := Ground.phase }, { on := 11, ground := Ground.phase }, { on := 12, ground := Ground.phase }, { on := 13, ground := Ground.phase }, { on := 14, ground := Ground.phase }, { on := 15, ground := Ground.phase }], guard := none }) (v := ?v16yx16) rfl (by kernel_rfl) (by kernel_rfl) (by kernel_rfl) (fun _ _ _ h => h) (Or.inl ⟨by rfl, ?hy16yx16⟩) (by with_reducible assumption) ?rest16yx16
      case hy16yx16 => (intro wS hSw; (try dsimp only at hSw); have z0 := cell_later hSw g0; have z1 := cell_later hSw g1; have z2 := cell_later hSw g2; have z3 := cell_later hSw g3; have z4 := cell_later hSw g4; have z5 := cell_later hSw g5; clear hSw; go_simp; try with_reducible rfl)
      case' rest16yx16 => (try simp only [Act.put, List.setIfInBounds_toArray, List.set_cons_zero, List.set_cons_succ])
      refine wpAnyH_done (by kernel_rfl) ?_ _
      go_wp2
      go_roundw
      case rel => exact ⟨k + 1, by omega, .inr (by omega), by go_num, by rw [HT.out, cells_append, show k + 1 - 2 = k - 2 + 1 by omega]; exact hO2, by with_reducible assumption⟩
      case measure => simp [intOf]; omega
    · go_wp2
      go_ret
      exact ⟨_, rfl, by rw [show l.length - 2 = k - 2 by omega]; exact HO.out, hbw⟩
/-- The cells of the k-th triangle of the fan. -/
theorem fan_cells {l : List (Int × Int)} {N n g cap k : Nat} {w : World} (h : w.ownsRow N 69 6 (.slice (some ⟨g, 0, none⟩) n cap) n (cells (fanP l n))) (hk : k < n) :
    w.cell? ⟨g, k * 6, none⟩ = some (.int .i64 (px l 0)) ∧ w.cell? ⟨g, k * 6 + 1, none⟩ = some (.int .i64 (py l 0)) ∧ w.cell? ⟨g, k * 6 + 2, none⟩ = some (.int .i64 (px l (k + 1))) ∧ w.cell? ⟨g, k * 6 + 3, none⟩ = some (.int .i64 (py l (k + 1))) ∧ w.cell? ⟨g, k * 6 + 4, none⟩ = some (.int .i64 (px l (k + 2))) ∧ w.cell? ⟨g, k * 6 + 5, none⟩ = some (.int .i64 (py l (k + 2))) := by
  have hl := fanP_len l n
  obtain ⟨e0, e1, e2⟩ := fanP_at l n k hk
  simp only [pt, Prod.mk.injEq] at e0 e1 e2
  have c : ∀ j, j < 6 → w.cell? ⟨g, k * 6 + j, none⟩ = some (cel (fanP l n) (k * 6 + j)) := fun j hj => by
    rw [h.cellAt _ (by omega), cells_get _ _ (by omega)]
  have c0 := c 0 (by omega)
  have c1 := c 1 (by omega)
  have c2 := c 2 (by omega)
  have c3 := c 3 (by omega)
  have c4 := c 4 (by omega)
  have c5 := c 5 (by omega)
  rw [show k * 6 + 0 = k * 3 * 2 by omega, cel0, e0.1] at c0
  rw [show cel (fanP l n) (k * 6 + 1) = .int .i64 (py l 0) by rw [show k * 6 + 1 = k * 3 * 2 + 1 by omega, cel1, e0.2]] at c1
  rw [show cel (fanP l n) (k * 6 + 2) = .int .i64 (px l (k + 1)) by rw [show k * 6 + 2 = (k * 3 + 1) * 2 by omega, cel0, e1.1]] at c2
  rw [show cel (fanP l n) (k * 6 + 3) = .int .i64 (py l (k + 1)) by rw [show k * 6 + 3 = (k * 3 + 1) * 2 + 1 by omega, cel1, e1.2]] at c3
  rw [show cel (fanP l n) (k * 6 + 4) = .int .i64 (px l (k + 2)) by rw [show k * 6 + 4 = (k * 3 + 2) * 2 by omega, cel0, e2.1]] at c4
  rw [show cel (fanP l n) (k * 6 + 5) = .int .i64 (py l (k + 2)) by rw [show k * 6 + 5 = (k * 3 + 2) * 2 + 1 by omega, cel1, e2.2]] at c5
  rw [show k * 6 = k * 3 * 2 by omega] 
  exact ⟨c0, by rw [show k * 3 * 2 + 1 = k * 6 + 1 by omega]; exact c1, by rw [show k * 3 * 2 + 2 = k * 6 + 2 by omega]; exact c2, by rw [show k * 3 * 2 + 3 = k * 6 + 3 by omega]; exact c3, by rw [show k * 3 * 2 + 4 = k * 6 + 4 by omega]; exact c4, by rw [show k * 3 * 2 + 5 = k * 6 + 5 by omega]; exact c5⟩
theorem ownsRow_shape {w : World} {N t s n : Nat} {v : Value} {xs : List Value} (h : w.ownsRow N t s v n xs) : ∃ a cap, v = .slice a n cap ∧ (0 < n → ∃ g, a = some ⟨g, 0, none⟩) := by
  rcases h.2 with ⟨rfl, rfl⟩ | ⟨g, cap, cur, e, _⟩
  · exact ⟨none, 0, rfl, fun h => absurd h (Nat.not_lt_zero _)⟩
  · exact ⟨_, _, e, fun _ => ⟨g, rfl⟩⟩
/-- The function that twiceArea hands in. -/
theorem ta1_c (l : List (Int × Int)) (k n B N : Nat) (v : Value) (wu : World) (hG : allG l) (hn : n + 2 ≤ l.length) (h60 : l.length ≤ 60) (hk : k < n) (hO : wu.ownsRow N 69 6 v n (cells (fanP l n))) (hB : BoxV wu B v 66) :
    Calls Tryd.prog 82 #[.int .i64 (k : Int), .pointer (some ⟨B, 0, none⟩)] wu fun e u' => e = .returned (.int .i64 (sd (pt l 0) (pt l (k + 1)) (pt l (k + 2)))) ∧ Below wu.heap.size wu u' := by
  obtain ⟨a, cap, rfl, hg⟩ := ownsRow_shape hO
  obtain ⟨g, rfl⟩ := hg (by omega)
  obtain ⟨q0, q1, q2, q3, q4, q5⟩ := fan_cells hO hk
  have HE := hid (crossW_eq (hG _ (pt_mem (l := l) (i := 0) (by omega))) (hG _ (pt_mem (l := l) (i := k + 1) (by omega))) (hG _ (pt_mem (l := l) (i := k + 2) (by omega))))
  have qb := hB.c0
  have k0 : (0 : Int) ≤ (k : Int) := by omega
  have k1 : (k : Int) < (n : Int) := by omega
  clear hB hO hG hn h60
  go_enter Tryd.func82, Tryd.ntmps82
  go_wp2_with (go_at_call 83; refine (twA_c _ _ _ _ _ _ _).mono ?_; rintro e w1 ⟨rfl, hb⟩)
  go_ret
  exact ⟨ret_int HE.out, hb⟩
theorem enter82 (xs : Array Value) (u : World) : Sem.run Tryd.prog (callFunc 82 xs) u = Result.ok (Next.enter 82 xs) u := by
  simp [callFunc, go_sem, Tryd.f82]
set_option maxHeartbeats 4000000 in
theorem areaI_c (l : List (Int × Int)) (a : Option Addr) (len cap : Nat) (w : World) (hl : l.length = len) (h60 : len ≤ 60) (hA : At w.heap.size a l w) (hG : allG l) :
    Calls Tryd.prog 45 #[.slice a len cap] w fun e w' => e = .returned (.int .i64 (area8 l)) ∧ Below w.heap.size w w' := by
  subst hl
  have HA := hid hA
  have HG := hid hG
  clear hA hG
  have HS := hid (fun (u : World) (B : Nat) (v : Value) (hO : u.ownsRow w.heap.size 69 6 v (l.length - 2) (cells (fanP l (l.length - 2)))) (hB : BoxV u B v 66) =>
    sumOf_c 82 B (fun i => sd (pt l 0) (pt l (i + 1)) (pt l (i + 2))) (l.length - 2) u
      (fun x k hx hk => ta1_c l k (l.length - 2) B w.heap.size v x HG.out (by omega) h60 hk (ownsRow_later hO hx) (hB.later hx)) enter82
      (fun k hk => by
        rw [fan_sum, IntKind.wrap_i64]
        by_cases h2 : k + 2 ≤ l.length
        · have := fanA_small HG.out k h2; omega
        · rw [show k = 0 by omega]; rfl) (by omega))
  have E := hid (show area8 l = sumT (fun i => sd (pt l 0) (pt l (i + 1)) (pt l (i + 2))) (l.length - 2) by rw [fan_sum]; rfl)
  generalize hF : sumT (fun i => sd (pt l 0) (pt l (i + 1)) (pt l (i + 2))) (l.length - 2) = F at HS E
  clear hF
  go_enter Tryd.func45, Tryd.ntmps45
  go_wp2_with (first
    | (go_at_call 52; refine (fanOf_c l _ _ _ _ rfl h60 HA.out).mono ?_; rintro e w1 ⟨v, rfl, hO, hb1⟩; have KB := BoxV.new w1 v 66; have hO2 := ownsRow_later hO (by go_grown : Below w1.heap.size w1 (w1.alloc (.cells #[v] 66))); obtain ⟨a3, c3, hv3, _⟩ := ownsRow_shape hO; have HS2 := hid (HS.out _ _ _ hO2 KB); have HB1 := hid (grew hb1 (by go_grown : Below w1.heap.size w1 (w1.alloc (.cells #[v] 66)))); have hsz := hb1.size; subst hv3; clear hO hO2 hb1 KB)
    | (go_at_call 81; refine HS2.out.mono ?_; rintro e w2 ⟨rfl, hb2⟩))
  go_ret
  exact ⟨ret_int E.out.symm, grew HB1.out hb2⟩
end Go.Proofs.YtohcllojjmhbcaaDoor
