/-
  The fan of a hull: the program's function and the specification's (contracts for the walks).
  Conditions: as each theorem states them.
-/
import Derived.Test.YtcghpepkphphbaaDoorFPush
import Derived.Test.YtcghpepkphphbaaDoorTop4
namespace Go.Proofs.YtcghpepkphphbaaDoor
open Go.RowKit Go.Shelf
set_option linter.unusedVariables false
def fanOk (l : List (Int × Int)) : Bool := ghB l && decide (3 ≤ l.length)
def fanV (l : List (Int × Int)) : List (List (Int × Int)) := if fanOk l = true then fanTo l (l.length - 2) else []
theorem ret_vb' {v : Value} {a b : Bool} (k : a = b) : Ending.returned (.tuple #[v, .bool a]) = .returned (.tuple #[v, .bool b]) := by rw [k]
theorem ownNew {N : Nat} (w w' : World) (x0 y0 x1 y1 x2 y2 : Int) (hb : Below (w.heap.size + 1) (w.alloc (.cells #[.int .i64 x0, .int .i64 y0, .int .i64 x1, .int .i64 y1, .int .i64 x2, .int .i64 y2] 26)) w') (hN : N ≤ w.heap.size) : OwnC N (.slice (some ⟨w.heap.size, 0, none⟩) 3 3) [(x0, y0), (x1, y1), (x2, y2)] w' := by
  have e : w'.heap[w.heap.size]? = some (.cells #[.int .i64 x0, .int .i64 y0, .int .i64 x1, .int .i64 y1, .int .i64 x2, .int .i64 y2] 26) := (hb.block _ (Nat.lt_succ_self _)).trans (heap_alloc_new _ _)
  exact ownC_of (l := [(x0, y0), (x1, y1), (x2, y2)]) hN e (Nat.le_refl _) (by unfold maxLen; decide) (by simp) (by simp [cells])
set_option maxHeartbeats 8000000 in
set_option maxRecDepth 8000 in
theorem fanSpec_c (l : List (Int × Int)) (a : Option Addr) (len cap : Nat) (w : World) (hl : l.length = len) (h1 : len ≤ 1048576) (hA : At w.heap.size a l w) :
    Calls Tryd.prog 29 #[.slice a len cap] w fun e w' => ∃ v vs, e = .returned (.tuple #[v, .bool (fanOk l)]) ∧ OwnSS w.heap.size v (fanV l) vs w' ∧ Below w.heap.size w w' := by
  subst hl
  have HA := hid hA
  clear hA
  obtain ⟨i0, hi, hz0, hz1, hz2⟩ := info_parts info_pt
  obtain ⟨is, hsi, hs0, hs1, hs2⟩ := info_parts info_sl
  cases hG : ghB l
  · have HK := hid (show fanOk l = false by unfold fanOk; rw [hG]; rfl)
    go_enter Tryd.func29, Tryd.ntmps29
    go_wp2_with (go_at_call 46; refine (goodHullSpec_c l _ _ _ _ rfl h1 HA.out).mono ?_; rw [hG]; rintro e w1 ⟨rfl, hb1⟩)
    go_ret2
    exact ⟨_, [], ret_vb' HK.out.symm, by unfold fanV; rw [HK.out]; exact OwnSS.nil _ _, hb1⟩
  · by_cases h3 : 3 ≤ l.length
    · have HK := hid (show fanOk l = true by unfold fanOk; rw [hG, decide_eq_true h3]; rfl)
      have H60 := hid (ghB_len hG)
      have hd3 : decide ((l.length : Int) < 3) = false := decide_eq_false (by omega)
      go_enter Tryd.func29, Tryd.ntmps29
      go_wp2_with (go_at_call 46; refine (goodHullSpec_c l _ _ _ _ rfl h1 HA.out).mono ?_; rw [hG]; rintro e w1 ⟨rfl, hb1⟩)
      clear hG hd3
      go_loopw [4, 5] (fun o ii wr => ∃ j : Nat, j + 2 ≤ l.length ∧ ii = .int .i64 ((j + 1 : Nat) : Int) ∧ ∃ vs, OwnSS w.heap.size o (fanTo l j) vs wr ∧ Below w.heap.size w wr) (fun _ ii _ => l.length - (intOf ii).toNat)
      case atStart => exact ⟨0, by omega, rfl, [], OwnSS.nil _ _, hb1⟩
      case round =>
        clear hb1
        obtain ⟨j, hj, rfl, vs, hO, hbw⟩ := hrel
        have HO := hid hO
        have hvl : vs.length = (fanTo l j).length := hO.len
        have hsz := hbw.size
        have hfl := fanTo_len l j
        obtain ⟨a3, c3, hv3⟩ := hO.shape
        subst hv3
        clear hO
        by_cases hjl : j + 2 < l.length
        · obtain ⟨m, hm⟩ : ∃ m, m = j + 2 := ⟨_, rfl⟩
          obtain ⟨m1, hm1⟩ : ∃ m1, m1 = j + 1 := ⟨_, rfl⟩
          obtain ⟨b, off, ea, hbN, g0, g1⟩ := HA.out 0 (by omega)
          obtain ⟨b1, off1, e1, _, g2, g3⟩ := HA.out m1 (by omega)
          obtain ⟨b2, off2, e2, _, g4, g5⟩ := HA.out m (by omega)
          subst ea
          obtain ⟨rfl, rfl⟩ : b = b1 ∧ off = off1 := by simpa using e1
          obtain ⟨rfl, rfl⟩ : b = b2 ∧ off = off2 := by simpa using e2
          clear e1 e2
          simp only [Nat.zero_mul, Nat.add_zero] at g0 g1
          have HT : fanT l j = [(px l 0, py l 0), (px l m1, py l m1), (px l m, py l m)] := by rw [hm, hm1]; rfl
          obtain ⟨x0, hx0⟩ : ∃ x, px l 0 = x := ⟨_, rfl⟩
          obtain ⟨y0, hy0⟩ : ∃ x, py l 0 = x := ⟨_, rfl⟩
          obtain ⟨x1, hx1⟩ : ∃ x, px l m1 = x := ⟨_, rfl⟩
          obtain ⟨y1, hy1⟩ : ∃ x, py l m1 = x := ⟨_, rfl⟩
          obtain ⟨x2, hx2⟩ : ∃ x, px l m = x := ⟨_, rfl⟩
          obtain ⟨y2, hy2⟩ : ∃ x, py l m = x := ⟨_, rfl⟩
          rw [hx0, hy0, hx1, hy1, hx2, hy2] at HT
          rw [hx0] at g0
          rw [hy0] at g1
          rw [hx1] at g2
          rw [hy1] at g3
          rw [hx2] at g4
          rw [hy2] at g5
          have HT' := hid HT
          clear hx0 hy0 hx1 hy1 hx2 hy2 HT
          have hw1 : IntKind.i64.wrap ((m1 : Int) + 1) = (m : Int) := by rw [IntKind.wrap_i64]; omega
          have j0 : (0 : Int) ≤ (m : Int) := by omega
          have j1 : (m : Int) < (l.length : Int) := by omega
          have j2 : (0 : Int) ≤ (m1 : Int) := by omega
          have j3 : (m1 : Int) < (l.length : Int) := by omega
          have j4 : (0 : Int) < (l.length : Int) := by omega
          have j5 : 0 < l.length := by omega
          have j6 : (m1 : Int) + 1 < (l.length : Int) := by omega
          have hd : decide ((m1 : Int) + 1 < (l.length : Int)) = true := decide_eq_true j6
          rw [← hm1]
          have HMM := hid hm1
          have HM2 := hid hm
          have HLL : Hid ((fanTo l j).length + 1 ≤ 1048576) := by rw [hfl]; show _ ≤ _; omega
          clear hm hm1 hfl
          go_wp2
          refine wp_region_held_drew (S := (fun u => Below w.heap.size w u)) (by kernel_rfl) ?_ (fun hHeld => ?_)
          · exact hbw.drew
          refine wpAnyH_take (i := 0) (oi := { dst := some 21, op := Op.move (Operand.tmp 4), type := 44, pos := "l4_inside.go:91", after := #[], guard := none }) (v := ?v2rx0) rfl (by kernel_rfl) (by kernel_rfl) (by kernel_rfl) (fun _ _ _ h => h) (Or.inl ⟨by rfl, ?hy2rx0⟩) (by with_reducible assumption) ?rest2rx0
          case hy2rx0 => (intro w hSw; (try dsimp only at hSw); have z0 := cell_later hSw g0; have z1 := cell_later hSw g1; have z2 := cell_later hSw g2; have z3 := cell_later hSw g3; have z4 := cell_later hSw g4; have z5 := cell_later hSw g5; clear hSw; go_simp; try with_reducible rfl)
          case' rest2rx0 => (try simp only [Act.put, List.setIfInBounds_toArray, List.set_cons_zero, List.set_cons_succ])
          refine wpAnyH_take (i := 1) (oi := { dst := some 22, op := Op.move (Operand.tmp 0), type := 35, pos := "l4_inside.go:91", after := #[], guard := none }) (v := ?v2rx1) rfl (by kernel_rfl) (by kernel_rfl) (by kernel_rfl) (fun _ _ _ h => h) (Or.inl ⟨by rfl, ?hy2rx1⟩) (by with_reducible assumption) ?rest2rx1
          case hy2rx1 => (intro w hSw; (try dsimp only at hSw); have z0 := cell_later hSw g0; have z1 := cell_later hSw g1; have z2 := cell_later hSw g2; have z3 := cell_later hSw g3; have z4 := cell_later hSw g4; have z5 := cell_later hSw g5; clear hSw; go_simp; try with_reducible rfl)
          case' rest2rx1 => (try simp only [Act.put, List.setIfInBounds_toArray, List.set_cons_zero, List.set_cons_succ])
          refine wpAnyH_take (i := 2) (oi := { dst := some 23, op := Op.indexAddr 35 (Operand.tmp 22) (Operand.const (Value.int IntKind.i64 0)), type := 0, pos := "l4_inside.go:91", after := #[{ on := 1, ground := Ground.data }], guard := none }) (v := ?v2rx2) rfl (by kernel_rfl) (by kernel_rfl) (by kernel_rfl) (fun _ _ _ h => h) (Or.inl ⟨by rfl, ?hy2rx2⟩) (by with_reducible assumption) ?rest2rx2
          case hy2rx2 => (intro w hSw; (try dsimp only at hSw); have z0 := cell_later hSw g0; have z1 := cell_later hSw g1; have z2 := cell_later hSw g2; have z3 := cell_later hSw g3; have z4 := cell_later hSw g4; have z5 := cell_later hSw g5; clear hSw; go_simp; try with_reducible rfl)
          case' rest2rx2 => (try simp only [Act.put, List.setIfInBounds_toArray, List.set_cons_zero, List.set_cons_succ])
          refine wpAnyH_take (i := 3) (oi := { dst := some 24, op := Op.load 26 (Operand.tmp 23), type := 26, pos := "l4_inside.go:91", after := #[{ on := 2, ground := Ground.data }], guard := none }) (v := ?v2rx3) rfl (by kernel_rfl) (by kernel_rfl) (by kernel_rfl) (fun _ _ _ h => h) (Or.inl ⟨by rfl, ?hy2rx3⟩) (by with_reducible assumption) ?rest2rx3
          case hy2rx3 => (intro w hSw; (try dsimp only at hSw); have z0 := cell_later hSw g0; have z1 := cell_later hSw g1; have z2 := cell_later hSw g2; have z3 := cell_later hSw g3; have z4 := cell_later hSw g4; have z5 := cell_later hSw g5; clear hSw; go_simp; try with_reducible rfl)
          case' rest2rx3 => (try simp only [Act.put, List.setIfInBounds_toArray, List.set_cons_zero, List.set_cons_succ])
          refine wpAnyH_take (i := 4) (oi := { dst := some 25, op := Op.move (Operand.tmp 0), type := 35, pos := "l4_inside.go:91", after := #[], guard := none }) (v := ?v2rx4) rfl (by kernel_rfl) (by kernel_rfl) (by kernel_rfl) (fun _ _ _ h => h) (Or.inl ⟨by rfl, ?hy2rx4⟩) (by with_reducible assumption) ?rest2rx4
          case hy2rx4 => (intro w hSw; (try dsimp only at hSw); have z0 := cell_later hSw g0; have z1 := cell_later hSw g1; have z2 := cell_later hSw g2; have z3 := cell_later hSw g3; have z4 := cell_later hSw g4; have z5 := cell_later hSw g5; clear hSw; go_simp; try with_reducible rfl)
          case' rest2rx4 => (try simp only [Act.put, List.setIfInBounds_toArray, List.set_cons_zero, List.set_cons_succ])
          refine wpAnyH_take (i := 5) (oi := { dst := some 26, op := Op.move (Operand.tmp 5), type := 3, pos := "l4_inside.go:91", after := #[], guard := none }) (v := ?v2rx5) rfl (by kernel_rfl) (by kernel_rfl) (by kernel_rfl) (fun _ _ _ h => h) (Or.inl ⟨by rfl, ?hy2rx5⟩) (by with_reducible assumption) ?rest2rx5
          case hy2rx5 => (intro w hSw; (try dsimp only at hSw); have z0 := cell_later hSw g0; have z1 := cell_later hSw g1; have z2 := cell_later hSw g2; have z3 := cell_later hSw g3; have z4 := cell_later hSw g4; have z5 := cell_later hSw g5; clear hSw; go_simp; try with_reducible rfl)
          case' rest2rx5 => (try simp only [Act.put, List.setIfInBounds_toArray, List.set_cons_zero, List.set_cons_succ])
          refine wpAnyH_take (i := 6) (oi := { dst := some 27, op := Op.indexAddr 35 (Operand.tmp 25) (Operand.tmp 26), type := 0, pos := "l4_inside.go:91", after := #[{ on := 4, ground := Ground.data }, { on := 5, ground := Ground.data }], guard := none }) (v := ?v2rx6) rfl (by kernel_rfl) (by kernel_rfl) (by kernel_rfl) (fun _ _ _ h => h) (Or.inl ⟨by rfl, ?hy2rx6⟩) (by with_reducible assumption) ?rest2rx6
          case hy2rx6 => (intro w hSw; (try dsimp only at hSw); have z0 := cell_later hSw g0; have z1 := cell_later hSw g1; have z2 := cell_later hSw g2; have z3 := cell_later hSw g3; have z4 := cell_later hSw g4; have z5 := cell_later hSw g5; clear hSw; go_simp; try with_reducible rfl)
          case' rest2rx6 => (try simp only [Act.put, List.setIfInBounds_toArray, List.set_cons_zero, List.set_cons_succ])
          refine wpAnyH_take (i := 7) (oi := { dst := some 28, op := Op.load 26 (Operand.tmp 27), type := 26, pos := "l4_inside.go:91", after := #[{ on := 6, ground := Ground.data }], guard := none }) (v := ?v2rx7) rfl (by kernel_rfl) (by kernel_rfl) (by kernel_rfl) (fun _ _ _ h => h) (Or.inl ⟨by rfl, ?hy2rx7⟩) (by with_reducible assumption) ?rest2rx7
          case hy2rx7 => (intro w hSw; (try dsimp only at hSw); have z0 := cell_later hSw g0; have z1 := cell_later hSw g1; have z2 := cell_later hSw g2; have z3 := cell_later hSw g3; have z4 := cell_later hSw g4; have z5 := cell_later hSw g5; clear hSw; go_simp; try with_reducible rfl)
          case' rest2rx7 => (try simp only [Act.put, List.setIfInBounds_toArray, List.set_cons_zero, List.set_cons_succ])
          refine wpAnyH_take (i := 8) (oi := { dst := some 29, op := Op.move (Operand.tmp 0), type := 35, pos := "l4_inside.go:91", after := #[], guard := none }) (v := ?v2rx8) rfl (by kernel_rfl) (by kernel_rfl) (by kernel_rfl) (fun _ _ _ h => h) (Or.inl ⟨by rfl, ?hy2rx8⟩) (by with_reducible assumption) ?rest2rx8
          case hy2rx8 => (intro w hSw; (try dsimp only at hSw); have z0 := cell_later hSw g0; have z1 := cell_later hSw g1; have z2 := cell_later hSw g2; have z3 := cell_later hSw g3; have z4 := cell_later hSw g4; have z5 := cell_later hSw g5; clear hSw; go_simp; try with_reducible rfl)
          case' rest2rx8 => (try simp only [Act.put, List.setIfInBounds_toArray, List.set_cons_zero, List.set_cons_succ])
          refine wpAnyH_take (i := 9) (oi := { dst := some 30, op := Op.move (Operand.tmp 5), type := 3, pos := "l4_inside.go:91", after := #[], guard := none }) (v := ?v2rx9) rfl (by kernel_rfl) (by kernel_rfl) (by kernel_rfl) (fun _ _ _ h => h) (Or.inl ⟨by rfl, ?hy2rx9⟩) (by with_reducible assumption) ?rest2rx9
          case hy2rx9 => (intro w hSw; (try dsimp only at hSw); have z0 := cell_later hSw g0; have z1 := cell_later hSw g1; have z2 := cell_later hSw g2; have z3 := cell_later hSw g3; have z4 := cell_later hSw g4; have z5 := cell_later hSw g5; clear hSw; go_simp; try with_reducible rfl)
          case' rest2rx9 => (try simp only [Act.put, List.setIfInBounds_toArray, List.set_cons_zero, List.set_cons_succ])
          refine wpAnyH_take (i := 10) (oi := { dst := some 31, op := Op.binOp BinOp.add 3 (Operand.tmp 30) (Operand.const (Value.int IntKind.i64 1)) 3, type := 3, pos := "l4_inside.go:91", after := #[{ on := 9, ground := Ground.data }], guard := none }) (v := ?v2rx10) rfl (by kernel_rfl) (by kernel_rfl) (by kernel_rfl) (fun _ _ _ h => h) (Or.inl ⟨by rfl, ?hy2rx10⟩) (by with_reducible assumption) ?rest2rx10
          case hy2rx10 => (intro w hSw; (try dsimp only at hSw); have z0 := cell_later hSw g0; have z1 := cell_later hSw g1; have z2 := cell_later hSw g2; have z3 := cell_later hSw g3; have z4 := cell_later hSw g4; have z5 := cell_later hSw g5; clear hSw; go_simp; try with_reducible rfl)
          case' rest2rx10 => (try simp only [Act.put, List.setIfInBounds_toArray, List.set_cons_zero, List.set_cons_succ])
          refine wpAnyH_take (i := 11) (oi := { dst := some 32, op := Op.indexAddr 35 (Operand.tmp 29) (Operand.tmp 31), type := 0, pos := "l4_inside.go:91", after := #[{ on := 8, ground := Ground.data }, { on := 10, ground := Ground.data }], guard := none }) (v := ?v2rx11) rfl (by kernel_rfl) (by kernel_rfl) (by kernel_rfl) (fun _ _ _ h => h) (Or.inl ⟨by rfl, ?hy2rx11⟩) (by with_reducible assumption) ?rest2rx11
          case hy2rx11 => (intro w hSw; (try dsimp only at hSw); have z0 := cell_later hSw g0; have z1 := cell_later hSw g1; have z2 := cell_later hSw g2; have z3 := cell_later hSw g3; have z4 := cell_later hSw g4; have z5 := cell_later hSw g5; clear hSw; go_simp; try with_reducible rfl)
          case' rest2rx11 => (try simp only [Act.put, List.setIfInBounds_toArray, List.set_cons_zero, List.set_cons_succ])
          refine wpAnyH_take (i := 12) (oi := { dst := some 33, op := Op.load 26 (Operand.tmp 32), type := 26, pos := "l4_inside.go:91", after := #[{ on := 11, ground := Ground.data }], guard := none }) (v := ?v2rx12) rfl (by kernel_rfl) (by kernel_rfl) (by kernel_rfl) (fun _ _ _ h => h) (Or.inl ⟨by rfl, ?hy2rx12⟩) (by with_reducible assumption) ?rest2rx12
          case hy2rx12 => (intro w hSw; (try dsimp only at hSw); have z0 := cell_later hSw g0; have z1 := cell_later hSw g1; have z2 := cell_later hSw g2; have z3 := cell_later hSw g3; have z4 := cell_later hSw g4; have z5 := cell_later hSw g5; clear hSw; go_simp; try with_reducible rfl)
          case' rest2rx12 => (try simp only [Act.put, List.setIfInBounds_toArray, List.set_cons_zero, List.set_cons_succ])
          refine wpAnyH_ready (rs := [13]) (by kernel_rfl) (by simp) ?_
          refine AllReadyH.cons (o := { dst := some 34, op := Op.buildSlice 35 3 #[(0, Operand.tmp 24), (1, Operand.tmp 28), (2, Operand.tmp 33)], type := 35, pos := "l4_inside.go:91", after := #[{ on := 3, ground := Ground.data }, { on := 7, ground := Ground.data }, { on := 12, ground := Ground.data }], guard := none }) rfl (fun K hK => ?_) AllReadyH.nil
          go_simp
          refine hK.out _ _ ?_ (fun hHeld => ?_)
          · exact (by go_grown)
          clear hK K
          try simp only [Act.put, List.setIfInBounds_toArray, List.set_cons_zero, List.set_cons_succ]
          refine wpAnyH_ready (rs := [14]) (by kernel_rfl) (by simp) ?_
          refine AllReadyH.cons (o := { dst := some 35, op := Op.buildSlice 44 1 #[(0, Operand.tmp 34)], type := 44, pos := "l4_inside.go:91", after := #[{ on := 13, ground := Ground.data }], guard := none }) rfl (fun K hK => ?_) AllReadyH.nil
          go_simp
          refine hK.out _ _ ?_ (fun hHeld => ?_)
          · exact (by go_grown)
          clear hK K
          try simp only [Act.put, List.setIfInBounds_toArray, List.set_cons_zero, List.set_cons_succ]
          refine wpAnyH_ready (rs := [15]) (by kernel_rfl) (by simp) ?_
          refine AllReadyH.cons (o := { dst := some 36, op := Op.call { callee := Callee.builtin Builtin.append, args := #[Operand.tmp 21, Operand.tmp 35], argTypes := #[44, 44] }, type := 44, pos := "l4_inside.go:91", after := #[{ on := 0, ground := Ground.data }, { on := 14, ground := Ground.data }], guard := none }) rfl (fun K hK => ?_) AllReadyH.nil
          rw [if_pos (by rfl)]
          refine wp_append_one (.tmp 21) (.tmp 35) 44 rfl w.heap.size Tryd.underlying44 hsi hs0 hs1 hs2 (by rfl) (.slice a3 (fanTo l j).length c3) (.slice (some ⟨wr.heap.size, 0, none⟩) 3 3) vs rfl (by rfl) (HO.out.out.later (by go_grown)) ⟨wr.heap.size + 1, 0, none⟩ _ rfl (by simp [go_sem]) rfl (by rw [hvl]; exact HLL.out) (by simp; omega) ?_
          intro gq cp4 w4 hO4 hg4 hgg4
          have HP := hid (HO.out.push (l := [(x0, y0), (x1, y1), (x2, y2)]) (by go_grown) hsz (ownNew wr _ _ _ _ _ _ _ (by go_grown) (Nat.le_refl _)) hO4 hg4 hgg4)
          have hB4 := (HO.out.out.later (by go_grown)).grownBelow hg4 (by simp; omega)
          rw [hvl] at HP ⊢
          clear hO4 hg4 hgg4
          refine hK.out _ _ ?_ (fun hHeld => ?_)
          · exact (by go_grown : Below w.heap.size w _).trans hB4
          clear hK K hB4
          try simp only [Act.put, List.setIfInBounds_toArray, List.set_cons_zero, List.set_cons_succ]
          refine wpAnyH_take (i := 16) (oi := { dst := some 4, op := Op.assign (Operand.tmp 36), type := 44, pos := "l4_inside.go:91", after := #[{ on := 15, ground := Ground.data }, { on := 15, ground := Ground.chain }, { on := 0, ground := Ground.phase }, { on := 1, ground := Ground.phase }, { on := 2, ground := Ground.phase }, { on := 3, ground := Ground.phase }, { on := 4, ground := Ground.phase }, { on := 5, ground := Ground.phase }, { on := 6, ground := Ground.phase }, { on := 7, ground := Ground.phase }, { on := 8, ground := Ground.phase }, { on := 9, ground := Ground.phase }, { on := 10, ground := Ground.phase }, { on := 11, ground := Ground.phase }, { on := 12, ground := Ground.phase }, { on := 13, ground := Ground.phase }, { on := 14, ground := Ground.phase }, { on := 15, ground := Ground.phase }], guard := none }) (v := ?v2rx16) rfl (by kernel_rfl) (by kernel_rfl) (by kernel_rfl) (fun _ _ _ h => h) (Or.inl ⟨by rfl, ?hy2rx16⟩) (by with_reducible assumption) ?rest2rx16
          case hy2rx16 => (intro w hSw; (try dsimp only at hSw); have z0 := cell_later hSw g0; have z1 := cell_later hSw g1; have z2 := cell_later hSw g2; have z3 := cell_later hSw g3; have z4 := cell_later hSw g4; have z5 := cell_later hSw g5; clear hSw; go_simp; try with_reducible rfl)
          case' rest2rx16 => (try simp only [Act.put, List.setIfInBounds_toArray, List.set_cons_zero, List.set_cons_succ])
          refine wpAnyH_done (by kernel_rfl) ?_ _
          have HF := hid hHeld
          clear hHeld g0 g1 g2 g3 g4 g5 hbw
          go_wp2
          go_roundw
          case rel => exact ⟨j + 1, by omega, congrArg (Value.int .i64) (by have := HMM.out; have := HM2.out; omega), vs ++ [.slice (some ⟨wr.heap.size, 0, none⟩) 3 3], by rw [fanTo_succ, HT'.out]; exact HP.out.later (Below.refl _ _), HF.out⟩
          case measure => have h7 := HMM.out; have h8 := HM2.out; simp [intOf]; omega
        · have hje : j + 2 = l.length := by omega
          have hd : decide (((j + 1 : Nat) : Int) + 1 < (l.length : Int)) = false := decide_eq_false (by omega)
          have HBW := hid hbw
          clear hbw
          go_wp2
          go_ret2
          exact ⟨_, vs, ret_vb' HK.out.symm, by unfold fanV; rw [HK.out, if_pos rfl, show l.length - 2 = j by omega]; exact HO.out, HBW.out⟩
    · have HK := hid (show fanOk l = false by unfold fanOk; rw [decide_eq_false h3, Bool.and_false])
      have hd3 : decide ((l.length : Int) < 3) = true := decide_eq_true (by omega)
      go_enter Tryd.func29, Tryd.ntmps29
      go_wp2_with (go_at_call 46; refine (goodHullSpec_c l _ _ _ _ rfl h1 HA.out).mono ?_; rw [hG]; rintro e w1 ⟨rfl, hb1⟩)
      go_ret2
      exact ⟨_, [], ret_vb' HK.out.symm, by unfold fanV; rw [HK.out]; exact OwnSS.nil _ _, hb1⟩
set_option maxHeartbeats 8000000 in
set_option maxRecDepth 8000 in
theorem fanImpl_c (l : List (Int × Int)) (a : Option Addr) (len cap : Nat) (w : World) (hl : l.length = len) (h1 : len ≤ 1048576) (hA : At w.heap.size a l w) (c0 : w.cell? ⟨0, 0, none⟩ = some (.int .i64 1000000)) :
    Calls Tryd.prog 30 #[.slice a len cap] w fun e w' => ∃ v vs, e = .returned (.tuple #[v, .bool (fanOk l)]) ∧ OwnSS w.heap.size v (fanV l) vs w' ∧ Below w.heap.size w w' := by
  subst hl
  have HA := hid hA
  have C0 := hid c0
  clear hA c0
  obtain ⟨i0, hi, hz0, hz1, hz2⟩ := info_parts info_pt
  obtain ⟨is, hsi, hs0, hs1, hs2⟩ := info_parts info_sl
  cases hG : ghB l
  · have HK := hid (show fanOk l = false by unfold fanOk; rw [hG]; rfl)
    go_enter Tryd.func30, Tryd.ntmps30
    go_wp2_with (go_at_call 47; refine (goodHullImpl_c l _ _ _ _ rfl h1 HA.out C0.out).mono ?_; rw [hG]; rintro e w1 ⟨rfl, hb1⟩)
    go_ret2
    exact ⟨_, [], ret_vb' HK.out.symm, by unfold fanV; rw [HK.out]; exact OwnSS.nil _ _, hb1⟩
  · by_cases h3 : 3 ≤ l.length
    · have HK := hid (show fanOk l = true by unfold fanOk; rw [hG, decide_eq_true h3]; rfl)
      have H60 := hid (ghB_len hG)
      have hd3 : decide ((l.length : Int) < 3) = false := decide_eq_false (by omega)
      go_enter Tryd.func30, Tryd.ntmps30
      go_wp2_with (go_at_call 47; refine (goodHullImpl_c l _ _ _ _ rfl h1 HA.out C0.out).mono ?_; rw [hG]; rintro e w1 ⟨rfl, hb1⟩)
      clear hG hd3
      go_loopw [4, 5] (fun o ii wr => ∃ j : Nat, j + 2 ≤ l.length ∧ ii = .int .i64 ((j + 2 : Nat) : Int) ∧ ∃ vs, OwnSS w.heap.size o (fanTo l j) vs wr ∧ Below w.heap.size w wr) (fun _ ii _ => l.length - (intOf ii).toNat)
      case atStart => exact ⟨0, by omega, rfl, [], OwnSS.nil _ _, hb1⟩
      case round =>
        clear hb1
        obtain ⟨j, hj, rfl, vs, hO, hbw⟩ := hrel
        have HO := hid hO
        have HBW := hid hbw
        have hvl : vs.length = (fanTo l j).length := hO.len
        have hsz := hbw.size
        have hfl := fanTo_len l j
        obtain ⟨a3, c3, hv3⟩ := hO.shape
        subst hv3
        clear hO
        by_cases hjl : j + 2 < l.length
        · obtain ⟨m, hm⟩ : ∃ m, m = j + 2 := ⟨_, rfl⟩
          obtain ⟨m1, hm1⟩ : ∃ m1, m1 = j + 1 := ⟨_, rfl⟩
          obtain ⟨b, off, ea, hbN, g0, g1⟩ := HA.out 0 (by omega)
          obtain ⟨b1, off1, e1, _, g2, g3⟩ := HA.out m1 (by omega)
          obtain ⟨b2, off2, e2, _, g4, g5⟩ := HA.out m (by omega)
          subst ea
          obtain ⟨rfl, rfl⟩ : b = b1 ∧ off = off1 := by simpa using e1
          obtain ⟨rfl, rfl⟩ : b = b2 ∧ off = off2 := by simpa using e2
          clear e1 e2
          simp only [Nat.zero_mul, Nat.add_zero] at g0 g1
          have HT : fanT l j = [(px l 0, py l 0), (px l m1, py l m1), (px l m, py l m)] := by rw [hm, hm1]; rfl
          obtain ⟨x0, hx0⟩ : ∃ x, px l 0 = x := ⟨_, rfl⟩
          obtain ⟨y0, hy0⟩ : ∃ x, py l 0 = x := ⟨_, rfl⟩
          obtain ⟨x1, hx1⟩ : ∃ x, px l m1 = x := ⟨_, rfl⟩
          obtain ⟨y1, hy1⟩ : ∃ x, py l m1 = x := ⟨_, rfl⟩
          obtain ⟨x2, hx2⟩ : ∃ x, px l m = x := ⟨_, rfl⟩
          obtain ⟨y2, hy2⟩ : ∃ x, py l m = x := ⟨_, rfl⟩
          rw [hx0, hy0, hx1, hy1, hx2, hy2] at HT
          rw [hx0] at g0
          rw [hy0] at g1
          rw [hx1] at g2
          rw [hy1] at g3
          rw [hx2] at g4
          rw [hy2] at g5
          have HT' := hid HT
          clear hx0 hy0 hx1 hy1 hx2 hy2 HT
          have q0 := cell_later hbw g0
          have q1 := cell_later hbw g1
          have q2 := cell_later hbw g2
          have q3 := cell_later hbw g3
          have q4 := cell_later hbw g4
          have q5 := cell_later hbw g5
          have hw1 : IntKind.i64.wrap ((m : Int) - 1) = (m1 : Int) := by rw [IntKind.wrap_i64]; omega
          have j0 : (0 : Int) ≤ (m : Int) := by omega
          have j1 : (m : Int) < (l.length : Int) := by omega
          have j2 : (0 : Int) ≤ (m1 : Int) := by omega
          have j3 : (m1 : Int) < (l.length : Int) := by omega
          have j4 : (0 : Int) < (l.length : Int) := by omega
          have j5 : 0 < l.length := by omega
          have hd : decide ((m : Int) < (l.length : Int)) = true := decide_eq_true j1
          rw [← hm]
          have HMM := hid hm
          have HLL : Hid ((fanTo l j).length + 1 ≤ 1048576) := by rw [hfl]; show _ ≤ _; omega
          clear hm hm1 g0 g1 g2 g3 g4 g5 hbw hfl
          go_wp2
          refine wp_region_held_drew (S := (fun u => Below wr.heap.size wr u)) (by kernel_rfl) ?_ (fun hHeld => ?_)
          · exact (Below.refl _ _).drew
          refine wpAnyH_take (i := 0) (oi := { dst := some 21, op := Op.move (Operand.tmp 0), type := 35, pos := "l4_inside.go:88", after := #[], guard := none }) (v := ?v1rx0) rfl (by kernel_rfl) (by kernel_rfl) (by kernel_rfl) (fun _ _ _ h => h) (Or.inl ⟨by rfl, ?hy1rx0⟩) (by with_reducible assumption) ?rest1rx0
          case hy1rx0 => (intro w hSw; (try dsimp only at hSw); have z0 := cell_later hSw q0; have z1 := cell_later hSw q1; have z2 := cell_later hSw q2; have z3 := cell_later hSw q3; have z4 := cell_later hSw q4; have z5 := cell_later hSw q5; clear hSw; go_simp; try with_reducible rfl)
          case' rest1rx0 => (try simp only [Act.put, List.setIfInBounds_toArray, List.set_cons_zero, List.set_cons_succ])
          refine wpAnyH_take (i := 1) (oi := { dst := some 22, op := Op.indexAddr 35 (Operand.tmp 21) (Operand.const (Value.int IntKind.i64 0)), type := 0, pos := "l4_inside.go:88", after := #[{ on := 0, ground := Ground.data }], guard := none }) (v := ?v1rx1) rfl (by kernel_rfl) (by kernel_rfl) (by kernel_rfl) (fun _ _ _ h => h) (Or.inl ⟨by rfl, ?hy1rx1⟩) (by with_reducible assumption) ?rest1rx1
          case hy1rx1 => (intro w hSw; (try dsimp only at hSw); have z0 := cell_later hSw q0; have z1 := cell_later hSw q1; have z2 := cell_later hSw q2; have z3 := cell_later hSw q3; have z4 := cell_later hSw q4; have z5 := cell_later hSw q5; clear hSw; go_simp; try with_reducible rfl)
          case' rest1rx1 => (try simp only [Act.put, List.setIfInBounds_toArray, List.set_cons_zero, List.set_cons_succ])
          refine wpAnyH_take (i := 2) (oi := { dst := some 23, op := Op.load 26 (Operand.tmp 22), type := 26, pos := "l4_inside.go:88", after := #[{ on := 1, ground := Ground.data }], guard := none }) (v := ?v1rx2) rfl (by kernel_rfl) (by kernel_rfl) (by kernel_rfl) (fun _ _ _ h => h) (Or.inl ⟨by rfl, ?hy1rx2⟩) (by with_reducible assumption) ?rest1rx2
          case hy1rx2 => (intro w hSw; (try dsimp only at hSw); have z0 := cell_later hSw q0; have z1 := cell_later hSw q1; have z2 := cell_later hSw q2; have z3 := cell_later hSw q3; have z4 := cell_later hSw q4; have z5 := cell_later hSw q5; clear hSw; go_simp; try with_reducible rfl)
          case' rest1rx2 => (try simp only [Act.put, List.setIfInBounds_toArray, List.set_cons_zero, List.set_cons_succ])
          refine wpAnyH_take (i := 3) (oi := { dst := some 24, op := Op.move (Operand.tmp 0), type := 35, pos := "l4_inside.go:88", after := #[], guard := none }) (v := ?v1rx3) rfl (by kernel_rfl) (by kernel_rfl) (by kernel_rfl) (fun _ _ _ h => h) (Or.inl ⟨by rfl, ?hy1rx3⟩) (by with_reducible assumption) ?rest1rx3
          case hy1rx3 => (intro w hSw; (try dsimp only at hSw); have z0 := cell_later hSw q0; have z1 := cell_later hSw q1; have z2 := cell_later hSw q2; have z3 := cell_later hSw q3; have z4 := cell_later hSw q4; have z5 := cell_later hSw q5; clear hSw; go_simp; try with_reducible rfl)
          case' rest1rx3 => (try simp only [Act.put, List.setIfInBounds_toArray, List.set_cons_zero, List.set_cons_succ])
          refine wpAnyH_take (i := 4) (oi := { dst := some 25, op := Op.move (Operand.tmp 5), type := 3, pos := "l4_inside.go:88", after := #[], guard := none }) (v := ?v1rx4) rfl (by kernel_rfl) (by kernel_rfl) (by kernel_rfl) (fun _ _ _ h => h) (Or.inl ⟨by rfl, ?hy1rx4⟩) (by with_reducible assumption) ?rest1rx4
          case hy1rx4 => (intro w hSw; (try dsimp only at hSw); have z0 := cell_later hSw q0; have z1 := cell_later hSw q1; have z2 := cell_later hSw q2; have z3 := cell_later hSw q3; have z4 := cell_later hSw q4; have z5 := cell_later hSw q5; clear hSw; go_simp; try with_reducible rfl)
          case' rest1rx4 => (try simp only [Act.put, List.setIfInBounds_toArray, List.set_cons_zero, List.set_cons_succ])
          refine wpAnyH_take (i := 5) (oi := { dst := some 26, op := Op.binOp BinOp.sub 3 (Operand.tmp 25) (Operand.const (Value.int IntKind.i64 1)) 3, type := 3, pos := "l4_inside.go:88", after := #[{ on := 4, ground := Ground.data }], guard := none }) (v := ?v1rx5) rfl (by kernel_rfl) (by kernel_rfl) (by kernel_rfl) (fun _ _ _ h => h) (Or.inl ⟨by rfl, ?hy1rx5⟩) (by with_reducible assumption) ?rest1rx5
          case hy1rx5 => (intro w hSw; (try dsimp only at hSw); have z0 := cell_later hSw q0; have z1 := cell_later hSw q1; have z2 := cell_later hSw q2; have z3 := cell_later hSw q3; have z4 := cell_later hSw q4; have z5 := cell_later hSw q5; clear hSw; go_simp; try with_reducible rfl)
          case' rest1rx5 => (try simp only [Act.put, List.setIfInBounds_toArray, List.set_cons_zero, List.set_cons_succ])
          refine wpAnyH_take (i := 6) (oi := { dst := some 27, op := Op.indexAddr 35 (Operand.tmp 24) (Operand.tmp 26), type := 0, pos := "l4_inside.go:88", after := #[{ on := 3, ground := Ground.data }, { on := 5, ground := Ground.data }], guard := none }) (v := ?v1rx6) rfl (by kernel_rfl) (by kernel_rfl) (by kernel_rfl) (fun _ _ _ h => h) (Or.inl ⟨by rfl, ?hy1rx6⟩) (by with_reducible assumption) ?rest1rx6
          case hy1rx6 => (intro w hSw; (try dsimp only at hSw); have z0 := cell_later hSw q0; have z1 := cell_later hSw q1; have z2 := cell_later hSw q2; have z3 := cell_later hSw q3; have z4 := cell_later hSw q4; have z5 := cell_later hSw q5; clear hSw; go_simp; try with_reducible rfl)
          case' rest1rx6 => (try simp only [Act.put, List.setIfInBounds_toArray, List.set_cons_zero, List.set_cons_succ])
          refine wpAnyH_take (i := 7) (oi := { dst := some 28, op := Op.load 26 (Operand.tmp 27), type := 26, pos := "l4_inside.go:88", after := #[{ on := 6, ground := Ground.data }], guard := none }) (v := ?v1rx7) rfl (by kernel_rfl) (by kernel_rfl) (by kernel_rfl) (fun _ _ _ h => h) (Or.inl ⟨by rfl, ?hy1rx7⟩) (by with_reducible assumption) ?rest1rx7
          case hy1rx7 => (intro w hSw; (try dsimp only at hSw); have z0 := cell_later hSw q0; have z1 := cell_later hSw q1; have z2 := cell_later hSw q2; have z3 := cell_later hSw q3; have z4 := cell_later hSw q4; have z5 := cell_later hSw q5; clear hSw; go_simp; try with_reducible rfl)
          case' rest1rx7 => (try simp only [Act.put, List.setIfInBounds_toArray, List.set_cons_zero, List.set_cons_succ])
          refine wpAnyH_take (i := 8) (oi := { dst := some 29, op := Op.move (Operand.tmp 0), type := 35, pos := "l4_inside.go:88", after := #[], guard := none }) (v := ?v1rx8) rfl (by kernel_rfl) (by kernel_rfl) (by kernel_rfl) (fun _ _ _ h => h) (Or.inl ⟨by rfl, ?hy1rx8⟩) (by with_reducible assumption) ?rest1rx8
          case hy1rx8 => (intro w hSw; (try dsimp only at hSw); have z0 := cell_later hSw q0; have z1 := cell_later hSw q1; have z2 := cell_later hSw q2; have z3 := cell_later hSw q3; have z4 := cell_later hSw q4; have z5 := cell_later hSw q5; clear hSw; go_simp; try with_reducible rfl)
          case' rest1rx8 => (try simp only [Act.put, List.setIfInBounds_toArray, List.set_cons_zero, List.set_cons_succ])
          refine wpAnyH_take (i := 9) (oi := { dst := some 30, op := Op.move (Operand.tmp 5), type := 3, pos := "l4_inside.go:88", after := #[], guard := none }) (v := ?v1rx9) rfl (by kernel_rfl) (by kernel_rfl) (by kernel_rfl) (fun _ _ _ h => h) (Or.inl ⟨by rfl, ?hy1rx9⟩) (by with_reducible assumption) ?rest1rx9
          case hy1rx9 => (intro w hSw; (try dsimp only at hSw); have z0 := cell_later hSw q0; have z1 := cell_later hSw q1; have z2 := cell_later hSw q2; have z3 := cell_later hSw q3; have z4 := cell_later hSw q4; have z5 := cell_later hSw q5; clear hSw; go_simp; try with_reducible rfl)
          case' rest1rx9 => (try simp only [Act.put, List.setIfInBounds_toArray, List.set_cons_zero, List.set_cons_succ])
          refine wpAnyH_take (i := 10) (oi := { dst := some 31, op := Op.indexAddr 35 (Operand.tmp 29) (Operand.tmp 30), type := 0, pos := "l4_inside.go:88", after := #[{ on := 8, ground := Ground.data }, { on := 9, ground := Ground.data }], guard := none }) (v := ?v1rx10) rfl (by kernel_rfl) (by kernel_rfl) (by kernel_rfl) (fun _ _ _ h => h) (Or.inl ⟨by rfl, ?hy1rx10⟩) (by with_reducible assumption) ?rest1rx10
          case hy1rx10 => (intro w hSw; (try dsimp only at hSw); have z0 := cell_later hSw q0; have z1 := cell_later hSw q1; have z2 := cell_later hSw q2; have z3 := cell_later hSw q3; have z4 := cell_later hSw q4; have z5 := cell_later hSw q5; clear hSw; go_simp; try with_reducible rfl)
          case' rest1rx10 => (try simp only [Act.put, List.setIfInBounds_toArray, List.set_cons_zero, List.set_cons_succ])
          refine wpAnyH_take (i := 11) (oi := { dst := some 32, op := Op.load 26 (Operand.tmp 31), type := 26, pos := "l4_inside.go:88", after := #[{ on := 10, ground := Ground.data }], guard := none }) (v := ?v1rx11) rfl (by kernel_rfl) (by kernel_rfl) (by kernel_rfl) (fun _ _ _ h => h) (Or.inl ⟨by rfl, ?hy1rx11⟩) (by with_reducible assumption) ?rest1rx11
          case hy1rx11 => (intro w hSw; (try dsimp only at hSw); have z0 := cell_later hSw q0; have z1 := cell_later hSw q1; have z2 := cell_later hSw q2; have z3 := cell_later hSw q3; have z4 := cell_later hSw q4; have z5 := cell_later hSw q5; clear hSw; go_simp; try with_reducible rfl)
          case' rest1rx11 => (try simp only [Act.put, List.setIfInBounds_toArray, List.set_cons_zero, List.set_cons_succ])
          refine wpAnyH_take (i := 12) (oi := { dst := some 33, op := Op.build 63 #[(0, Operand.tmp 23), (1, Operand.tmp 28), (2, Operand.tmp 32)], type := 63, pos := "l4_inside.go:88", after := #[{ on := 2, ground := Ground.data }, { on := 7, ground := Ground.data }, { on := 11, ground := Ground.data }], guard := none }) (v := ?v1rx12) rfl (by kernel_rfl) (by kernel_rfl) (by kernel_rfl) (fun _ _ _ h => h) (Or.inl ⟨by rfl, ?hy1rx12⟩) (by with_reducible assumption) ?rest1rx12
          case hy1rx12 => (intro w hSw; (try dsimp only at hSw); have z0 := cell_later hSw q0; have z1 := cell_later hSw q1; have z2 := cell_later hSw q2; have z3 := cell_later hSw q3; have z4 := cell_later hSw q4; have z5 := cell_later hSw q5; clear hSw; go_simp; try with_reducible rfl)
          case' rest1rx12 => (try simp only [Act.put, List.setIfInBounds_toArray, List.set_cons_zero, List.set_cons_succ])
          refine wpAnyH_ready (rs := [13]) (by kernel_rfl) (by simp) ?_
          refine AllReadyH.cons (o := { dst := some 6, op := Op.alloc 63, type := 0, pos := "l4_inside.go:88", after := #[], guard := none }) rfl (fun K hK => ?_) AllReadyH.nil
          go_simp
          refine hK.out _ _ ?_ (fun hHeld => ?_)
          · exact (by go_grown)
          clear hK K
          try simp only [Act.put, List.setIfInBounds_toArray, List.set_cons_zero, List.set_cons_succ]
          refine wpAnyH_ready (rs := [14]) (by kernel_rfl) (by simp) ?_
          refine AllReadyH.cons (o := { dst := none, op := Op.store 63 (Operand.tmp 6) (Operand.tmp 33), type := 0, pos := "l4_inside.go:88", after := #[{ on := 13, ground := Ground.data }, { on := 12, ground := Ground.data }, { on := 0, ground := Ground.phase }, { on := 1, ground := Ground.phase }, { on := 2, ground := Ground.phase }, { on := 3, ground := Ground.phase }, { on := 4, ground := Ground.phase }, { on := 5, ground := Ground.phase }, { on := 6, ground := Ground.phase }, { on := 7, ground := Ground.phase }, { on := 8, ground := Ground.phase }, { on := 9, ground := Ground.phase }, { on := 10, ground := Ground.phase }, { on := 11, ground := Ground.phase }, { on := 12, ground := Ground.phase }, { on := 13, ground := Ground.phase }], guard := none }) rfl (fun K hK => ?_) AllReadyH.nil
          go_simp
          refine hK.out _ _ ?_ (fun hHeld => ?_)
          · exact (by go_grown)
          clear hK K
          try simp only [Act.put, List.setIfInBounds_toArray, List.set_cons_zero, List.set_cons_succ]
          refine wpAnyH_done (by kernel_rfl) ?_ _
          clear hHeld q0 q1 q2 q3 q4 q5
          have hbA := (show Below wr.heap.size wr (wr.alloc (.cells #[.int .i64 x0, .int .i64 y0, .int .i64 x1, .int .i64 y1, .int .i64 x2, .int .i64 y2] 63)).drew by go_grown)
          go_wp2_with (first
            | (go_at_call 52; refine (clone_c [(x0, y0), (x1, y1), (x2, y2)] _ _ 3 3 _ rfl (by omega) (by omega) (at3 (by simp [go_sem]) (by simp [go_sem]) (by simp [go_sem]) (by simp [go_sem]) (by simp [go_sem]) (by simp [go_sem]))).mono ?_; rintro e w2 ⟨v2, rfl, ho2, hb2⟩; obtain ⟨a2, c2, hv2⟩ := ho2.shape; subst hv2; have hs2' := hb2.size; have hss := hbA.size; have HWW := hid ((grew hbA hb2).alloc (B := wr.heap.size) (by omega) (.cells #[.slice a2 3 c2] 35)); have HUU := hid ((ho2.mono hbA.size).later ((Below.refl w2.heap.size w2).alloc (Nat.le_refl _) (.cells #[.slice a2 3 c2] 35))); clear ho2 hb2)
            | (at_builtin; refine wpList_append_one rfl (.tmp 34) (.tmp 37) 44 rfl w.heap.size Tryd.underlying44 hsi hs0 hs1 hs2 (by rfl) (.slice a3 (fanTo l j).length c3) (.slice a2 3 c2) vs rfl (by rfl) (HO.out.out.later (HWW.out)) ⟨w2.heap.size, 0, none⟩ _ rfl (by simp [go_sem]) rfl (by rw [hvl]; exact HLL.out) (by simp; omega) ?_; intro g4 cp4 w4 hO4 hg4 hgg4; have HP := hid (HO.out.push (l := [(x0, y0), (x1, y1), (x2, y2)]) HWW.out hsz (HUU.out) hO4 hg4 hgg4); have hB4 := (HO.out.out.later HWW.out).grownBelow hg4 (by simp; omega); rw [hvl] at HP ⊢; clear hO4 hg4 hgg4))
          go_roundw
          case rel => exact ⟨j + 1, by omega, congrArg (Value.int .i64) (by have := HMM.out; omega), vs ++ [.slice a2 3 c2], by rw [fanTo_succ, HT'.out]; exact HP.out, (grew HBW.out HWW.out).trans hB4⟩
          case measure => simp [intOf]; omega
        · have hje : j + 2 = l.length := by omega
          have hd : decide (((j + 2 : Nat) : Int) < (l.length : Int)) = false := decide_eq_false (by omega)
          clear hbw
          go_wp2
          go_ret2
          exact ⟨_, vs, ret_vb' HK.out.symm, by unfold fanV; rw [HK.out, if_pos rfl, show l.length - 2 = j by omega]; exact HO.out, HBW.out⟩
    · have HK := hid (show fanOk l = false by unfold fanOk; rw [decide_eq_false h3, Bool.and_false])
      have hd3 : decide ((l.length : Int) < 3) = true := decide_eq_true (by omega)
      go_enter Tryd.func30, Tryd.ntmps30
      go_wp2_with (go_at_call 47; refine (goodHullImpl_c l _ _ _ _ rfl h1 HA.out C0.out).mono ?_; rw [hG]; rintro e w1 ⟨rfl, hb1⟩)
      go_ret2
      exact ⟨_, [], ret_vb' HK.out.symm, by unfold fanV; rw [HK.out]; exact OwnSS.nil _ _, hb1⟩
theorem fanV_len (l : List (Int × Int)) : (fanV l).length ≤ 1000 := by
  unfold fanV
  split
  next h =>
    unfold fanOk at h
    rw [Bool.and_eq_true] at h
    have := ghB_len h.1
    rw [fanTo_len]
    omega
  · exact Nat.zero_le _
theorem fanV_3 (l : List (Int × Int)) {i : Nat} (hi : i < (fanV l).length) : (nth (fanV l) i).length = 3 := by
  unfold fanV at hi ⊢
  split at hi
  next h =>
    rw [if_pos h]
    rw [fanTo_len] at hi
    rw [nth_fanTo hi]
    rfl
  · exact absurd hi (Nat.not_lt_zero _)
theorem OwnSS.spared {N : Nat} {v : Value} {a : Option Addr} {L : List (List (Int × Int))} {vs : List Value} {w w' : World} (h : OwnSS N v L vs w) (hs : Spared a w w') (hb : ∀ b off, a = Option.some ⟨b, off, none⟩ → b < N) : OwnSS N v L vs w' :=
  ⟨h.out.other hs (fun b off e eb => by have := hb b off e; have := (h.out.lt eb).1; omega), h.len, fun i hi => (h.inn i hi).spared hs hb, h.apart, h.far⟩
end Go.Proofs.YtcghpepkphphbaaDoor
