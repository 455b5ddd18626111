/-
  Lower chains: the program's test and the specification's (contracts for the walks).
  Conditions: as each theorem states them.
-/
import Derived.Test.YtibmgoaildhclaaDoorBrWalk
import Derived.Deep.DeepCutAuto
namespace Go.Proofs.YtibmgoaildhclaaDoor
open Go.RowKit Go.Shelf
set_option linter.unusedVariables false
set_option maxRecDepth 8000
def TrTo (t : Int × Int → Int × Int → Int × Int → Bool) (l : List (Int × Int)) (k : Nat) : Prop := ∀ i, i + 2 < k → trT t l i = true
theorem TrTo.succ {t : Int × Int → Int × Int → Int × Int → Bool} {l : List (Int × Int)} {k : Nat} (h : TrTo t l (k + 2)) (e : trT t l k = true) : TrTo t l (k + 3) := fun i hi => by
  by_cases hk : i = k
  · subst hk; exact e
  · exact h i (by omega)
theorem chI_yes {l : List (Int × Int)} (h1 : goodL l = true) (h2 : 0 < l.length) (h3 : TrTo tlB l l.length) : chI l = true := by
  unfold chI
  rw [h1, decide_eq_true h2, aT_iff.2 fun i hi => h3 i (by omega)]
  rfl
theorem chI_no {l : List (Int × Int)} {k : Nat} (hk : k + 2 < l.length) (h : trT tlB l k = false) : chI l = false := by
  unfold chI
  rw [aT_no (show k < l.length - 2 by omega) h, Bool.and_false, Bool.and_false]
set_option maxHeartbeats 4000000 in
theorem isChain_c (l : List (Int × Int)) (a : Option Addr) (len cap : Nat) (w : World) (hl : l.length = len) (h1 : len ≤ 1048576) (hA : At w.heap.size a l w) (c0 : w.cell? ⟨0, 0, none⟩ = some (.int .i64 1000000)) :
    Calls Tryd.prog 44 #[.slice a len cap] w fun e w' => e = .returned (.bool (chI l)) ∧ Below w.heap.size w w' := by
  subst hl
  have HA := hid hA
  have C0 := hid c0
  clear hA c0
  cases hG : goodL l
  · have E := hid (show chI l = false by unfold chI; rw [hG]; rfl)
    go_enter Tryd.func44, Tryd.ntmps44
    go_wp2_with (go_at_call 33; refine (goodSetImpl_c l _ _ _ _ rfl h1 HA.out C0.out).mono ?_; rw [hG]; rintro e w1 ⟨rfl, hb1⟩)
    go_ret
    exact ⟨ret_bool E.out.symm, hb1⟩
  by_cases e0 : l.length = 0
  · have E := hid (show chI l = false by unfold chI; rw [decide_eq_false (show ¬ 0 < l.length by omega), Bool.false_and, Bool.and_false])
    have z : ((l.length : Int) == 0) = true := by simp [e0]
    clear e0
    go_enter Tryd.func44, Tryd.ntmps44
    go_wp2_with (go_at_call 33; refine (goodSetImpl_c l _ _ _ _ rfl h1 HA.out C0.out).mono ?_; rw [hG]; rintro e w1 ⟨rfl, hb1⟩)
    go_ret
    exact ⟨ret_bool E.out.symm, hb1⟩
  · have z : ((l.length : Int) == 0) = false := by simp [e0]
    have HG := hid (allG_of (goodL_good hG))
    have HGL := hid hG
    have HL := hid (show 0 < l.length by omega)
    clear e0
    go_enter Tryd.func44, Tryd.ntmps44
    go_wp2_with (go_at_call 33; refine (goodSetImpl_c l _ _ _ _ rfl h1 HA.out C0.out).mono ?_; rw [hG]; rintro e w1 ⟨rfl, hb1⟩)
    go_loopw [3] (fun i wr => ∃ k : Nat, (k = 0 ∨ k + 2 ≤ l.length) ∧ i = .int .i64 ((k : Int) + 2) ∧ TrTo tlB l (k + 2) ∧ Below w.heap.size w wr) (fun i _ => l.length - (intOf i).toNat)
    case atStart => exact ⟨0, .inl rfl, rfl, fun i hi => absurd hi (by omega), hb1⟩
    case round =>
      obtain ⟨k, hk, rfl, hT, hbw⟩ := hrel
      have HBW := hid hbw
      have HTT := hid hT
      clear hT hb1
      by_cases hkl : k + 2 < l.length
      · obtain ⟨b, off, rfl, hbN, g0, g1⟩ := HA.out k (by omega)
        obtain ⟨b1, off1, e1, _, g2, g3⟩ := HA.out (k + 1) (by omega)
        obtain ⟨b2, off2, e2, _, g4, g5⟩ := HA.out (k + 2) (by omega)
        obtain ⟨rfl, rfl⟩ : b = b1 ∧ off = off1 := by simpa using e1
        obtain ⟨rfl, rfl⟩ : b = b2 ∧ off = off2 := by simpa using e2
        clear e1 e2
        have q0 := cell_later hbw g0
        have q1 := cell_later hbw g1
        have q2 := cell_later hbw g2
        have q3 := cell_later hbw g3
        have q4 := cell_later hbw g4
        have q5 := cell_later hbw g5
        obtain ⟨t, ht⟩ : ∃ t, tlB (px l k, py l k) (px l (k + 1), py l (k + 1)) (px l (k + 2), py l (k + 2)) = t := ⟨_, rfl⟩
        have HE := hid (show trT tlB l k = t from ht)
        have HT := hid ht
        obtain ⟨m1, hm1⟩ : ∃ m, k + 1 = m := ⟨_, rfl⟩
        obtain ⟨m2, hm2⟩ : ∃ m, k + 2 = m := ⟨_, rfl⟩
        have hc : (k : Int) + 2 = (m2 : Int) := by omega
        have hw0 : IntKind.i64.wrap ((m2 : Int) - 2) = (k : Int) := by rw [IntKind.wrap_i64]; omega
        have hw1 : IntKind.i64.wrap ((m2 : Int) - 1) = (m1 : Int) := by rw [IntKind.wrap_i64]; omega
        rw [hm1] at q2 q3
        rw [hm2] at q4 q5
        rw [hm1, hm2] at HT
        have i0 : (0 : Int) ≤ (k : Int) := by omega
        have i1 : (k : Int) < (l.length : Int) := by omega
        have i2 : (0 : Int) ≤ (m1 : Int) := by omega
        have i3 : (m1 : Int) < (l.length : Int) := by omega
        have i4 : (0 : Int) ≤ (m2 : Int) := by omega
        have i5 : (m2 : Int) < (l.length : Int) := by omega
        have hcm := hid (show (m2 : Int) + 1 = ((k + 1 : Nat) : Int) + 2 by omega)
        clear g0 g1 g2 g3 g4 g5 ht hm1 hm2
        rw [hc]
        cases t
        · go_upto_region 6 with fail
          refine wp_region_held_drew (S := (fun u => Below wr.heap.size wr u)) (by kernel_rfl) ?_ (fun hHeld => ?_)
          · exact (Below.refl _ _).drew
          refine wpAnyH_take (i := 0) (oi := { dst := some 18, op := Op.move (Operand.tmp 0), type := 24, pos := "l7_tree.go:210", after := #[], guard := none }) (v := ?v34yx0) rfl (by kernel_rfl) (by kernel_rfl) (by kernel_rfl) (fun _ _ _ h => h) (Or.inl ⟨by rfl, ?hy34yx0⟩) (by with_reducible assumption) ?rest34yx0
          case hy34yx0 => (intro wS hSw; (try dsimp only at hSw); have z0 := cell_later hSw q0; have z1 := cell_later hSw q1; have z2 := cell_later hSw q2; have z3 := cell_later hSw q3; have z4 := cell_later hSw q4; have z5 := cell_later hSw q5; clear hSw; go_simp; try with_reducible rfl)
          case' rest34yx0 => (try simp only [Act.put, List.setIfInBounds_toArray, List.set_cons_zero, List.set_cons_succ])
          refine wpAnyH_take (i := 1) (oi := { dst := some 19, op := Op.move (Operand.tmp 3), type := 3, pos := "l7_tree.go:210", after := #[], guard := none }) (v := ?v35yx1) rfl (by kernel_rfl) (by kernel_rfl) (by kernel_rfl) (fun _ _ _ h => h) (Or.inl ⟨by rfl, ?hy35yx1⟩) (by with_reducible assumption) ?rest35yx1
          case hy35yx1 => (intro wS hSw; (try dsimp only at hSw); have z0 := cell_later hSw q0; have z1 := cell_later hSw q1; have z2 := cell_later hSw q2; have z3 := cell_later hSw q3; have z4 := cell_later hSw q4; have z5 := cell_later hSw q5; clear hSw; go_simp; try with_reducible rfl)
          case' rest35yx1 => (try simp only [Act.put, List.setIfInBounds_toArray, List.set_cons_zero, List.set_cons_succ])
          refine wpAnyH_take (i := 2) (oi := { dst := some 20, op := Op.binOp BinOp.sub 3 (Operand.tmp 19) (Operand.const (Value.int IntKind.i64 2)) 3, type := 3, pos := "l7_tree.go:210", after := #[{ on := 1, ground := Ground.data }], guard := none }) (v := ?v36yx2) rfl (by kernel_rfl) (by kernel_rfl) (by kernel_rfl) (fun _ _ _ h => h) (Or.inl ⟨by rfl, ?hy36yx2⟩) (by with_reducible assumption) ?rest36yx2
          case hy36yx2 => (intro wS hSw; (try dsimp only at hSw); have z0 := cell_later hSw q0; have z1 := cell_later hSw q1; have z2 := cell_later hSw q2; have z3 := cell_later hSw q3; have z4 := cell_later hSw q4; have z5 := cell_later hSw q5; clear hSw; go_simp; try with_reducible rfl)
          case' rest36yx2 => (try simp only [Act.put, List.setIfInBounds_toArray, List.set_cons_zero, List.set_cons_succ])
          refine wpAnyH_take (i := 3) (oi := { dst := some 21, op := Op.indexAddr 24 (Operand.tmp 18) (Operand.tmp 20), type := 0, pos := "l7_tree.go:210", after := #[{ on := 0, ground := Ground.data }, { on := 2, ground := Ground.data }], guard := none }) (v := ?v37yx3) rfl (by kernel_rfl) (by kernel_rfl) (by kernel_rfl) (fun _ _ _ h => h) (Or.inl ⟨by rfl, ?hy37yx3⟩) (by with_reducible assumption) ?rest37yx3
          case hy37yx3 => (intro wS hSw; (try dsimp only at hSw); have z0 := cell_later hSw q0; have z1 := cell_later hSw q1; have z2 := cell_later hSw q2; have z3 := cell_later hSw q3; have z4 := cell_later hSw q4; have z5 := cell_later hSw q5; clear hSw; go_simp; try with_reducible rfl)
          case' rest37yx3 => (try simp only [Act.put, List.setIfInBounds_toArray, List.set_cons_zero, List.set_cons_succ])
          refine wpAnyH_take (i := 4) (oi := { dst := some 22, op := Op.load 44 (Operand.tmp 21), type := 44, pos := "l7_tree.go:210", after := #[{ on := 3, ground := Ground.data }], guard := none }) (v := ?v38yx4) rfl (by kernel_rfl) (by kernel_rfl) (by kernel_rfl) (fun _ _ _ h => h) (Or.inl ⟨by rfl, ?hy38yx4⟩) (by with_reducible assumption) ?rest38yx4
          case hy38yx4 => (intro wS hSw; (try dsimp only at hSw); have z0 := cell_later hSw q0; have z1 := cell_later hSw q1; have z2 := cell_later hSw q2; have z3 := cell_later hSw q3; have z4 := cell_later hSw q4; have z5 := cell_later hSw q5; clear hSw; go_simp; try with_reducible rfl)
          case' rest38yx4 => (try simp only [Act.put, List.setIfInBounds_toArray, List.set_cons_zero, List.set_cons_succ])
          refine wpAnyH_take (i := 5) (oi := { dst := some 23, op := Op.move (Operand.tmp 0), type := 24, pos := "l7_tree.go:210", after := #[], guard := none }) (v := ?v39yx5) rfl (by kernel_rfl) (by kernel_rfl) (by kernel_rfl) (fun _ _ _ h => h) (Or.inl ⟨by rfl, ?hy39yx5⟩) (by with_reducible assumption) ?rest39yx5
          case hy39yx5 => (intro wS hSw; (try dsimp only at hSw); have z0 := cell_later hSw q0; have z1 := cell_later hSw q1; have z2 := cell_later hSw q2; have z3 := cell_later hSw q3; have z4 := cell_later hSw q4; have z5 := cell_later hSw q5; clear hSw; go_simp; try with_reducible rfl)
          case' rest39yx5 => (try simp only [Act.put, List.setIfInBounds_toArray, List.set_cons_zero, List.set_cons_succ])
          refine wpAnyH_take (i := 6) (oi := { dst := some 24, op := Op.move (Operand.tmp 3), type := 3, pos := "l7_tree.go:210", after := #[], guard := none }) (v := ?v40yx6) rfl (by kernel_rfl) (by kernel_rfl) (by kernel_rfl) (fun _ _ _ h => h) (Or.inl ⟨by rfl, ?hy40yx6⟩) (by with_reducible assumption) ?rest40yx6
          case hy40yx6 => (intro wS hSw; (try dsimp only at hSw); have z0 := cell_later hSw q0; have z1 := cell_later hSw q1; have z2 := cell_later hSw q2; have z3 := cell_later hSw q3; have z4 := cell_later hSw q4; have z5 := cell_later hSw q5; clear hSw; go_simp; try with_reducible rfl)
          case' rest40yx6 => (try simp only [Act.put, List.setIfInBounds_toArray, List.set_cons_zero, List.set_cons_succ])
          refine wpAnyH_take (i := 7) (oi := { dst := some 25, op := Op.binOp BinOp.sub 3 (Operand.tmp 24) (Operand.const (Value.int IntKind.i64 1)) 3, type := 3, pos := "l7_tree.go:210", after := #[{ on := 6, ground := Ground.data }], guard := none }) (v := ?v41yx7) rfl (by kernel_rfl) (by kernel_rfl) (by kernel_rfl) (fun _ _ _ h => h) (Or.inl ⟨by rfl, ?hy41yx7⟩) (by with_reducible assumption) ?rest41yx7
          case hy41yx7 => (intro wS hSw; (try dsimp only at hSw); have z0 := cell_later hSw q0; have z1 := cell_later hSw q1; have z2 := cell_later hSw q2; have z3 := cell_later hSw q3; have z4 := cell_later hSw q4; have z5 := cell_later hSw q5; clear hSw; go_simp; try with_reducible rfl)
          case' rest41yx7 => (try simp only [Act.put, List.setIfInBounds_toArray, List.set_cons_zero, List.set_cons_succ])
          refine wpAnyH_take (i := 8) (oi := { dst := some 26, op := Op.indexAddr 24 (Operand.tmp 23) (Operand.tmp 25), type := 0, pos := "l7_tree.go:210", after := #[{ on := 5, ground := Ground.data }, { on := 7, ground := Ground.data }], guard := none }) (v := ?v42yx8) rfl (by kernel_rfl) (by kernel_rfl) (by kernel_rfl) (fun _ _ _ h => h) (Or.inl ⟨by rfl, ?hy42yx8⟩) (by with_reducible assumption) ?rest42yx8
          case hy42yx8 => (intro wS hSw; (try dsimp only at hSw); have z0 := cell_later hSw q0; have z1 := cell_later hSw q1; have z2 := cell_later hSw q2; have z3 := cell_later hSw q3; have z4 := cell_later hSw q4; have z5 := cell_later hSw q5; clear hSw; go_simp; try with_reducible rfl)
          case' rest42yx8 => (try simp only [Act.put, List.setIfInBounds_toArray, List.set_cons_zero, List.set_cons_succ])
          refine wpAnyH_take (i := 9) (oi := { dst := some 27, op := Op.load 44 (Operand.tmp 26), type := 44, pos := "l7_tree.go:210", after := #[{ on := 8, ground := Ground.data }], guard := none }) (v := ?v43yx9) rfl (by kernel_rfl) (by kernel_rfl) (by kernel_rfl) (fun _ _ _ h => h) (Or.inl ⟨by rfl, ?hy43yx9⟩) (by with_reducible assumption) ?rest43yx9
          case hy43yx9 => (intro wS hSw; (try dsimp only at hSw); have z0 := cell_later hSw q0; have z1 := cell_later hSw q1; have z2 := cell_later hSw q2; have z3 := cell_later hSw q3; have z4 := cell_later hSw q4; have z5 := cell_later hSw q5; clear hSw; go_simp; try with_reducible rfl)
          case' rest43yx9 => (try simp only [Act.put, List.setIfInBounds_toArray, List.set_cons_zero, List.set_cons_succ])
          refine wpAnyH_take (i := 10) (oi := { dst := some 28, op := Op.move (Operand.tmp 0), type := 24, pos := "l7_tree.go:210", after := #[], guard := none }) (v := ?v44yx10) rfl (by kernel_rfl) (by kernel_rfl) (by kernel_rfl) (fun _ _ _ h => h) (Or.inl ⟨by rfl, ?hy44yx10⟩) (by with_reducible assumption) ?rest44yx10
          case hy44yx10 => (intro wS hSw; (try dsimp only at hSw); have z0 := cell_later hSw q0; have z1 := cell_later hSw q1; have z2 := cell_later hSw q2; have z3 := cell_later hSw q3; have z4 := cell_later hSw q4; have z5 := cell_later hSw q5; clear hSw; go_simp; try with_reducible rfl)
          case' rest44yx10 => (try simp only [Act.put, List.setIfInBounds_toArray, List.set_cons_zero, List.set_cons_succ])
          refine wpAnyH_take (i := 11) (oi := { dst := some 29, op := Op.move (Operand.tmp 3), type := 3, pos := "l7_tree.go:210", after := #[], guard := none }) (v := ?v45yx11) rfl (by kernel_rfl) (by kernel_rfl) (by kernel_rfl) (fun _ _ _ h => h) (Or.inl ⟨by rfl, ?hy45yx11⟩) (by with_reducible assumption) ?rest45yx11
          case hy45yx11 => (intro wS hSw; (try dsimp only at hSw); have z0 := cell_later hSw q0; have z1 := cell_later hSw q1; have z2 := cell_later hSw q2; have z3 := cell_later hSw q3; have z4 := cell_later hSw q4; have z5 := cell_later hSw q5; clear hSw; go_simp; try with_reducible rfl)
          case' rest45yx11 => (try simp only [Act.put, List.setIfInBounds_toArray, List.set_cons_zero, List.set_cons_succ])
          refine wpAnyH_take (i := 12) (oi := { dst := some 30, op := Op.indexAddr 24 (Operand.tmp 28) (Operand.tmp 29), type := 0, pos := "l7_tree.go:210", after := #[{ on := 10, ground := Ground.data }, { on := 11, ground := Ground.data }], guard := none }) (v := ?v46yx12) rfl (by kernel_rfl) (by kernel_rfl) (by kernel_rfl) (fun _ _ _ h => h) (Or.inl ⟨by rfl, ?hy46yx12⟩) (by with_reducible assumption) ?rest46yx12
          case hy46yx12 => (intro wS hSw; (try dsimp only at hSw); have z0 := cell_later hSw q0; have z1 := cell_later hSw q1; have z2 := cell_later hSw q2; have z3 := cell_later hSw q3; have z4 := cell_later hSw q4; have z5 := cell_later hSw q5; clear hSw; go_simp; try with_reducible rfl)
          case' rest46yx12 => (try simp only [Act.put, List.setIfInBounds_toArray, List.set_cons_zero, List.set_cons_succ])
          refine wpAnyH_take (i := 13) (oi := { dst := some 31, op := Op.load 44 (Operand.tmp 30), type := 44, pos := "l7_tree.go:210", after := #[{ on := 12, ground := Ground.data }], guard := none }) (v := ?v47yx13) rfl (by kernel_rfl) (by kernel_rfl) (by kernel_rfl) (fun _ _ _ h => h) (Or.inl ⟨by rfl, ?hy47yx13⟩) (by with_reducible assumption) ?rest47yx13
          case hy47yx13 => (intro wS hSw; (try dsimp only at hSw); have z0 := cell_later hSw q0; have z1 := cell_later hSw q1; have z2 := cell_later hSw q2; have z3 := cell_later hSw q3; have z4 := cell_later hSw q4; have z5 := cell_later hSw q5; clear hSw; go_simp; try with_reducible rfl)
          case' rest47yx13 => (try simp only [Act.put, List.setIfInBounds_toArray, List.set_cons_zero, List.set_cons_succ])
          refine wpAnyH_ready (rs := [14]) (by kernel_rfl) (by simp) ?_
          refine AllReadyH.cons (o := { dst := some 32, op := Op.call { callee := Callee.value (Operand.func 46), args := #[Operand.tmp 22, Operand.tmp 27, Operand.tmp 31], argTypes := #[44, 44, 44] }, type := 4, pos := "l7_tree.go:210", after := #[{ on := 4, ground := Ground.data }, { on := 9, ground := Ground.data }, { on := 13, ground := Ground.data }], guard := none }) rfl (fun K hK => ?_) AllReadyH.nil
          go_simp
          refine (turnsLeft_c _ _ _ _ _ _ _ (cell_later (grew HBW.out hHeld) C0.out)).mono ?_
          rw [HT.out]
          rintro e w2 ⟨rfl, hb2⟩
          go_wp2_with fail
          refine hK.out _ _ ?_ (fun hHeld => ?_)
          · exact grew (by with_reducible assumption) hb2
          clear hK K
          try simp only [Act.put, List.setIfInBounds_toArray, List.set_cons_zero, List.set_cons_succ]
          refine wpAnyH_take (i := 15) (oi := { dst := some 33, op := Op.unOp UnOp.not 4 (Operand.tmp 32), type := 4, pos := "l7_tree.go:210", after := #[{ on := 14, ground := Ground.data }], guard := none }) (v := ?v48yx15) rfl (by kernel_rfl) (by kernel_rfl) (by kernel_rfl) (fun _ _ _ h => h) (Or.inl ⟨by rfl, ?hy48yx15⟩) (by with_reducible assumption) ?rest48yx15
          case hy48yx15 => (intro wS hSw; (try dsimp only at hSw); have z0 := cell_later hSw q0; have z1 := cell_later hSw q1; have z2 := cell_later hSw q2; have z3 := cell_later hSw q3; have z4 := cell_later hSw q4; have z5 := cell_later hSw q5; clear hSw; go_simp; try with_reducible rfl)
          case' rest48yx15 => (try simp only [Act.put, List.setIfInBounds_toArray, List.set_cons_zero, List.set_cons_succ])
          refine wpAnyH_done (by kernel_rfl) ?_ _
          go_wp2
          go_ret
          exact ⟨ret_bool (chI_no hkl HE.out).symm, grew HBW.out (by with_reducible assumption)⟩
        · go_upto_region 6 with fail
          refine wp_region_held_drew (S := (fun u => Below wr.heap.size wr u)) (by kernel_rfl) ?_ (fun hHeld => ?_)
          · exact (Below.refl _ _).drew
          refine wpAnyH_take (i := 0) (oi := { dst := some 18, op := Op.move (Operand.tmp 0), type := 24, pos := "l7_tree.go:210", after := #[], guard := none }) (v := ?v50yx0) rfl (by kernel_rfl) (by kernel_rfl) (by kernel_rfl) (fun _ _ _ h => h) (Or.inl ⟨by rfl, ?hy50yx0⟩) (by with_reducible assumption) ?rest50yx0
          case hy50yx0 => (intro wS hSw; (try dsimp only at hSw); have z0 := cell_later hSw q0; have z1 := cell_later hSw q1; have z2 := cell_later hSw q2; have z3 := cell_later hSw q3; have z4 := cell_later hSw q4; have z5 := cell_later hSw q5; clear hSw; go_simp; try with_reducible rfl)
          case' rest50yx0 => (try simp only [Act.put, List.setIfInBounds_toArray, List.set_cons_zero, List.set_cons_succ])
          refine wpAnyH_take (i := 1) (oi := { dst := some 19, op := Op.move (Operand.tmp 3), type := 3, pos := "l7_tree.go:210", after := #[], guard := none }) (v := ?v51yx1) rfl (by kernel_rfl) (by kernel_rfl) (by kernel_rfl) (fun _ _ _ h => h) (Or.inl ⟨by rfl, ?hy51yx1⟩) (by with_reducible assumption) ?rest51yx1
          case hy51yx1 => (intro wS hSw; (try dsimp only at hSw); have z0 := cell_later hSw q0; have z1 := cell_later hSw q1; have z2 := cell_later hSw q2; have z3 := cell_later hSw q3; have z4 := cell_later hSw q4; have z5 := cell_later hSw q5; clear hSw; go_simp; try with_reducible rfl)
          case' rest51yx1 => (try simp only [Act.put, List.setIfInBounds_toArray, List.set_cons_zero, List.set_cons_succ])
          refine wpAnyH_take (i := 2) (oi := { dst := some 20, op := Op.binOp BinOp.sub 3 (Operand.tmp 19) (Operand.const (Value.int IntKind.i64 2)) 3, type := 3, pos := "l7_tree.go:210", after := #[{ on := 1, ground := Ground.data }], guard := none }) (v := ?v52yx2) rfl (by kernel_rfl) (by kernel_rfl) (by kernel_rfl) (fun _ _ _ h => h) (Or.inl ⟨by rfl, ?hy52yx2⟩) (by with_reducible assumption) ?rest52yx2
          case hy52yx2 => (intro wS hSw; (try dsimp only at hSw); have z0 := cell_later hSw q0; have z1 := cell_later hSw q1; have z2 := cell_later hSw q2; have z3 := cell_later hSw q3; have z4 := cell_later hSw q4; have z5 := cell_later hSw q5; clear hSw; go_simp; try with_reducible rfl)
          case' rest52yx2 => (try simp only [Act.put, List.setIfInBounds_toArray, List.set_cons_zero, List.set_cons_succ])
          refine wpAnyH_take (i := 3) (oi := { dst := some 21, op := Op.indexAddr 24 (Operand.tmp 18) (Operand.tmp 20), type := 0, pos := "l7_tree.go:210", after := #[{ on := 0, ground := Ground.data }, { on := 2, ground := Ground.data }], guard := none }) (v := ?v53yx3) rfl (by kernel_rfl) (by kernel_rfl) (by kernel_rfl) (fun _ _ _ h => h) (Or.inl ⟨by rfl, ?hy53yx3⟩) (by with_reducible assumption) ?rest53yx3
          case hy53yx3 => (intro wS hSw; (try dsimp only at hSw); have z0 := cell_later hSw q0; have z1 := cell_later hSw q1; have z2 := cell_later hSw q2; have z3 := cell_later hSw q3; have z4 := cell_later hSw q4; have z5 := cell_later hSw q5; clear hSw; go_simp; try with_reducible rfl)
          case' rest53yx3 => (try simp only [Act.put, List.setIfInBounds_toArray, List.set_cons_zero, List.set_cons_succ])
          refine wpAnyH_take (i := 4) (oi := { dst := some 22, op := Op.load 44 (Operand.tmp 21), type := 44, pos := "l7_tree.go:210", after := #[{ on := 3, ground := Ground.data }], guard := none }) (v := ?v54yx4) rfl (by kernel_rfl) (by kernel_rfl) (by kernel_rfl) (fun _ _ _ h => h) (Or.inl ⟨by rfl, ?hy54yx4⟩) (by with_reducible assumption) ?rest54yx4
          case hy54yx4 => (intro wS hSw; (try dsimp only at hSw); have z0 := cell_later hSw q0; have z1 := cell_later hSw q1; have z2 := cell_later hSw q2; have z3 := cell_later hSw q3; have z4 := cell_later hSw q4; have z5 := cell_later hSw q5; clear hSw; go_simp; try with_reducible rfl)
          case' rest54yx4 => (try simp only [Act.put, List.setIfInBounds_toArray, List.set_cons_zero, List.set_cons_succ])
          refine wpAnyH_take (i := 5) (oi := { dst := some 23, op := Op.move (Operand.tmp 0), type := 24, pos := "l7_tree.go:210", after := #[], guard := none }) (v := ?v55yx5) rfl (by kernel_rfl) (by kernel_rfl) (by kernel_rfl) (fun _ _ _ h => h) (Or.inl ⟨by rfl, ?hy55yx5⟩) (by with_reducible assumption) ?rest55yx5
          case hy55yx5 => (intro wS hSw; (try dsimp only at hSw); have z0 := cell_later hSw q0; have z1 := cell_later hSw q1; have z2 := cell_later hSw q2; have z3 := cell_later hSw q3; have z4 := cell_later hSw q4; have z5 := cell_later hSw q5; clear hSw; go_simp; try with_reducible rfl)
          case' rest55yx5 => (try simp only [Act.put, List.setIfInBounds_toArray, List.set_cons_zero, List.set_cons_succ])
          refine wpAnyH_take (i := 6) (oi := { dst := some 24, op := Op.move (Operand.tmp 3), type := 3, pos := "l7_tree.go:210", after := #[], guard := none }) (v := ?v56yx6) rfl (by kernel_rfl) (by kernel_rfl) (by kernel_rfl) (fun _ _ _ h => h) (Or.inl ⟨by rfl, ?hy56yx6⟩) (by with_reducible assumption) ?rest56yx6
          case hy56yx6 => (intro wS hSw; (try dsimp only at hSw); have z0 := cell_later hSw q0; have z1 := cell_later hSw q1; have z2 := cell_later hSw q2; have z3 := cell_later hSw q3; have z4 := cell_later hSw q4; have z5 := cell_later hSw q5; clear hSw; go_simp; try with_reducible rfl)
          case' rest56yx6 => (try simp only [Act.put, List.setIfInBounds_toArray, List.set_cons_zero, List.set_cons_succ])
          refine wpAnyH_take (i := 7) (oi := { dst := some 25, op := Op.binOp BinOp.sub 3 (Operand.tmp 24) (Operand.const (Value.int IntKind.i64 1)) 3, type := 3, pos := "l7_tree.go:210", after := #[{ on := 6, ground := Ground.data }], guard := none }) (v := ?v57yx7) rfl (by kernel_rfl) (by kernel_rfl) (by kernel_rfl) (fun _ _ _ h => h) (Or.inl ⟨by rfl, ?hy57yx7⟩) (by with_reducible assumption) ?rest57yx7
          case hy57yx7 => (intro wS hSw; (try dsimp only at hSw); have z0 := cell_later hSw q0; have z1 := cell_later hSw q1; have z2 := cell_later hSw q2; have z3 := cell_later hSw q3; have z4 := cell_later hSw q4; have z5 := cell_later hSw q5; clear hSw; go_simp; try with_reducible rfl)
          case' rest57yx7 => (try simp only [Act.put, List.setIfInBounds_toArray, List.set_cons_zero, List.set_cons_succ])
          refine wpAnyH_take (i := 8) (oi := { dst := some 26, op := Op.indexAddr 24 (Operand.tmp 23) (Operand.tmp 25), type := 0, pos := "l7_tree.go:210", after := #[{ on := 5, ground := Ground.data }, { on := 7, ground := Ground.data }], guard := none }) (v := ?v58yx8) rfl (by kernel_rfl) (by kernel_rfl) (by kernel_rfl) (fun _ _ _ h => h) (Or.inl ⟨by rfl, ?hy58yx8⟩) (by with_reducible assumption) ?rest58yx8
          case hy58yx8 => (intro wS hSw; (try dsimp only at hSw); have z0 := cell_later hSw q0; have z1 := cell_later hSw q1; have z2 := cell_later hSw q2; have z3 := cell_later hSw q3; have z4 := cell_later hSw q4; have z5 := cell_later hSw q5; clear hSw; go_simp; try with_reducible rfl)
          case' rest58yx8 => (try simp only [Act.put, List.setIfInBounds_toArray, List.set_cons_zero, List.set_cons_succ])
          refine wpAnyH_take (i := 9) (oi := { dst := some 27, op := Op.load 44 (Operand.tmp 26), type := 44, pos := "l7_tree.go:210", after := #[{ on := 8, ground := Ground.data }], guard := none }) (v := ?v59yx9) rfl (by kernel_rfl) (by kernel_rfl) (by kernel_rfl) (fun _ _ _ h => h) (Or.inl ⟨by rfl, ?hy59yx9⟩) (by with_reducible assumption) ?rest59yx9
          case hy59yx9 => (intro wS hSw; (try dsimp only at hSw); have z0 := cell_later hSw q0; have z1 := cell_later hSw q1; have z2 := cell_later hSw q2; have z3 := cell_later hSw q3; have z4 := cell_later hSw q4; have z5 := cell_later hSw q5; clear hSw; go_simp; try with_reducible rfl)
          case' rest59yx9 => (try simp only [Act.put, List.setIfInBounds_toArray, List.set_cons_zero, List.set_cons_succ])
          refine wpAnyH_take (i := 10) (oi := { dst := some 28, op := Op.move (Operand.tmp 0), type := 24, pos := "l7_tree.go:210", after := #[], guard := none }) (v := ?v60yx10) rfl (by kernel_rfl) (by kernel_rfl) (by kernel_rfl) (fun _ _ _ h => h) (Or.inl ⟨by rfl, ?hy60yx10⟩) (by with_reducible assumption) ?rest60yx10
          case hy60yx10 => (intro wS hSw; (try dsimp only at hSw); have z0 := cell_later hSw q0; have z1 := cell_later hSw q1; have z2 := cell_later hSw q2; have z3 := cell_later hSw q3; have z4 := cell_later hSw q4; have z5 := cell_later hSw q5; clear hSw; go_simp; try with_reducible rfl)
          case' rest60yx10 => (try simp only [Act.put, List.setIfInBounds_toArray, List.set_cons_zero, List.set_cons_succ])
          refine wpAnyH_take (i := 11) (oi := { dst := some 29, op := Op.move (Operand.tmp 3), type := 3, pos := "l7_tree.go:210", after := #[], guard := none }) (v := ?v61yx11) rfl (by kernel_rfl) (by kernel_rfl) (by kernel_rfl) (fun _ _ _ h => h) (Or.inl ⟨by rfl, ?hy61yx11⟩) (by with_reducible assumption) ?rest61yx11
          case hy61yx11 => (intro wS hSw; (try dsimp only at hSw); have z0 := cell_later hSw q0; have z1 := cell_later hSw q1; have z2 := cell_later hSw q2; have z3 := cell_later hSw q3; have z4 := cell_later hSw q4; have z5 := cell_later hSw q5; clear hSw; go_simp; try with_reducible rfl)
          case' rest61yx11 => (try simp only [Act.put, List.setIfInBounds_toArray, List.set_cons_zero, List.set_cons_succ])
          refine wpAnyH_take (i := 12) (oi := { dst := some 30, op := Op.indexAddr 24 (Operand.tmp 28) (Operand.tmp 29), type := 0, pos := "l7_tree.go:210", after := #[{ on := 10, ground := Ground.data }, { on := 11, ground := Ground.data }], guard := none }) (v := ?v62yx12) rfl (by kernel_rfl) (by kernel_rfl) (by kernel_rfl) (fun _ _ _ h => h) (Or.inl ⟨by rfl, ?hy62yx12⟩) (by with_reducible assumption) ?rest62yx12
          case hy62yx12 => (intro wS hSw; (try dsimp only at hSw); have z0 := cell_later hSw q0; have z1 := cell_later hSw q1; have z2 := cell_later hSw q2; have z3 := cell_later hSw q3; have z4 := cell_later hSw q4; have z5 := cell_later hSw q5; clear hSw; go_simp; try with_reducible rfl)
          case' rest62yx12 => (try simp only [Act.put, List.setIfInBounds_toArray, List.set_cons_zero, List.set_cons_succ])
          refine wpAnyH_take (i := 13) (oi := { dst := some 31, op := Op.load 44 (Operand.tmp 30), type := 44, pos := "l7_tree.go:210", after := #[{ on := 12, ground := Ground.data }], guard := none }) (v := ?v63yx13) rfl (by kernel_rfl) (by kernel_rfl) (by kernel_rfl) (fun _ _ _ h => h) (Or.inl ⟨by rfl, ?hy63yx13⟩) (by with_reducible assumption) ?rest63yx13
          case hy63yx13 => (intro wS hSw; (try dsimp only at hSw); have z0 := cell_later hSw q0; have z1 := cell_later hSw q1; have z2 := cell_later hSw q2; have z3 := cell_later hSw q3; have z4 := cell_later hSw q4; have z5 := cell_later hSw q5; clear hSw; go_simp; try with_reducible rfl)
          case' rest63yx13 => (try simp only [Act.put, List.setIfInBounds_toArray, List.set_cons_zero, List.set_cons_succ])
          refine wpAnyH_ready (rs := [14]) (by kernel_rfl) (by simp) ?_
          refine AllReadyH.cons (o := { dst := some 32, op := Op.call { callee := Callee.value (Operand.func 46), args := #[Operand.tmp 22, Operand.tmp 27, Operand.tmp 31], argTypes := #[44, 44, 44] }, type := 4, pos := "l7_tree.go:210", after := #[{ on := 4, ground := Ground.data }, { on := 9, ground := Ground.data }, { on := 13, ground := Ground.data }], guard := none }) rfl (fun K hK => ?_) AllReadyH.nil
          go_simp
          refine (turnsLeft_c _ _ _ _ _ _ _ (cell_later (grew HBW.out hHeld) C0.out)).mono ?_
          rw [HT.out]
          rintro e w2 ⟨rfl, hb2⟩
          go_wp2_with fail
          refine hK.out _ _ ?_ (fun hHeld => ?_)
          · exact grew (by with_reducible assumption) hb2
          clear hK K
          try simp only [Act.put, List.setIfInBounds_toArray, List.set_cons_zero, List.set_cons_succ]
          refine wpAnyH_take (i := 15) (oi := { dst := some 33, op := Op.unOp UnOp.not 4 (Operand.tmp 32), type := 4, pos := "l7_tree.go:210", after := #[{ on := 14, ground := Ground.data }], guard := none }) (v := ?v64yx15) rfl (by kernel_rfl) (by kernel_rfl) (by kernel_rfl) (fun _ _ _ h => h) (Or.inl ⟨by rfl, ?hy64yx15⟩) (by with_reducible assumption) ?rest64yx15
          case hy64yx15 => (intro wS hSw; (try dsimp only at hSw); have z0 := cell_later hSw q0; have z1 := cell_later hSw q1; have z2 := cell_later hSw q2; have z3 := cell_later hSw q3; have z4 := cell_later hSw q4; have z5 := cell_later hSw q5; clear hSw; go_simp; try with_reducible rfl)
          case' rest64yx15 => (try simp only [Act.put, List.setIfInBounds_toArray, List.set_cons_zero, List.set_cons_succ])
          refine wpAnyH_done (by kernel_rfl) ?_ _
          go_wp2
          go_roundw
          case rel => exact ⟨k + 1, .inr (by omega), congrArg (Value.int IntKind.i64) (by have := hcm.out; first | exact this | omega | (unfold wrap64; omega)), HTT.out.succ HE.out, grew HBW.out (by with_reducible assumption)⟩
          case measure => simp [intOf]; omega
      · have E := hid (chI_yes HGL.out HL.out (fun i hi => HTT.out i (by omega)))
        go_wp2
        go_ret
        exact ⟨ret_bool E.out.symm, HBW.out⟩
end Go.Proofs.YtibmgoaildhclaaDoor
