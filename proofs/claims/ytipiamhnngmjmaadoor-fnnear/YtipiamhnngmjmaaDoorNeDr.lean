/-
  The draws of the law of near and far, and lists of lists of numbers compared (contracts for the walks).
  Conditions: as each theorem states them.
-/
import Derived.Test.YtipiamhnngmjmaaDoorDrNx
import Derived.Test.YtipiamhnngmjmaaDoorDrHull
import Derived.Test.YtipiamhnngmjmaaDoorIntLL
import Derived.Test.YtipiamhnngmjmaaDoorSameI
namespace Go.Proofs.YtipiamhnngmjmaaDoor
open Go.RowKit
set_option linter.unusedVariables false
set_option maxRecDepth 8000
set_option maxHeartbeats 2000000 in
theorem drawGood_c (a : Option Addr) (len cap : Nat) (w : World) (hB : Bytes w.heap.size a len w) (hl : len ≤ 1048576) :
    Calls Tryd.prog 65 #[.slice a len cap] w fun e w' => ∃ v, e = .returned v ∧ ∃ l, Own w.heap.size v l w' ∧ l.length ≤ 13 ∧ Below w.heap.size w w' := by
  have hR0 : Rd w.heap.size w.heap.size 0 (w.alloc (.cells #[.slice a len cap, .int .i64 0, .int .u64 0] 82)) := rd_new _ _ _ _ _ _ hB hl (by omega) rfl
  clear hB
  have hW : Below w.heap.size w (w.alloc (.cells #[.slice a len cap, .int .i64 0, .int .u64 0] 82)) := by go_grown
  have hsz : (w.alloc (.cells #[.slice a len cap, .int .i64 0, .int .u64 0] 82)).heap.size = w.heap.size + 1 := by simp
  go_enter Tryd.func65, Tryd.ntmps65
  go_upto_region 2 with fail
  generalize w.alloc (.cells #[.slice a len cap, .int .i64 0, .int .u64 0] 82) = wB at hR0 hW hsz ⊢
  go_wp2_with (go_at_call 70; refine (anySet_r w.heap.size w.heap.size 0 wB hR0 (by omega)).mono ?_; rintro e w1 ⟨v1, rfl, l, ho1, hl1, hR1, hO1⟩; obtain ⟨a1, p1, hv1⟩ := ho1.shape; subst hv1; have hs1 := hO1.size)
  go_ret
  exact ⟨_, rfl, l, ho1.mono (by omega), hl1, hW.trans (hO1.below (by omega) (Nat.le_refl _))⟩
theorem drawNear_c (a : Option Addr) (len cap : Nat) (w : World) (hB : Bytes w.heap.size a len w) (hl : len ≤ 1048576) :
    Calls Tryd.prog 37 #[.slice a len cap] w fun e w' => ∃ v, e = .returned v ∧ ∃ l, Own w.heap.size v l w' ∧ l.length ≤ 13 ∧ Below w.heap.size w w' := by
  have HB := hid hB
  clear hB
  go_enter Tryd.func37, Tryd.ntmps37
  go_wp2_with (go_at_call 65; refine (drawGood_c _ _ _ _ HB.out hl).mono ?_; rintro e w1 ⟨v1, rfl, l, ho1, hl1, hb1⟩; obtain ⟨a1, p1, hv1⟩ := ho1.shape; subst hv1)
  go_ret
  exact ⟨_, rfl, l, ho1, hl1, hb1⟩
set_option maxHeartbeats 2000000 in
theorem drawGoodHull_c (a : Option Addr) (len cap : Nat) (w : World) (hB : Bytes w.heap.size a len w) (hl : len ≤ 1048576) :
    Calls Tryd.prog 67 #[.slice a len cap] w fun e w' => ∃ v, e = .returned v ∧ ∃ l, OwnC w.heap.size v l w' ∧ l.length ≤ 25 ∧ Below w.heap.size w w' := by
  have hR0 : Rd w.heap.size w.heap.size 0 (w.alloc (.cells #[.slice a len cap, .int .i64 0, .int .u64 0] 82)) := rd_new _ _ _ _ _ _ hB hl (by omega) rfl
  clear hB
  have hW : Below w.heap.size w (w.alloc (.cells #[.slice a len cap, .int .i64 0, .int .u64 0] 82)) := by go_grown
  have hsz : (w.alloc (.cells #[.slice a len cap, .int .i64 0, .int .u64 0] 82)).heap.size = w.heap.size + 1 := by simp
  go_enter Tryd.func67, Tryd.ntmps67
  go_upto_region 2 with fail
  generalize w.alloc (.cells #[.slice a len cap, .int .i64 0, .int .u64 0] 82) = wB at hR0 hW hsz ⊢
  go_wp2_with (go_at_call 94; refine (anyHull_r w.heap.size w.heap.size 0 wB hR0 (by omega)).mono ?_; rintro e w1 ⟨v1, rfl, l, ho1, hl1, hR1, hO1⟩; obtain ⟨a1, p1, hv1⟩ := ho1.shape; subst hv1; have hs1 := hO1.size)
  go_ret
  exact ⟨_, rfl, l, ho1.mono (by omega), hl1, hW.trans (hO1.below (by omega) (Nat.le_refl _))⟩
theorem drawAcross_c (a : Option Addr) (len cap : Nat) (w : World) (hB : Bytes w.heap.size a len w) (hl : len ≤ 1048576) :
    Calls Tryd.prog 40 #[.slice a len cap] w fun e w' => ∃ v, e = .returned v ∧ ∃ l, OwnC w.heap.size v l w' ∧ l.length ≤ 25 ∧ Below w.heap.size w w' := by
  have HB := hid hB
  clear hB
  go_enter Tryd.func40, Tryd.ntmps40
  go_wp2_with (go_at_call 67; refine (drawGoodHull_c _ _ _ _ HB.out hl).mono ?_; rintro e w1 ⟨v1, rfl, l, ho1, hl1, hb1⟩; obtain ⟨a1, p1, hv1⟩ := ho1.shape; subst hv1)
  go_ret
  exact ⟨_, rfl, l, ho1, hl1, hb1⟩
set_option maxHeartbeats 4000000 in
theorem sameLists_c (L : List (List Int)) (a c : Option Addr) (n cap cam : Nat) (w : World) (hn : L.length = n) (h1 : n ≤ 1048576) (h2 : ∀ i, i < n → (nthI L i).length ≤ 1048576) (hA : AtIS w.heap.size a L w) (hB : AtIS w.heap.size c L w) :
    Calls Tryd.prog 41 #[.slice a n cap, .slice c n cam] w fun e w' => e = .returned (.bool true) ∧ Below w.heap.size w w' := by
  subst hn
  have HA := hid hA
  have HB := hid hB
  clear hA hB
  go_enter Tryd.func41, Tryd.ntmps41
  go_wp2
  go_loopw [13] (fun i wr => ∃ k : Nat, k ≤ L.length ∧ i = .int .i64 k ∧ Below w.heap.size w wr) (fun i _ => L.length - (intOf i).toNat)
  case atStart => exact ⟨0, Nat.zero_le _, rfl, Below.refl _ _⟩
  case round =>
    obtain ⟨k, hk, rfl, hbw⟩ := hrel
    by_cases hkl : k < L.length
    · obtain ⟨b, off, ai, ci, rfl, hN, g0, i0⟩ := HA.out k hkl
      obtain ⟨b', off', ai', ci', rfl, hN', g1, i1⟩ := HB.out k hkl
      have k0 := cell_later hbw g0
      have k1 := cell_later hbw g1
      have I0 := hid (i0.later hbw)
      have I1 := hid (i1.later hbw)
      have hl := h2 k hkl
      have hd : decide ((k : Int) < (L.length : Int)) = true := decide_eq_true (by omega)
      have j0 : (0 : Int) ≤ (k : Int) := by omega
      have j1 : (k : Int) < (L.length : Int) := by omega
      obtain ⟨R, hR⟩ : ∃ R, nthI L k = R := ⟨_, rfl⟩
      rw [hR] at k0 k1 I0 I1 hl
      clear g0 g1 i0 i1 hR
      have HBW := hid hbw
      have hsz := hbw.size
      clear hbw
      go_wp2
      refine wp_region_held_drew (S := (fun u => Below wr.heap.size wr u)) (by kernel_rfl) ?_ (fun hHeld => ?_)
      · exact (Below.refl _ _).drew
      refine wpAnyH_take (i := 0) (oi := { dst := some 16, op := Op.move (Operand.tmp 0), type := 39, pos := "laws.go:27", after := #[], guard := none }) (v := ?v2yx0) rfl (by kernel_rfl) (by kernel_rfl) (by kernel_rfl) (fun _ _ _ h => h) (Or.inl ⟨by rfl, ?hy2yx0⟩) (by with_reducible assumption) ?rest2yx0
      case hy2yx0 => (intro wS hSw; (try dsimp only at hSw); have z0 := cell_later hSw k0; have z1 := cell_later hSw k1; clear hSw; go_simp; try with_reducible rfl)
      case' rest2yx0 => (try simp only [Act.put, List.setIfInBounds_toArray, List.set_cons_zero, List.set_cons_succ])
      refine wpAnyH_take (i := 1) (oi := { dst := some 17, op := Op.move (Operand.tmp 5), type := 3, pos := "laws.go:27", after := #[], guard := none }) (v := ?v3yx1) rfl (by kernel_rfl) (by kernel_rfl) (by kernel_rfl) (fun _ _ _ h => h) (Or.inl ⟨by rfl, ?hy3yx1⟩) (by with_reducible assumption) ?rest3yx1
      case hy3yx1 => (intro wS hSw; (try dsimp only at hSw); have z0 := cell_later hSw k0; have z1 := cell_later hSw k1; clear hSw; go_simp; try with_reducible rfl)
      case' rest3yx1 => (try simp only [Act.put, List.setIfInBounds_toArray, List.set_cons_zero, List.set_cons_succ])
      refine wpAnyH_take (i := 2) (oi := { dst := some 18, op := Op.indexAddr 39 (Operand.tmp 16) (Operand.tmp 17), type := 0, pos := "laws.go:27", after := #[{ on := 0, ground := Ground.data }, { on := 1, ground := Ground.data }], guard := none }) (v := ?v4yx2) rfl (by kernel_rfl) (by kernel_rfl) (by kernel_rfl) (fun _ _ _ h => h) (Or.inl ⟨by rfl, ?hy4yx2⟩) (by with_reducible assumption) ?rest4yx2
      case hy4yx2 => (intro wS hSw; (try dsimp only at hSw); have z0 := cell_later hSw k0; have z1 := cell_later hSw k1; clear hSw; go_simp; try with_reducible rfl)
      case' rest4yx2 => (try simp only [Act.put, List.setIfInBounds_toArray, List.set_cons_zero, List.set_cons_succ])
      refine wpAnyH_take (i := 3) (oi := { dst := some 19, op := Op.load 56 (Operand.tmp 18), type := 56, pos := "laws.go:27", after := #[{ on := 2, ground := Ground.data }], guard := none }) (v := ?v5yx3) rfl (by kernel_rfl) (by kernel_rfl) (by kernel_rfl) (fun _ _ _ h => h) (Or.inl ⟨by rfl, ?hy5yx3⟩) (by with_reducible assumption) ?rest5yx3
      case hy5yx3 => (intro wS hSw; (try dsimp only at hSw); have z0 := cell_later hSw k0; have z1 := cell_later hSw k1; clear hSw; go_simp; try with_reducible rfl)
      case' rest5yx3 => (try simp only [Act.put, List.setIfInBounds_toArray, List.set_cons_zero, List.set_cons_succ])
      refine wpAnyH_take (i := 4) (oi := { dst := some 20, op := Op.move (Operand.tmp 1), type := 39, pos := "laws.go:27", after := #[], guard := none }) (v := ?v6yx4) rfl (by kernel_rfl) (by kernel_rfl) (by kernel_rfl) (fun _ _ _ h => h) (Or.inl ⟨by rfl, ?hy6yx4⟩) (by with_reducible assumption) ?rest6yx4
      case hy6yx4 => (intro wS hSw; (try dsimp only at hSw); have z0 := cell_later hSw k0; have z1 := cell_later hSw k1; clear hSw; go_simp; try with_reducible rfl)
      case' rest6yx4 => (try simp only [Act.put, List.setIfInBounds_toArray, List.set_cons_zero, List.set_cons_succ])
      refine wpAnyH_take (i := 5) (oi := { dst := some 21, op := Op.move (Operand.tmp 5), type := 3, pos := "laws.go:27", after := #[], guard := none }) (v := ?v7yx5) rfl (by kernel_rfl) (by kernel_rfl) (by kernel_rfl) (fun _ _ _ h => h) (Or.inl ⟨by rfl, ?hy7yx5⟩) (by with_reducible assumption) ?rest7yx5
      case hy7yx5 => (intro wS hSw; (try dsimp only at hSw); have z0 := cell_later hSw k0; have z1 := cell_later hSw k1; clear hSw; go_simp; try with_reducible rfl)
      case' rest7yx5 => (try simp only [Act.put, List.setIfInBounds_toArray, List.set_cons_zero, List.set_cons_succ])
      refine wpAnyH_take (i := 6) (oi := { dst := some 22, op := Op.indexAddr 39 (Operand.tmp 20) (Operand.tmp 21), type := 0, pos := "laws.go:27", after := #[{ on := 4, ground := Ground.data }, { on := 5, ground := Ground.data }], guard := none }) (v := ?v8yx6) rfl (by kernel_rfl) (by kernel_rfl) (by kernel_rfl) (fun _ _ _ h => h) (Or.inl ⟨by rfl, ?hy8yx6⟩) (by with_reducible assumption) ?rest8yx6
      case hy8yx6 => (intro wS hSw; (try dsimp only at hSw); have z0 := cell_later hSw k0; have z1 := cell_later hSw k1; clear hSw; go_simp; try with_reducible rfl)
      case' rest8yx6 => (try simp only [Act.put, List.setIfInBounds_toArray, List.set_cons_zero, List.set_cons_succ])
      refine wpAnyH_take (i := 7) (oi := { dst := some 23, op := Op.load 56 (Operand.tmp 22), type := 56, pos := "laws.go:27", after := #[{ on := 6, ground := Ground.data }], guard := none }) (v := ?v9yx7) rfl (by kernel_rfl) (by kernel_rfl) (by kernel_rfl) (fun _ _ _ h => h) (Or.inl ⟨by rfl, ?hy9yx7⟩) (by with_reducible assumption) ?rest9yx7
      case hy9yx7 => (intro wS hSw; (try dsimp only at hSw); have z0 := cell_later hSw k0; have z1 := cell_later hSw k1; clear hSw; go_simp; try with_reducible rfl)
      case' rest9yx7 => (try simp only [Act.put, List.setIfInBounds_toArray, List.set_cons_zero, List.set_cons_succ])
      refine wpAnyH_ready (rs := [8]) (by kernel_rfl) (by simp) ?_
      refine AllReadyH.cons (o := { dst := some 24, op := Op.call { callee := Callee.value (Operand.func 68), args := #[Operand.tmp 19, Operand.tmp 23], argTypes := #[56, 56] }, type := 4, pos := "laws.go:27", after := #[{ on := 3, ground := Ground.data }, { on := 7, ground := Ground.data }], guard := none }) rfl (fun K hK => ?_) AllReadyH.nil
      go_simp
      refine (sameI_c R R _ _ _ _ _ _ _ rfl rfl hl hl ((I0.out.after hHeld).mono (Nat.le_trans hsz hHeld.size)) ((I1.out.after hHeld).mono (Nat.le_trans hsz hHeld.size))).mono ?_
      rintro e w3 ⟨rfl, hb3⟩
      go_wp2_with fail
      refine hK.out _ _ ?_ (fun hHeld => ?_)
      · exact grew (by with_reducible assumption) hb3
      clear hK K
      try simp only [Act.put, List.setIfInBounds_toArray, List.set_cons_zero, List.set_cons_succ]
      refine wpAnyH_take (i := 9) (oi := { dst := some 25, op := Op.unOp UnOp.not 4 (Operand.tmp 24), type := 4, pos := "laws.go:27", after := #[{ on := 8, ground := Ground.data }], guard := none }) (v := ?v10yx9) rfl (by kernel_rfl) (by kernel_rfl) (by kernel_rfl) (fun _ _ _ h => h) (Or.inl ⟨by rfl, ?hy10yx9⟩) (by with_reducible assumption) ?rest10yx9
      case hy10yx9 => (intro wS hSw; (try dsimp only at hSw); have z0 := cell_later hSw k0; have z1 := cell_later hSw k1; clear hSw; go_simp; try with_reducible rfl)
      case' rest10yx9 => (try simp only [Act.put, List.setIfInBounds_toArray, List.set_cons_zero, List.set_cons_succ])
      refine wpAnyH_done (by kernel_rfl) ?_ _
      go_wp2
      go_roundw
      case rel => exact ⟨k + 1, by omega, by go_num, grew HBW.out (by with_reducible assumption)⟩
      case measure => simp [intOf]; omega
    · obtain rfl : k = L.length := by omega
      go_wp2
      go_ret
      exact ⟨rfl, hbw⟩
end Go.Proofs.YtipiamhnngmjmaaDoor
