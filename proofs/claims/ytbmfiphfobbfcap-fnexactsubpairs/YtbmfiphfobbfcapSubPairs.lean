/-
  For every two pairs, impl.SubPairs tells what the specification's SubPairs tells, returns, and leaves its arguments as they were.
  Conditions: none beyond the row's own (for every input that can be read as data).
-/
import Derived.Test.YtbmfiphfobbfcapRows
import Derived.WalkKit
import Derived.ProofKit
import Derived.OpenShut
import Derived.Lib.SmallJoins
import Derived.Handy
import Derived.Shelf.Spec.BitsCarry
import Derived.Deep.RegionHeld3
import Derived.Deep.DeepCutAuto
import Derived.WalkSpells
namespace Go.Proofs.Ytbmfiphfobbfcap.fnExactSubPairs
open Go.ChangeShapes Go.WideShapes Go.ChangeAt Go.RowKit Go.Joins
set_option linter.unusedVariables false
theorem own : ownKnob Try.prog.godebug = none := by kernel_rfl
theorem cells24 : Try.prog.cellsOf 24 = 2 := by kernel_rfl
/-- The call of math/bits.Sub64, as the model runs it. -/
theorem sub64 (x y b : Nat) (hb : b ≤ 1) (w : World) :
    (callFunc 11 #[.int .u64 x, .int .u64 y, .int .u64 b]).run Try.prog w =
      .ok (.value (.tuple #[.int .u64 (((x + 18446744073709551616 - y - b) % 18446744073709551616 : Nat) : Int), .int .u64 ((if x < y + b then 1 else 0 : Nat) : Int)])) w := by
  rw [run_callFunc_extern Try.func11 (by kernel_rfl) (by kernel_rfl) (by kernel_rfl) (e := sub64Entry) (by kernel_rfl), run_sub64 x y b hb]
  rfl
theorem sub64I (x y b : Int) (hx : 0 ≤ x) (hy : 0 ≤ y) (hy' : y ≤ 18446744073709551615) (hb0 : 0 ≤ b) (hb : b ≤ 1) :
    ∃ d o : Int, (∀ w, (callFunc 11 #[.int .u64 x, .int .u64 y, .int .u64 b]).run Try.prog w = .ok (.value (.tuple #[.int .u64 d, .int .u64 o])) w) ∧ Hid (d = (x - y - b) % 18446744073709551616) ∧ o = if x < y + b then 1 else 0 := by
  obtain ⟨x, rfl⟩ := Int.eq_ofNat_of_zero_le hx
  obtain ⟨y, rfl⟩ := Int.eq_ofNat_of_zero_le hy
  obtain ⟨b, rfl⟩ := Int.eq_ofNat_of_zero_le hb0
  refine ⟨_, _, fun w => sub64 x y b (by omega) w, ?_, ?_⟩
  · show _ = _
    omega
  · split <;> split <;> omega
def subLo (y0 y1 : Int) : Int := (y0 - y1) % 18446744073709551616
def subHi (x0 y0 x1 y1 : Int) : Int := if y0 < y1 then wrap64 (x0 - x1 - 1) else wrap64 (x0 - x1)
theorem ret_pair {a b c d : Int} (h : a = c) (k : b = d) : Ending.returned (.agg #[.int .i64 a, .int .u64 b]) = .returned (.agg #[.int .i64 c, .int .u64 d]) := by rw [h, k]
theorem u64_lo (x : Int) : 0 ≤ IntKind.u64.wrap x := by rw [IntKind.wrap_u64]; omega
theorem u64_hi (x : Int) : IntKind.u64.wrap x ≤ 18446744073709551615 := by rw [IntKind.wrap_u64]; omega
theorem hi_eq {x0 x1 d b : Int} (hd : d = (IntKind.u64.wrap x0 - IntKind.u64.wrap x1 - b) % 18446744073709551616) : wrap64 d = wrap64 (x0 - x1 - b) := by
  rw [IntKind.wrap_u64, IntKind.wrap_u64] at hd
  unfold wrap64
  omega
theorem impl_c (x0 y0 x1 y1 : Int) (w : World) (b0 : 0 ≤ y0) (b0' : y0 ≤ 18446744073709551615) (b1 : 0 ≤ y1) (b1' : y1 ≤ 18446744073709551615) :
    Calls Try.prog 7 #[.agg #[.int .i64 x0, .int .u64 y0], .agg #[.int .i64 x1, .int .u64 y1]] w fun e w' => e = .returned (.agg #[.int .i64 (subHi x0 y0 x1 y1), .int .u64 (subLo y0 y1)]) ∧ w' = ((w.alloc (.cells #[.int .i64 x0, .int .u64 y0] 25)).alloc (.cells #[.int .i64 x1, .int .u64 y1] 25)).alloc (.cells #[.int .i64 (subHi x0 y0 x1 y1), .int .u64 (subLo y0 y1)] 25) := by
  obtain ⟨d, o, hrun, hd, ho⟩ := sub64I y0 y1 0 b0 (by omega) b1' (by omega) (by omega)
  have hlo : Hid (d = subLo y0 y1) := by have := hd.out; unfold subLo; show _ = _; omega
  by_cases h1 : y0 < y1
  · rw [if_pos (by omega)] at ho
    subst ho
    obtain ⟨d2, o2, hrun2, hd2, ho2⟩ := sub64I (IntKind.u64.wrap x0) (IntKind.u64.wrap x1) 1 (u64_lo _) (u64_lo _) (u64_hi _) (by omega) (by omega)
    clear ho2 hd
    have hhi : Hid (wrap64 d2 = subHi x0 y0 x1 y1) := by
      show _ = _
      rw [hi_eq hd2.out]; unfold subHi; rw [if_pos h1]
    go_enter Try.func7, Try.ntmps7
    go_wp2
    go_returns
    exact ⟨ret_pair hhi.out hlo.out, by rw [← hhi.out, ← hlo.out]⟩
  · rw [if_neg (by omega)] at ho
    subst ho
    obtain ⟨d2, o2, hrun2, hd2, ho2⟩ := sub64I (IntKind.u64.wrap x0) (IntKind.u64.wrap x1) 0 (u64_lo _) (u64_lo _) (u64_hi _) (by omega) (by omega)
    clear ho2 hd
    have hhi : Hid (wrap64 d2 = subHi x0 y0 x1 y1) := by
      show _ = _
      rw [hi_eq hd2.out]; unfold subHi; rw [if_neg h1, Int.sub_zero]
    go_enter Try.func7, Try.ntmps7
    go_wp2
    go_returns
    exact ⟨ret_pair hhi.out hlo.out, by rw [← hhi.out, ← hlo.out]⟩
theorem spec_c (x0 y0 x1 y1 : Int) (w : World) (b0 : 0 ≤ y0) (b0' : y0 ≤ 18446744073709551615) (b1 : 0 ≤ y1) (b1' : y1 ≤ 18446744073709551615) :
    Calls Try.prog 5 #[.agg #[.int .i64 x0, .int .u64 y0], .agg #[.int .i64 x1, .int .u64 y1]] w fun e w' => e = .returned (.agg #[.int .i64 (subHi x0 y0 x1 y1), .int .u64 (subLo y0 y1)]) ∧ w' = (((w.alloc (.cells #[.int .i64 x0, .int .u64 y0] 25)).alloc (.cells #[.int .i64 x1, .int .u64 y1] 25)).alloc (.cells #[.int .i64 (subHi x0 y0 x1 y1), .int .u64 (subLo y0 y1)] 25)).alloc (.cells #[.int .i64 (subHi x0 y0 x1 y1), .int .u64 (subLo y0 y1)] 25) := by
  by_cases h1 : y0 < y1
  · have hlo : Hid (IntKind.u64.wrap (y0 - y1) = subLo y0 y1) := by unfold subLo; show _ = _; rw [IntKind.wrap_u64]
    have hhi : Hid (wrap64 (wrap64 (x0 - x1) - 1) = subHi x0 y0 x1 y1) := by show _ = _; unfold subHi wrap64; rw [if_pos h1]; omega
    go_enter Try.func5, Try.ntmps5
    go_wp2
    go_returns
    exact ⟨ret_pair hhi.out hlo.out, by rw [← hhi.out, ← hlo.out]⟩
  · have hlo : Hid (y0 - y1 = subLo y0 y1) := by unfold subLo; show _ = _; omega
    have hhi : Hid (wrap64 (x0 - x1) = subHi x0 y0 x1 y1) := by show _ = _; unfold subHi; rw [if_neg h1]
    go_enter Try.func5, Try.ntmps5
    go_wp2
    go_returns
    exact ⟨ret_pair hhi.out hlo.out, by rw [← hhi.out, ← hlo.out]⟩
theorem toPair_c (x y : Int) (w : World) :
    Calls Try.prog 6 #[.agg #[.int .i64 x, .int .u64 y]] w fun e w' => e = .returned (.agg #[.int .i64 x, .int .u64 y]) ∧ w' = ((w.alloc (.cells #[.int .i64 x, .int .u64 y] 24)).alloc (.cells #[.int .i64 x, .int .u64 y] 25)).alloc (.cells #[.int .i64 x, .int .u64 y] 25) := by
  go_enter Try.func6, Try.ntmps6
  go_wp2
  go_returns
  exact ⟨rfl, rfl⟩
theorem eqPair_c (x y : Int) (w : World) :
    Calls Try.prog 8 #[.agg #[.int .i64 x, .int .u64 y], .agg #[.int .i64 x, .int .u64 y]] w fun e w' => e = .returned (.bool true) ∧ w' = (w.alloc (.cells #[.int .i64 x, .int .u64 y] 25)).alloc (.cells #[.int .i64 x, .int .u64 y] 25) := by
  go_enter Try.func8, Try.ntmps8
  go_wp2
  go_ret
  exact ⟨rfl, rfl⟩
theorem keepc {w W' : World} (x0 y0 x1 y1 : Int) (hb : Below ((w.alloc (.cells #[.int .i64 x0, .int .u64 y0] 24)).alloc (.cells #[.int .i64 x1, .int .u64 y1] 24)).heap.size ((w.alloc (.cells #[.int .i64 x0, .int .u64 y0] 24)).alloc (.cells #[.int .i64 x1, .int .u64 y1] 24)) W') :
    W'.cell? ⟨w.heap.size, 0, none⟩ = some (.int .i64 x0) ∧ W'.cell? ⟨w.heap.size, 1, none⟩ = some (.int .u64 y0) ∧ W'.cell? ⟨w.heap.size + 1, 0, none⟩ = some (.int .i64 x1) ∧ W'.cell? ⟨w.heap.size + 1, 1, none⟩ = some (.int .u64 y1) :=
  ⟨cell_later hb (by go_simp), cell_later hb (by go_simp), cell_later hb (by go_simp), cell_later hb (by go_simp)⟩
set_option maxHeartbeats 4000000 in
theorem walk (x0 y0 x1 y1 : Int) (wx0 : (Lit.int .i64 x0).wf = true) (wy0 : (Lit.int .u64 y0).wf = true) (wx1 : (Lit.int .i64 x1).wf = true) (wy1 : (Lit.int .u64 y1).wf = true) (w : World) :
    Calls Try.prog 3 #[.agg #[.int .i64 x0, .int .u64 y0], .agg #[.int .i64 x1, .int .u64 y1]] w fun e w' => e = .returned (.bool true) ∧ Below w.heap.size w w' := by
  obtain ⟨b0, b0'⟩ := bounds_u64 wy0
  obtain ⟨b1, b1'⟩ := bounds_u64 wy1
  clear wx0 wy0 wx1 wy1
  go_enter Try.func3, Try.ntmps3
  go_wp2_with fail
  go_region_held3 (fun w' => w'.cell? ⟨w.heap.size, 0, none⟩ = some (.int .i64 x0) ∧ w'.cell? ⟨w.heap.size, 1, none⟩ = some (.int .u64 y0) ∧ w'.cell? ⟨w.heap.size + 1, 0, none⟩ = some (.int .i64 x1) ∧ w'.cell? ⟨w.heap.size + 1, 1, none⟩ = some (.int .u64 y1)) ((refine keepc x0 y0 x1 y1 ?_; go_grown))
    (first | (go_at_call 6; refine (toPair_c _ _ _).mono ?_; rintro e w' ⟨rfl, rfl⟩) | (go_at_call 5; refine (spec_c _ _ _ _ _ b0 b0' b1 b1').mono ?_; rintro e w' ⟨rfl, rfl⟩))
  all_goals go_wp2_with fail
  all_goals
    go_region_held3 (fun w' => w'.cell? ⟨w.heap.size, 0, none⟩ = some (.int .i64 x0) ∧ w'.cell? ⟨w.heap.size, 1, none⟩ = some (.int .u64 y0) ∧ w'.cell? ⟨w.heap.size + 1, 0, none⟩ = some (.int .i64 x1) ∧ w'.cell? ⟨w.heap.size + 1, 1, none⟩ = some (.int .u64 y1)) ((refine keepc x0 y0 x1 y1 ?_; go_grown))
      (first | (go_at_call 6; refine (toPair_c _ _ _).mono ?_; rintro e w' ⟨rfl, rfl⟩) | (go_at_call 7; refine (impl_c _ _ _ _ _ b0 b0' b1 b1').mono ?_; rintro e w' ⟨rfl, rfl⟩))
  all_goals go_wp2_with (go_at_call 8; refine (eqPair_c _ _ _).mono ?_; rintro e w' ⟨rfl, rfl⟩)
  all_goals go_ret
  all_goals exact ⟨rfl, by go_grown⟩

set_option maxRecDepth 100000 in
theorem lifted (os : Os) (started : os.Started) (H : Type) (enc : TypeId × Value → H) :
    ReturnsInHanded {} Try.checked os 3 .any (Rows.fnExactSubPairsSpec.pre6 enc Try.prog Try.f3 Rows.fnExactSubPairsRow.domain false) (Rows.fnExactSubPairsSpec.post enc Try.prog Try.f3 false true false false) := by
  refine returnsInHanded_of_change (C := Try.checked) own started (by kernel_rfl) Try.func3
    (ChangeSpec.witness6 (enc := enc) (C := Try.checked) false ⟨#[], #[.agg #[.int .i64 0, .int .u64 0], .agg #[.int .i64 0, .int .u64 0]], []⟩ 8 (by kernel_rfl) (by kernel_rfl) (by kernel_rfl) (by kernel_rfl)) ?_
  intro W base args ds gs before hval0 hW hcnd _
  have hval : ∀ (j : Nat) t v, Try.f3.params[j]? = some t → args[j]? = some v → Value.okWide Try.prog W .any base t v := hval0
  have hW' := hW
  obtain ⟨p, q, hA0, hV, rfl, hfz, hnd⟩ := hW
  have hA : DataW.TrodAll enc Try.prog W 0 (fun _ => true) true Try.f3.params.toList args.toList ds p := hA0
  rw [Try.params3] at hA hval
  obtain ⟨v0, vs0, d0, ds0, p0, q0, hargs, rfl, rfl, h0, r0⟩ := trodAll_cons hA
  obtain ⟨v1, vs1, d1, ds1, p1, q1, rfl, rfl, rfl, h1, r1⟩ := trodAll_cons r0
  obtain ⟨rfl, rfl, rfl⟩ := trodAll_nil r1
  obtain rfl : args = #[v0, v1] := by cases args; simp_all
  obtain ⟨rfl, rfl⟩ := trodVars_none hV
  obtain ⟨c0, c1, z0, z1, m, rfl, rfl, rfl, hz0, hz1⟩ := open_agg2 Try.underlying24 (by kernel_rfl) cells24 (hval 0 24 v0 rfl rfl) h0
  obtain ⟨x0, e0, rfl, wx0⟩ := DataW.trod_int Try.underlying3 hz0
  obtain ⟨y0, e1, rfl, wy0⟩ := DataW.trod_int Try.underlying22 hz1
  simp at e0 e1
  subst e0 e1
  obtain ⟨c0, c1, z0, z1, m, rfl, rfl, rfl, hz0, hz1⟩ := open_agg2 Try.underlying24 (by kernel_rfl) cells24 (hval 1 24 v1 rfl rfl) h1
  obtain ⟨x1, e0, rfl, wx1⟩ := DataW.trod_int Try.underlying3 hz0
  obtain ⟨y1, e1, rfl, wy1⟩ := DataW.trod_int Try.underlying22 hz1
  simp at e0 e1
  subst e0 e1
  clear hA0 hval0
  simp only [List.append_nil] at hW'
  refine (walk x0 y0 x1 y1 wx0 wy0 wx1 wy1 W).mono fun e W' ⟨he, hg⟩ => ?_
  subst he
  exact ⟨_, rfl, _, _, _, [], [], [], hW', trodAll_mk1 (shut_bool Try.underlying4 _), (trodAll_cons_mk (shut_agg2 (y0 := (.lit (.int .i64 x0), [])) (y1 := (.lit (.int .u64 y0), [])) Try.underlying24 (by kernel_rfl) cells24 ⟨1, by simp [DataW.trod, Try.underlying3, wx0]⟩ ⟨1, by simp [DataW.trod, Try.underlying22, wy0]⟩) (trodAll_cons_mk (shut_agg2 (y0 := (.lit (.int .i64 x1), [])) (y1 := (.lit (.int .u64 y1), [])) Try.underlying24 (by kernel_rfl) cells24 ⟨1, by simp [DataW.trod, Try.underlying3, wx1]⟩ ⟨1, by simp [DataW.trod, Try.underlying22, wy1]⟩) trodAll_mk0)), rfl, hg.frame _, fun h => by cases h⟩
theorem over : Rows.fnExactSubPairsRow.holds Try.pinned (OpenSpec.ofChange Rows.fnExactSubPairsSpec) :=
  OpenClaim.holds_of_wide 3 Try.f3 rfl rfl rfl rfl rfl rfl rfl ⟨rfl, rfl, rfl, rfl, rfl⟩ rfl rfl rfl rfl rfl (by kernel_rfl) Try.func3 (by kernel_rfl)
    (of_decide_eq_true (by kernel_rfl)) (by unfold Func.isWrapper; first | (rw [if_pos (by decide +kernel)]; kernel_rfl) | (rw [if_neg (by decide +kernel)]; exact ⟨rfl, rfl⟩))
    (fun os started H enc _ => lifted os started H enc)
end Go.Proofs.Ytbmfiphfobbfcap.fnExactSubPairs
namespace Go.Proofs.Ytbmfiphfobbfcap
theorem fnExactSubPairs_holds : Rows.FnExactSubPairsSaid := fnExactSubPairs.over
#print axioms fnExactSubPairs_holds
end Go.Proofs.Ytbmfiphfobbfcap
