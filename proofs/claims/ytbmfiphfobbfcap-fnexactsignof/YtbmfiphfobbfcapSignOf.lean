/-
  For every pair, impl.SignOf tells what the specification's SignOf tells, returns, and leaves its argument as it was.
  Conditions: none beyond the row's own (for every input that can be read as data).
-/
import Derived.Test.YtbmfiphfobbfcapRows
import Derived.WalkKit
import Derived.ProofKit
import Derived.OpenShut
import Derived.Lib.SmallJoins
import Derived.Handy
namespace Go.Proofs.Ytbmfiphfobbfcap.fnExactSignOf
open Go.ChangeShapes Go.WideShapes Go.ChangeAt Go.RowKit Go.Joins
set_option linter.unusedVariables false
theorem own : ownKnob Try.prog.godebug = none := by kernel_rfl
theorem cells24 : Try.prog.cellsOf 24 = 2 := by kernel_rfl
/-- THE WALK: every test decided ahead. -/
theorem walk (x0 y0 : Int) (wx0 : (Lit.int .i64 x0).wf = true) (wy0 : (Lit.int .u64 y0).wf = true) (w : World) :
    Calls Try.prog 4 #[.agg #[.int .i64 x0, .int .u64 y0]] w fun e w' => e = .returned (.bool true) ∧ Grown w w' := by
  have bx := bounds_i64 wx0
  have by' := bounds_u64 wy0
  clear wx0 wy0
  by_cases h1 : x0 < 0
  · have h2 : ¬ 0 < x0 := by omega
    have h3 : (x0 == 0) = false := by simp; omega
    go_enter Try.func4, Try.ntmps4
    go_wp2
    all_goals go_ret
    all_goals exact ⟨rfl, by go_grown⟩
  · by_cases h2 : 0 < x0
    · have h3 : (x0 == 0) = false := by simp; omega
      go_enter Try.func4, Try.ntmps4
      go_wp2
      all_goals go_ret
      all_goals exact ⟨rfl, by go_grown⟩
    · obtain rfl : x0 = 0 := by omega
      by_cases h4 : 0 < y0
      · have h5 : (y0 == 0) = false := by simp; omega
        go_enter Try.func4, Try.ntmps4
        go_wp2
        all_goals go_ret
        all_goals exact ⟨rfl, by go_grown⟩
      · obtain rfl : y0 = 0 := by omega
        go_enter Try.func4, Try.ntmps4
        go_wp2
        all_goals go_ret
        all_goals exact ⟨rfl, by go_grown⟩

set_option maxRecDepth 100000 in
theorem lifted (os : Os) (started : os.Started) (H : Type) (enc : TypeId × Value → H) :
    ReturnsInHanded {} Try.checked os 4 .any (Rows.fnExactSignOfSpec.pre6 enc Try.prog Try.f4 Rows.fnExactSignOfRow.domain false) (Rows.fnExactSignOfSpec.post enc Try.prog Try.f4 false true false false) := by
  refine returnsInHanded_of_change (C := Try.checked) own started (by kernel_rfl) Try.func4
    (ChangeSpec.witness6 (enc := enc) (C := Try.checked) false ⟨#[], #[.agg #[.int .i64 0, .int .u64 0]], []⟩ 8 (by kernel_rfl) (by kernel_rfl) (by kernel_rfl) (by kernel_rfl)) ?_
  intro W base args ds gs before hval0 hW hcnd _
  have hval : ∀ (j : Nat) t v, Try.f4.params[j]? = some t → args[j]? = some v → Value.okWide Try.prog W .any base t v := hval0
  have hW' := hW
  obtain ⟨p, q, hA0, hV, rfl, hfz, hnd⟩ := hW
  have hA : DataW.TrodAll enc Try.prog W 0 (fun _ => true) true Try.f4.params.toList args.toList ds p := hA0
  rw [Try.params4] at hA hval
  obtain ⟨v0, vs0, d0, ds0, p0, q0, hargs, rfl, rfl, h0, r0⟩ := trodAll_cons hA
  obtain ⟨rfl, rfl, rfl⟩ := trodAll_nil r0
  obtain rfl : args = #[v0] := by cases args; simp_all
  obtain ⟨rfl, rfl⟩ := trodVars_none hV
  obtain ⟨c0, c1, z0, z1, m, rfl, rfl, rfl, hz0, hz1⟩ := open_agg2 Try.underlying24 (by kernel_rfl) cells24 (hval 0 24 v0 rfl rfl) h0
  obtain ⟨x0, e0, rfl, wx0⟩ := DataW.trod_int Try.underlying3 hz0
  obtain ⟨y0, e1, rfl, wy0⟩ := DataW.trod_int Try.underlying22 hz1
  simp at e0 e1
  subst e0 e1
  clear hA0 hval0
  simp only [List.append_nil] at hW'
  refine (walk x0 y0 wx0 wy0 W).mono fun e W' ⟨he, hg⟩ => ?_
  subst he
  exact ⟨_, rfl, post_of_same (pa := []) (pv := []) hW' (fun _ _ _ => (trodAll_cons_mk (shut_bool Try.underlying4 _) trodAll_mk0)) (fun sp _ => (trodAll_cons_mk (shut_agg2 (y0 := (.lit (.int .i64 x0), [])) (y1 := (.lit (.int .u64 y0), [])) Try.underlying24 (by kernel_rfl) cells24 ⟨1, by simp [DataW.trod, Try.underlying3, wx0]⟩ ⟨1, by simp [DataW.trod, Try.underlying22, wy0]⟩) trodAll_mk0)) (fun _ _ => rfl) rfl
    (hg.frame _) hg.2.1 (ok_one (by kernel_rfl) rfl (okWide_bool_mk Try.underlying4 _))⟩
theorem over : Rows.fnExactSignOfRow.holds Try.pinned (OpenSpec.ofChange Rows.fnExactSignOfSpec) :=
  OpenClaim.holds_of_wide 4 Try.f4 rfl rfl rfl rfl rfl rfl rfl ⟨rfl, rfl, rfl, rfl, rfl⟩ rfl rfl rfl rfl rfl (by kernel_rfl) Try.func4 (by kernel_rfl)
    (of_decide_eq_true (by kernel_rfl)) (by unfold Func.isWrapper; first | (rw [if_pos (by decide +kernel)]; kernel_rfl) | (rw [if_neg (by decide +kernel)]; exact ⟨rfl, rfl⟩))
    (fun os started H enc _ => lifted os started H enc)
end Go.Proofs.Ytbmfiphfobbfcap.fnExactSignOf
namespace Go.Proofs.Ytbmfiphfobbfcap
theorem fnExactSignOf_holds : Rows.FnExactSignOfSaid := fnExactSignOf.over
#print axioms fnExactSignOf_holds
end Go.Proofs.Ytbmfiphfobbfcap
