/-
  The least across two sets, as the program looks for it: two loops over iterators, one within the other, left by labels (contracts for the walks).
  Conditions: as each theorem states them.
-/
import Derived.Test.YtipiamhnngmjmaaDoorNrScan
import Derived.Test.YtipiamhnngmjmaaDoorNr1
import Derived.Test.YtipiamhnngmjmaaDoorHBeyond
import Derived.RangeFuncNested
import Derived.RangeFuncLeaves
import Derived.WalkMore
namespace Go.Proofs.YtipiamhnngmjmaaDoor
open Go.RowKit Go.Shelf
attribute [local go_sem] Oper.semAt_some
set_option linter.unusedVariables false
/-- Nothing that lay below n has changed, nor has block Bs. -/
def KpB (n Bs : Nat) (A B : World) : Prop := Below n A B ∧ B.heap[Bs]? = A.heap[Bs]?
theorem KpB.r (n Bs : Nat) (A : World) : KpB n Bs A A := ⟨Below.refl _ _, rfl⟩
theorem KpB.t {n Bs : Nat} {A B C : World} (h : KpB n Bs A B) (k : KpB n Bs B C) : KpB n Bs A C := ⟨h.1.trans k.1, k.2.trans h.2⟩
theorem KpB.b {n Bs : Nat} {w : World} (hn : n ≤ w.heap.size) (hB : Bs < w.heap.size) (W : World) (l : Nat) (o o' : Obj) (hl : w.heap.size ≤ l) (h : W.heap[l]? = some o) (hc : o.isCells = false) (hw : o.isWalk = false) : KpB n Bs W (W.putObj l o') :=
  ⟨belowK_b (w := w) hn W l o o' hl h hc hw, (grownBy_putObj' W l o').block Bs (by have := (Array.getElem?_eq_some_iff.1 h).1; omega) (fun e => by cases e; omega)⟩
theorem cell_eq {A B : World} {b : Nat} (h : B.heap[b]? = A.heap[b]?) (i : Nat) : B.cell? ⟨b, i, none⟩ = A.cell? ⟨b, i, none⟩ := by simp [World.cell?, h]
theorem at_kept {N : Nat} {a : Option Addr} {l : List (Int × Int)} {w w' : World} (h : At N a l w) (hb : Below N w w') : At N a l w' := fun i hi => by
  obtain ⟨b, off, e, h1, g0, g1⟩ := h i hi
  exact ⟨b, off, e, h1, (hb.cell (p := ⟨b, off + i * 2, none⟩) h1).trans g0, (hb.cell (p := ⟨b, off + i * 2 + 1, none⟩) h1).trans g1⟩
theorem boxP_own {X Y : World} {B : Nat} {p : Int × Int} {row : Option Nat} (h : BoxP X B p) (hg : X.grownBy Y row) (hr : ∀ r, row = some r → ∃ o : Obj, X.heap[r]? = some o ∧ o.isCells = false) : BoxP Y B p :=
  (hg.block B h.lt (fun e => by obtain ⟨o, ho, hc⟩ := hr B e.symm; rw [show X.heap[B]? = _ from h] at ho; cases ho; cases hc)).trans h
set_option maxRecDepth 100000 in
set_option maxHeartbeats 2000000 in
theorem fwd_pre (n : Nat) (hn : 1 ≤ n) (Bs n₀ : Nat) (a : Option Addr) (len cap : Nat) (l : List (Int × Int)) (w : World) (hl : l.length = len) (h1 : len ≤ 1048576) (hBs : Bs < w.heap.size) (hn₀ : n₀ ≤ w.heap.size) (hc : w.cell? ⟨Bs, 0, none⟩ = some (.slice a len cap)) (hA : At n₀ a l w) :
    SeqStopsK Fence.wide n Tryd.prog 109 #[.pointer (some ⟨Bs, 0, none⟩)] encP (KpB n₀ Bs) (fun ys => ys = l) (fun pre => pre <+: l) len w := fun lp J Jx W hW _ _ hY h0 => by
  subst hl
  have hc' := (hW.cell (p := ⟨Bs, 0, none⟩) (by show Bs < _; omega)).trans hc
  have hA' : At n₀ a l W := fun i hi => by
    obtain ⟨b, off, e, hb, g0, g1⟩ := hA i hi
    exact ⟨b, off, e, hb, (hW.cell (p := ⟨b, _, none⟩) (by show b < _; omega)).trans g0, (hW.cell (p := ⟨b, _, none⟩) (by show b < _; omega)).trans g1⟩
  clear hc hA
  refine callsIn_of_wp Tryd.func109 rfl trivial ?_ rfl
  simp only [Tryd.ntmps109, List.size_toArray, List.length_cons, List.length_nil, Nat.reduceAdd, Nat.reduceSub, Array.replicate_succ, Array.replicate_zero, List.push_toArray, List.append_toArray, List.nil_append, List.cons_append]
  gi_wp2
  gi_loopw [3] (fun i wr => ∃ k : Nat, k ≤ l.length ∧ i = .int .i64 k ∧ J (l.take k) wr ∧ KpB n₀ Bs W wr) (fun i _ => l.length - (intOf i).toNat)
  case atStart => exact ⟨0, Nat.zero_le _, rfl, h0, KpB.r _ _ _⟩
  case round =>
    obtain ⟨k, hk, rfl, hJs, hnx⟩ := hrel
    have hcr := (cell_eq hnx.2 0).trans hc'
    by_cases hlt : k < l.length
    · obtain ⟨b, off, e, hb, g0, g1⟩ := hA' k hlt
      have q0 := (hnx.1.cell (p := ⟨b, off + k * 2, none⟩) hb).trans g0
      have q1 := (hnx.1.cell (p := ⟨b, off + k * 2 + 1, none⟩) hb).trans g1
      subst e
      obtain ⟨fn, tmps, assign, body, hy, hR⟩ := hY (l.take k) (px l k, py l k) wr hJs (by rw [List.length_take]; omega)
      dsimp only [encP] at hy
      clear g0 g1
      gi_wp2
      refine hR.mono ?_
      rintro e W3 (⟨rfl, hJ3, hk3⟩ | ⟨rfl, hJx3⟩)
      · gi_wp2
        go_roundw
        case rel => exact ⟨k + 1, by omega, by simp, by rw [pt_take hlt]; exact hJ3, KpB.t hnx hk3⟩
        case measure => simp [intOf]; omega
      · gi_wp2
        refine bodyPost_ret (results_none rfl _ _ _) rfl ?_
        exact ⟨⟨_, rfl⟩, .inr ⟨_, by rw [← pt_take hlt]; exact List.take_prefix _ _, hJx3⟩⟩
    · obtain rfl : k = l.length := by omega
      rw [List.take_length] at hJs
      gi_wp2
      go_end0
      exact ⟨⟨_, rfl⟩, .inl ⟨_, rfl, hJs⟩⟩
set_option maxRecDepth 100000 in
set_option maxHeartbeats 2000000 in
theorem bwd_pre (n : Nat) (hn : 1 ≤ n) (Bs n₀ : Nat) (a : Option Addr) (len cap : Nat) (l : List (Int × Int)) (w : World) (hl : l.length = len) (h1 : len ≤ 1048576) (hBs : Bs < w.heap.size) (hn₀ : n₀ ≤ w.heap.size) (hc : w.cell? ⟨Bs, 0, none⟩ = some (.slice a len cap)) (hA : At n₀ a l w) :
    SeqStopsK Fence.wide n Tryd.prog 110 #[.pointer (some ⟨Bs, 0, none⟩)] encP (KpB n₀ Bs) (fun ys => ys = l.reverse) (fun pre => pre <+: l.reverse) len w := fun lp J Jx W hW _ _ hY h0 => by
  subst hl
  have hc' := (hW.cell (p := ⟨Bs, 0, none⟩) (by show Bs < _; omega)).trans hc
  have hA' : At n₀ a l W := fun i hi => by
    obtain ⟨b, off, e, hb, g0, g1⟩ := hA i hi
    exact ⟨b, off, e, hb, (hW.cell (p := ⟨b, _, none⟩) (by show b < _; omega)).trans g0, (hW.cell (p := ⟨b, _, none⟩) (by show b < _; omega)).trans g1⟩
  clear hc hA
  refine callsIn_of_wp Tryd.func110 rfl trivial ?_ rfl
  simp only [Tryd.ntmps110, List.size_toArray, List.length_cons, List.length_nil, Nat.reduceAdd, Nat.reduceSub, Array.replicate_succ, Array.replicate_zero, List.push_toArray, List.append_toArray, List.nil_append, List.cons_append]
  gi_wp2
  gi_loopw [3] (fun i wr => ∃ j : Nat, j ≤ l.length ∧ i = .int .i64 ((j : Int) - 1) ∧ J (l.drop j).reverse wr ∧ KpB n₀ Bs W wr) (fun i _ => (intOf i + 1).toNat)
  case atStart =>
    refine ⟨l.length, Nat.le_refl _, ?_, by rw [List.drop_length]; exact h0, KpB.r _ _ _⟩
    first | rfl | (congr 1; unfold wrap64; omega) | (congr 1; rw [IntKind.wrap_i64]; omega)
  case round =>
    obtain ⟨j, hj, rfl, hJs, hnx⟩ := hrel
    have hcr := (cell_eq hnx.2 0).trans hc'
    cases j with
    | zero =>
      rw [List.drop_zero] at hJs
      gi_wp2
      go_end0
      exact ⟨⟨_, rfl⟩, .inl ⟨_, rfl, hJs⟩⟩
    | succ m =>
      have hlt : m < l.length := by omega
      have hidx : ((m + 1 : Nat) : Int) - 1 = (m : Int) := by omega
      rw [hidx]
      obtain ⟨b, off, e, hb, g0, g1⟩ := hA' m hlt
      have q0 := (hnx.1.cell (p := ⟨b, off + m * 2, none⟩) hb).trans g0
      have q1 := (hnx.1.cell (p := ⟨b, off + m * 2 + 1, none⟩) hb).trans g1
      subst e
      have hm0 : (0 : Int) ≤ (m : Int) := by omega
      have hm1 : (m : Int) < (l.length : Int) := by omega
      obtain ⟨fn, tmps, assign, body, hy, hR⟩ := hY _ (px l m, py l m) wr hJs (by rw [List.length_reverse, List.length_drop]; omega)
      dsimp only [encP] at hy
      clear g0 g1
      gi_wp2
      refine hR.mono ?_
      rintro e W3 (⟨rfl, hJ3, hk3⟩ | ⟨rfl, hJx3⟩)
      · gi_wp2
        go_roundw
        case rel => exact ⟨m, by omega, by first | rfl | go_num | (congr 1; unfold wrap64; omega), by rw [back_step hlt]; exact hJ3, KpB.t hnx hk3⟩
        case measure => first | (simp [intOf]; done) | (simp [intOf]; omega)
      · gi_wp2
        refine bodyPost_ret (results_none rfl _ _ _) rfl ?_
        exact ⟨⟨_, rfl⟩, .inr ⟨_, by rw [← back_step hlt]; exact ⟨(l.take m).reverse, by rw [← List.reverse_append, List.take_append_drop]⟩, hJx3⟩⟩

theorem apartW_c (ax ay bx b_y : Int) (w : World) : Calls Tryd.prog 49 #[.agg #[.int .i64 ax, .int .i64 ay], .agg #[.int .i64 bx, .int .i64 b_y]] w fun e w' => e = .returned (.int .i64 (apW ax ay bx b_y)) ∧ Below w.heap.size w w' := by
  have HBA := hid (show Below w.heap.size w ((w.alloc (.cells #[.int .i64 ax, .int .i64 ay] 26)).alloc (.cells #[.int .i64 bx, .int .i64 b_y] 26)) by go_grown)
  go_enter Tryd.func49, Tryd.ntmps49
  go_wp2_with (go_at_call 76; refine (wayFrom_c _ _ _ _ _).mono ?_; rintro e w1 ⟨rfl, hb1⟩; have hb := grew HBA.out hb1; clear hb1)
  go_ret
  exact ⟨rfl, hb.alloc hb.size _⟩
set_option maxRecDepth 100000 in
set_option maxHeartbeats 2000000 in
theorem regMin (l2 m BM Bx By : Nat) (v x0 x1 y0 y1 : Int) (t0 t1 t2 t3 t4 t6 t9 t10 t11 t12 t13 t14 t15 t16 t17 t18 t19 t20 t21 t22 t23 t24 t25 t26 t27 t28 t29 t30 t31 t32 t33 t34 t35 t36 : Value) (Q : Exit → Act → World → Prop) (W : World) (bM : Boxed W BM 3 (.int .i64 v)) (bX : BoxP W Bx (x0, x1)) (bY : BoxP W By (y0, y1)) (hnx : Bx ≠ BM) (hny : By ≠ BM)
    (hQp : ∀ c (a : Act) (d : Nat) v w, Q (.panic c) (a.put (some d) v) w → Q (.panic c) a w)
    (hQ : ∀ w2 : World, Below W.heap.size W w2 → Boxed w2 BM 3 (.int .i64 v) → Q .normal { tmps := #[t0, t1, t2, t3, t4, .pointer (some ⟨BM, 0, none⟩), t6, .pointer (some ⟨Bx, 0, none⟩), .pointer (some ⟨By, 0, none⟩), t9, t10, t11, t12, t13, t14, t15, t16, t17, t18, t19, t20, t21, t22, t23, t24, t25, .int .i64 v, .agg #[.int .i64 x0, .int .i64 x1], .agg #[.int .i64 y0, .int .i64 y1], .int .i64 (apW x0 x1 y0 y1), .int .i64 (if apW x0 x1 y0 y1 < v then apW x0 x1 y0 y1 else v), t31, t32, t33, t34, t35, t36], defers := [] } (w2.setCell ⟨BM, 0, none⟩ (.int .i64 (if apW x0 x1 y0 y1 < v then apW x0 x1 y0 y1 else v)))) :
    (Code.region 7 #[{ dst := some 26, op := Op.load 3 (Operand.tmp 5), type := 3, pos := "l10_pairs.go:146", after := #[], guard := none },{ dst := some 27, op := Op.load 26 (Operand.tmp 7), type := 26, pos := "l10_pairs.go:146", after := #[], guard := none },{ dst := some 28, op := Op.load 26 (Operand.tmp 8), type := 26, pos := "l10_pairs.go:146", after := #[], guard := none },{ dst := some 29, op := Op.call { callee := Callee.value (Operand.func 49), args := #[Operand.tmp 27, Operand.tmp 28], argTypes := #[26, 26] }, type := 3, pos := "l10_pairs.go:146", after := #[{ on := 1, ground := Ground.data }, { on := 2, ground := Ground.data }], guard := none },{ dst := some 30, op := Op.call { callee := Callee.builtin Builtin.min, args := #[Operand.tmp 26, Operand.tmp 29], argTypes := #[3, 3] }, type := 3, pos := "l10_pairs.go:146", after := #[{ on := 0, ground := Ground.data }, { on := 3, ground := Ground.data }], guard := none },{ dst := none, op := Op.store 3 (Operand.tmp 5) (Operand.tmp 30), type := 0, pos := "l10_pairs.go:146", after := #[{ on := 4, ground := Ground.data }, { on := 3, ground := Ground.chain }, { on := 0, ground := Ground.phase }, { on := 1, ground := Ground.phase }, { on := 2, ground := Ground.phase }, { on := 3, ground := Ground.phase }, { on := 4, ground := Ground.phase }], guard := none }] true).wpIn (Fence.wide.inRound l2) m Tryd.prog Q { tmps := #[t0, t1, t2, t3, t4, .pointer (some ⟨BM, 0, none⟩), t6, .pointer (some ⟨Bx, 0, none⟩), .pointer (some ⟨By, 0, none⟩), t9, t10, t11, t12, t13, t14, t15, t16, t17, t18, t19, t20, t21, t22, t23, t24, t25, t26, t27, t28, t29, t30, t31, t32, t33, t34, t35, t36], defers := [] } W := by
  refine wpIn_region_lift (by kernel_rfl) (S := (fun u => BoxP u Bx (x0, x1) ∧ BoxP u By (y0, y1))) (by kernel_rfl) ?_ (fun hHeld => ?_)
  · exact ⟨bX.later (Below.refl _ _).drew, bY.later (Below.refl _ _).drew⟩
  have hbd : Below W.heap.size W W.drew := (Below.refl _ _).drew
  replace bM : Boxed W.drew BM 3 (.int .i64 v) := (hbd.block BM bM.lt).trans bM
  generalize W.drew = wd at hHeld hbd bM ⊢
  refine wpAnyH_take (i := 1) (oi := { dst := some 27, op := Op.load 26 (Operand.tmp 7), type := 26, pos := "l10_pairs.go:146", after := #[], guard := none }) (v := ?v1q) rfl (by kernel_rfl) (by kernel_rfl) (by kernel_rfl) (fun c a w h => hQp c a _ _ w h) (Or.inl ⟨by rfl, ?hy1q⟩) (by with_reducible assumption) ?rest1q
  case hy1q => (intro wS hSw; (try dsimp only at hSw); have z0 := hSw.1.c0; have z1 := hSw.1.c1; have z2 := hSw.2.c0; have z3 := hSw.2.c1; clear hSw; go_simp; try with_reducible rfl)
  case' rest1q => (try simp only [Act.put, List.setIfInBounds_toArray, List.set_cons_zero, List.set_cons_succ])
  refine wpAnyH_take (i := 2) (oi := { dst := some 28, op := Op.load 26 (Operand.tmp 8), type := 26, pos := "l10_pairs.go:146", after := #[], guard := none }) (v := ?v2q) rfl (by kernel_rfl) (by kernel_rfl) (by kernel_rfl) (fun c a w h => hQp c a _ _ w h) (Or.inl ⟨by rfl, ?hy2q⟩) (by with_reducible assumption) ?rest2q
  case hy2q => (intro wS hSw; (try dsimp only at hSw); have z0 := hSw.1.c0; have z1 := hSw.1.c1; have z2 := hSw.2.c0; have z3 := hSw.2.c1; clear hSw; go_simp; try with_reducible rfl)
  case' rest2q => (try simp only [Act.put, List.setIfInBounds_toArray, List.set_cons_zero, List.set_cons_succ])
  refine wpAnyH_ready (rs := [0, 3]) (by kernel_rfl) (by simp) ?_
  refine AllReadyH.cons (o := { dst := some 26, op := Op.load 3 (Operand.tmp 5), type := 3, pos := "l10_pairs.go:146", after := #[], guard := none }) rfl (fun K hK => ?_) (AllReadyH.cons (o := { dst := some 29, op := Op.call { callee := Callee.value (Operand.func 49), args := #[Operand.tmp 27, Operand.tmp 28], argTypes := #[26, 26] }, type := 3, pos := "l10_pairs.go:146", after := #[{ on := 1, ground := Ground.data }, { on := 2, ground := Ground.data }], guard := none }) rfl (fun K hK => ?_) AllReadyH.nil)
  · have cM := bM.cell
    go_simp
    refine hK.out _ _ ?_ (fun _ => ?_)
    · with_reducible assumption
    clear hK K cM
    try simp only [Act.put, List.setIfInBounds_toArray, List.set_cons_zero, List.set_cons_succ]
    refine wpAnyH_ready (rs := [3]) (by kernel_rfl) (by simp) ?_
    refine AllReadyH.cons (o := { dst := some 29, op := Op.call { callee := Callee.value (Operand.func 49), args := #[Operand.tmp 27, Operand.tmp 28], argTypes := #[26, 26] }, type := 3, pos := "l10_pairs.go:146", after := #[{ on := 1, ground := Ground.data }, { on := 2, ground := Ground.data }], guard := none }) rfl (fun K hK => ?_) AllReadyH.nil
    go_simp
    refine (apartW_c _ _ _ _ _).mono ?_
    rintro e w2 ⟨rfl, hb2⟩
    gi_wp2_with fail
    refine hK.out _ _ ?_ (fun hHeld2 => ?_)
    · exact ⟨hHeld.1.later hb2, hHeld.2.later hb2⟩
    clear hK K
    try simp only [Act.put, List.setIfInBounds_toArray, List.set_cons_zero, List.set_cons_succ]
    replace hbd := grew hbd hb2
    replace bM : Boxed w2 BM 3 (.int .i64 v) := (hb2.block BM bM.lt).trans bM
    refine wpAnyH_take (i := 4) (oi := { dst := some 30, op := Op.call { callee := Callee.builtin Builtin.min, args := #[Operand.tmp 26, Operand.tmp 29], argTypes := #[3, 3] }, type := 3, pos := "l10_pairs.go:146", after := #[{ on := 0, ground := Ground.data }, { on := 3, ground := Ground.data }], guard := none }) (v := ?v3q) rfl (by kernel_rfl) (by kernel_rfl) (by kernel_rfl) (fun c a w h => hQp c a _ _ w h) (Or.inl ⟨by rfl, ?hy3q⟩) hHeld2 ?rest3q
    case hy3q => (intro wS hSw; (try dsimp only at hSw); have z0 := hSw.1.c0; have z1 := hSw.1.c1; have z2 := hSw.2.c0; have z3 := hSw.2.c1; clear hSw; go_simp; try with_reducible rfl)
    case' rest3q => (try simp only [Act.put, List.setIfInBounds_toArray, List.set_cons_zero, List.set_cons_succ])
    refine wpAnyH_ready (rs := [5]) (by kernel_rfl) (by simp) ?_
    refine AllReadyH.cons (o := { dst := none, op := Op.store 3 (Operand.tmp 5) (Operand.tmp 30), type := 0, pos := "l10_pairs.go:146", after := #[{ on := 4, ground := Ground.data }, { on := 3, ground := Ground.chain }, { on := 0, ground := Ground.phase }, { on := 1, ground := Ground.phase }, { on := 2, ground := Ground.phase }, { on := 3, ground := Ground.phase }, { on := 4, ground := Ground.phase }], guard := none }) rfl (fun K hK => ?_) AllReadyH.nil
    have cM := bM.cell
    have fM := bM.frozen
    go_simp
    refine hK.out _ _ ?_ (fun _ => ?_)
    · exact ⟨hHeld2.1.other hnx _, hHeld2.2.other hny _⟩
    clear hK K
    try simp only [Act.put, List.setIfInBounds_toArray, List.set_cons_zero, List.set_cons_succ]
    refine wpAnyH_done (by kernel_rfl) ?_ _
    exact hQ w2 hbd bM
  · go_simp
    refine (apartW_c _ _ _ _ _).mono ?_
    rintro e w2 ⟨rfl, hb2⟩
    gi_wp2_with fail
    refine hK.out _ _ ?_ (fun hHeld2 => ?_)
    · exact ⟨hHeld.1.later hb2, hHeld.2.later hb2⟩
    clear hK K
    try simp only [Act.put, List.setIfInBounds_toArray, List.set_cons_zero, List.set_cons_succ]
    replace hbd := grew hbd hb2
    replace bM : Boxed w2 BM 3 (.int .i64 v) := (hb2.block BM bM.lt).trans bM
    have hHeld := hHeld2
    refine wpAnyH_ready (rs := [0]) (by kernel_rfl) (by simp) ?_
    refine AllReadyH.cons (o := { dst := some 26, op := Op.load 3 (Operand.tmp 5), type := 3, pos := "l10_pairs.go:146", after := #[], guard := none }) rfl (fun K hK => ?_) AllReadyH.nil
    have cM := bM.cell
    go_simp
    refine hK.out _ _ ?_ (fun _ => ?_)
    · with_reducible assumption
    clear hK K cM
    try simp only [Act.put, List.setIfInBounds_toArray, List.set_cons_zero, List.set_cons_succ]
    refine wpAnyH_take (i := 4) (oi := { dst := some 30, op := Op.call { callee := Callee.builtin Builtin.min, args := #[Operand.tmp 26, Operand.tmp 29], argTypes := #[3, 3] }, type := 3, pos := "l10_pairs.go:146", after := #[{ on := 0, ground := Ground.data }, { on := 3, ground := Ground.data }], guard := none }) (v := ?v4q) rfl (by kernel_rfl) (by kernel_rfl) (by kernel_rfl) (fun c a w h => hQp c a _ _ w h) (Or.inl ⟨by rfl, ?hy4q⟩) hHeld2 ?rest4q
    case hy4q => (intro wS hSw; (try dsimp only at hSw); have z0 := hSw.1.c0; have z1 := hSw.1.c1; have z2 := hSw.2.c0; have z3 := hSw.2.c1; clear hSw; go_simp; try with_reducible rfl)
    case' rest4q => (try simp only [Act.put, List.setIfInBounds_toArray, List.set_cons_zero, List.set_cons_succ])
    refine wpAnyH_ready (rs := [5]) (by kernel_rfl) (by simp) ?_
    refine AllReadyH.cons (o := { dst := none, op := Op.store 3 (Operand.tmp 5) (Operand.tmp 30), type := 0, pos := "l10_pairs.go:146", after := #[{ on := 4, ground := Ground.data }, { on := 3, ground := Ground.chain }, { on := 0, ground := Ground.phase }, { on := 1, ground := Ground.phase }, { on := 2, ground := Ground.phase }, { on := 3, ground := Ground.phase }, { on := 4, ground := Ground.phase }], guard := none }) rfl (fun K hK => ?_) AllReadyH.nil
    have cM := bM.cell
    have fM := bM.frozen
    go_simp
    refine hK.out _ _ ?_ (fun _ => ?_)
    · exact ⟨hHeld2.1.other hnx _, hHeld2.2.other hny _⟩
    clear hK K
    try simp only [Act.put, List.setIfInBounds_toArray, List.set_cons_zero, List.set_cons_succ]
    refine wpAnyH_done (by kernel_rfl) ?_ _
    exact hQ w2 hbd bM
theorem pfx_snoc {α : Type} {a : List α} {x : α} {l : List α} (h : a ++ [x] <+: l) : a <+: l := (List.prefix_append a [x]).trans h
set_option maxRecDepth 100000 in
set_option maxHeartbeats 4000000 in
theorem across_c (L R : List (Int × Int)) (m0 : Int) (a0 a1 : Option Addr) (n1 n2 cap1 cap2 : Nat) (w : World) (hl : L.length = n1) (hr : R.length = n2) (h1 : n1 ≤ 1048576) (h2 : n2 ≤ 1048576) (hn2 : 0 < n2) (hA : At w.heap.size a0 L w) (hB : At w.heap.size a1 R w)
    (HG1 : allG L) (HG2 : allG R) (HL : XP L) (HR : XP R) (HX : ∀ a, a ∈ L → ∀ b, b ∈ R → a.1 ≤ b.1) :
    Calls Tryd.prog 80 #[.slice a0 n1 cap1, .slice a1 n2 cap2, .int .i64 m0] w fun e w' => e = .returned (.int .i64 (mn m0 (crs L R))) ∧ Below w.heap.size w w' := by
  subst hl hr
  have HA := hid hA
  have HB := hid hB
  clear hA hB
  obtain ⟨b1, off1, rfl, hbN1, g10, g11⟩ := HB.out 0 hn2
  obtain ⟨rx, hrx⟩ : ∃ x, px R 0 = x := ⟨_, rfl⟩
  obtain ⟨ry, hry⟩ : ∃ x, py R 0 = x := ⟨_, rfl⟩
  have HR0 : Hid (pt R 0 = (rx, ry)) := by rw [← hrx, ← hry]; exact rfl
  rw [hrx] at g10
  rw [hry] at g11
  simp only [Nat.zero_mul, Nat.add_zero] at g10 g11
  clear hrx hry
  refine (callsIn_wide (n := 8)).1 ?_
  refine callsIn_of_wp_marks Tryd.func80 rfl trivial ?_ rfl
  simp only [Tryd.ntmps80, List.size_toArray, List.length_cons, List.length_nil, Nat.reduceAdd, Nat.reduceSub, Array.replicate_succ, Array.replicate_zero, List.push_toArray, List.append_toArray, List.nil_append, List.cons_append]
  gi_wp2
  refine wpIn_wide.2 (wp_scope_straight (wpIn_wide (n := 8) |>.1 ?_))
  refine wpIn_seq ?_
  refine wpIn_label ?_
  dsimp only [Exit.then]
  gi_wp2_with (refine ⟨(show Fence.wide.fn 92 from trivial), ?_⟩; gi_at_call 92; refine (callsIn_wide.2 (backward_c _ _ _ _)).mono ?_; rintro e w' ⟨rfl, rfl⟩)
  have bR := ((Boxed.new w 33 (.slice (some ⟨b1, off1, none⟩) R.length cap2)).alloc (.cells #[.int .i64 m0] 3)).alloc (.cells #[.slice a0 L.length cap1] 33)
  have bM := (Boxed.new (w.alloc (.cells #[(.slice (some ⟨b1, off1, none⟩) R.length cap2)] 33)) 3 (.int .i64 m0)).alloc (.cells #[.slice a0 L.length cap1] 33)
  have bS := Boxed.new ((w.alloc (.cells #[(.slice (some ⟨b1, off1, none⟩) R.length cap2)] 33)).alloc (.cells #[.int .i64 m0] 3)) 33 (.slice a0 L.length cap1)
  simp only [World.size_alloc] at bM bS
  have hB0 : Below w.heap.size w (((w.alloc (.cells #[(.slice (some ⟨b1, off1, none⟩) R.length cap2)] 33)).alloc (.cells #[.int .i64 m0] 3)).alloc (.cells #[.slice a0 L.length cap1] 33)) := (((Below.refl _ w).alloc (Nat.le_refl _) _).alloc (by simp) _).alloc (by simp; omega) _
  have hsz : (((w.alloc (.cells #[(.slice (some ⟨b1, off1, none⟩) R.length cap2)] 33)).alloc (.cells #[.int .i64 m0] 3)).alloc (.cells #[.slice a0 L.length cap1] 33)).heap.size = w.heap.size + 3 := by simp
  obtain ⟨W0, hW0⟩ : ∃ W0, ((w.alloc (.cells #[(.slice (some ⟨b1, off1, none⟩) R.length cap2)] 33)).alloc (.cells #[.int .i64 m0] 3)).alloc (.cells #[.slice a0 L.length cap1] 33) = W0 := ⟨_, rfl⟩
  rw [hW0] at bR bM bS hB0 hsz ⊢
  clear hW0
  refine wpIn_rangeFunc_ownH rfl (by omega) (gf := 110) (lb := #[.pointer (some ⟨w.heap.size + 1 + 1, 0, none⟩)]) rfl trivial (enters_of Tryd.func110 (by kernel_rfl) rfl)
    (bwd_pre (8 - 1) (by omega) (w.heap.size + 1 + 1) w.heap.size a0 L.length cap1 L W0 rfl h1 (by omega) (by omega) bS.cell (at_kept HA.out hB0)) KpB.t (KpB.b (by omega) (by omega)) (Below.refl _ _) (fun _ => rfl)
    (fun pre W => (((∃ v, Boxed W (w.heap.size + 1) 3 (.int .i64 v) ∧ (pre <+: L.reverse → v = mn m0 (crs pre R))) ∧ Boxed W w.heap.size 33 (.slice (some ⟨b1, off1, none⟩) R.length cap2)) ∧ Boxed W (w.heap.size + 1 + 1) 33 (.slice a0 L.length cap1)) ∧ Below w.heap.size w W)
    (fun c pre W => (∃ v, Boxed W (w.heap.size + 1) 3 (.int .i64 v) ∧ c = .exit 0 ∧ (pre <+: L.reverse → v = mn m0 (crs L R))) ∧ Below w.heap.size w W)
    (OwnFrom.and (OwnFrom.and (OwnFrom.and (fun s X Y row hs hg hr => by
      obtain ⟨v, hb, hv⟩ := hs
      exact ⟨v, boxed_own _ _ (fun (_ : Unit) => Value.int .i64 v) () X Y row hb hg (fun r e => (hr r e).2), hv⟩) (Own.from (boxed_own _ _ _) _)) (Own.from (boxed_own _ _ _) _)) (ownFrom_below (Nat.le_refl _) (by omega)))
    (fun c => OwnFrom.and (fun s X Y row hs hg hr => by
      obtain ⟨v, hb, hv⟩ := hs
      exact ⟨v, boxed_own _ _ (fun (_ : Unit) => Value.int .i64 v) () X Y row hb hg (fun r e => (hr r e).2), hv⟩) (ownFrom_below (Nat.le_refl _) (by omega)))
    ⟨⟨⟨⟨m0, bM, fun _ => rfl⟩, bR⟩, bS⟩, hB0⟩
    (fun x a' W => ∃ Bx, w.heap.size + 2 < Bx ∧ BoxP W Bx x ∧ a' = { tmps := #[.slice a0 L.length cap1, .slice (some ⟨b1, off1, none⟩) R.length cap2, .int .i64 m0, undef, .pointer (some ⟨w.heap.size, 0, none⟩), .pointer (some ⟨w.heap.size + 1, 0, none⟩), .int .i64 0, .pointer (some ⟨Bx, 0, none⟩), undef, undef, .slice a0 L.length cap1, .func (.func 110) #[] #[.pointer (some ⟨w.heap.size + 1 + 1, 0, none⟩)], .agg #[.int .i64 x.1, .int .i64 x.2], undef, undef, undef, undef, undef, undef, undef, undef, undef, undef, undef, undef, undef, undef, undef, undef, undef, undef, undef, undef, undef, undef, undef, undef], defers := [] })
    (fun x a' _ X Y row hs hg hr => by
      obtain ⟨Bx, e1, e2, e3⟩ := hs
      exact ⟨Bx, e1, boxP_own e2 hg (fun r e => (hr r e).2), e3⟩)
    ?assign ?body ?done ?stop
  case assign =>
    rintro l pre x W K ⟨⟨⟨⟨v, bM1, hv⟩, bR1⟩, bS1⟩, hB1⟩ hK
    dsimp only [encP]
    gi_wp2
    exact hK _ _ ((KeepsOthers.alloc _ _).from _) ⟨(Below.refl _ W).alloc hB1.size _, ((bS1.alloc _).trans (Eq.symm bS1))⟩ ⟨⟨⟨⟨v, bM1.alloc _, hv⟩, bR1.alloc _⟩, bS1.alloc _⟩, hB1.alloc hB1.size _⟩ ⟨W.heap.size, bS1.lt, World.alloc_heap_new W _, rfl⟩
  case body =>
    rintro l pre ⟨x0, x1⟩ a' W hl ⟨r, hr⟩ ⟨⟨⟨⟨v, bM1, hv⟩, bR1⟩, bS1⟩, hB1⟩ ⟨Bx, hBx, bX, rfl⟩ hlt
    dsimp only
    have cR := bR1.cell
    gi_wp2_with (refine ⟨(show (Fence.wide.inRound l).fn 91 from trivial), ?_⟩; gi_at_call 91; refine (CallsIn.inRound l (callsIn_wide.2 (forward_c _ _ _ _))).mono ?_; rintro e w' ⟨rfl, rfl⟩)
    have hsW := hB1.size
    have bF := Boxed.new W 33 (.slice (some ⟨b1, off1, none⟩) R.length cap2)
    have hSl := bS1.lt
    have hr' : (W.alloc (.cells #[(.slice (some ⟨b1, off1, none⟩) R.length cap2)] 33)).heap[l]? = some (.loop r) := (Below.heap_alloc W _ l (Array.getElem?_eq_some_iff.1 hr).1).trans hr
    refine wpIn_rangeFunc_ownN (l₀ := l) (r₀ := r) rfl hr' (by omega) (gf := 109) (lb := #[.pointer (some ⟨W.heap.size, 0, none⟩)]) rfl trivial (enters_of Tryd.func109 (by kernel_rfl) rfl)
      ((fwd_pre (8 - 1 - 1 - 1) (by omega) W.heap.size w.heap.size (some ⟨b1, off1, none⟩) R.length cap2 R (W.alloc (.cells #[(.slice (some ⟨b1, off1, none⟩) R.length cap2)] 33)) rfl h2 (by simp) (by simp; omega) bF.cell (at_kept HB.out (hB1.alloc hsW _))).inRound l) KpB.t (KpB.b (by simp; omega) (by simp)) (Below.refl _ _) (fun _ => rfl)
      (fun pre' W' => (((((∃ v', Boxed W' (w.heap.size + 1) 3 (.int .i64 v') ∧ (pre ++ [(x0, x1)] <+: L.reverse → pre' <+: R → v' = mn (mn m0 (crs pre R)) (pre'.map (apF (x0, x1))))) ∧ Boxed W' w.heap.size 33 (.slice (some ⟨b1, off1, none⟩) R.length cap2)) ∧ Boxed W' (w.heap.size + 1 + 1) 33 (.slice a0 L.length cap1)) ∧ Boxed W' W.heap.size 33 (.slice (some ⟨b1, off1, none⟩) R.length cap2)) ∧ BoxP W' Bx (x0, x1)) ∧ (Below w.heap.size W W' ∧ KeepsFrom W0.heap.size W W'))
      (fun c pre' W' => (((∃ v', Boxed W' (w.heap.size + 1) 3 (.int .i64 v') ∧ ((c = .exit 1 ∧ (pre ++ [(x0, x1)] <+: L.reverse → pre' <+: R → v' = mn m0 (crs (pre ++ [(x0, x1)]) R))) ∨ (c = .exit 0 ∧ (pre ++ [(x0, x1)] <+: L.reverse → pre' <+: R → v' = mn m0 (crs L R))))) ∧ Boxed W' w.heap.size 33 (.slice (some ⟨b1, off1, none⟩) R.length cap2)) ∧ Boxed W' (w.heap.size + 1 + 1) 33 (.slice a0 L.length cap1)) ∧ (Below w.heap.size W W' ∧ KeepsFrom W0.heap.size W W'))
      (OwnFrom.and (OwnFrom.and (OwnFrom.and (OwnFrom.and (OwnFrom.and (fun s X Y row hs hg hr => by
        obtain ⟨v, hb, hv⟩ := hs
        exact ⟨v, boxed_own _ _ (fun (_ : Unit) => Value.int .i64 v) () X Y row hb hg (fun r e => (hr r e).2), hv⟩) (Own.from (boxed_own _ _ _) _)) (Own.from (boxed_own _ _ _) _)) (Own.from (boxed_own _ _ _) _)) (fun s X Y row hs hg hr => boxP_own hs hg (fun r e => (hr r e).2))) (OwnFrom.and (ownFrom_below hsW (by simp; omega)) (ownFrom_keepsFrom (by simp))))
      (fun c => OwnFrom.and (OwnFrom.and (OwnFrom.and (fun s X Y row hs hg hr => by
        obtain ⟨v, hb, hv⟩ := hs
        exact ⟨v, boxed_own _ _ (fun (_ : Unit) => Value.int .i64 v) () X Y row hb hg (fun r e => (hr r e).2), hv⟩) (Own.from (boxed_own _ _ _) _)) (Own.from (boxed_own _ _ _) _)) (OwnFrom.and (ownFrom_below hsW (by simp; omega)) (ownFrom_keepsFrom (by simp))))
      ⟨⟨⟨⟨⟨⟨v, bM1.alloc _, fun hp _ => hv (pfx_snoc hp)⟩, bR1.alloc _⟩, bS1.alloc _⟩, bF⟩, bX.later ((Below.refl _ W).alloc (Nat.le_refl _) _)⟩, (Below.refl _ W).alloc hsW _, (KeepsOthers.alloc _ _).from _⟩
      (fun y a'' W' => ∃ By, W.heap.size < By ∧ BoxP W' By y ∧ a'' = { tmps := #[.slice a0 L.length cap1, .slice (some ⟨b1, off1, none⟩) R.length cap2, .int .i64 m0, undef, .pointer (some ⟨w.heap.size, 0, none⟩), .pointer (some ⟨w.heap.size + 1, 0, none⟩), .int .i64 0, .pointer (some ⟨Bx, 0, none⟩), .pointer (some ⟨By, 0, none⟩), undef, .slice a0 L.length cap1, .func (.func 110) #[] #[.pointer (some ⟨w.heap.size + 1 + 1, 0, none⟩)], .agg #[.int .i64 x0, .int .i64 x1], .slice (some ⟨b1, off1, none⟩) R.length cap2, .func (.func 109) #[] #[.pointer (some ⟨W.heap.size, 0, none⟩)], .agg #[.int .i64 y.1, .int .i64 y.2], undef, undef, undef, undef, undef, undef, undef, undef, undef, undef, undef, undef, undef, undef, undef, undef, undef, undef, undef, undef, undef], defers := [] })
      (fun y a'' _ X Y row hs hg hr => by
        obtain ⟨By, e1, e2, e3⟩ := hs
        exact ⟨By, e1, boxP_own e2 hg (fun r e => (hr r e).2), e3⟩)
      ?assign2 ?body2 ?done2 ?stop2
    case assign2 =>
      rintro l2 pre' y W' K ⟨⟨⟨⟨⟨⟨v', bM2, hv2⟩, bR2⟩, bS2⟩, bF2⟩, bX2⟩, hBW, hKF⟩ hK
      dsimp only [encP]
      gi_wp2
      exact hK _ _ ((KeepsOthers.alloc _ _).from _) ⟨(Below.refl _ W').alloc (Nat.le_trans hsW hBW.size) _, ((bF2.alloc _).trans (Eq.symm bF2))⟩ ⟨⟨⟨⟨⟨⟨v', bM2.alloc _, hv2⟩, bR2.alloc _⟩, bS2.alloc _⟩, bF2.alloc _⟩, bX2.later ((Below.refl _ W').alloc (Nat.le_refl _) _)⟩, hBW.alloc (Nat.le_trans hsW hBW.size) _, hKF.trans ((KeepsOthers.alloc _ _).from _)⟩ ⟨W'.heap.size, bF2.lt, World.alloc_heap_new W' _, rfl⟩
    case body2 =>
      rintro l2 pre' ⟨y0, y1⟩ a'' W' _ _ ⟨⟨⟨⟨⟨⟨v', bM2, hv2⟩, bR2⟩, bS2⟩, bF2⟩, bX2⟩, hBW, hKF⟩ ⟨By, hBy, bY2, rfl⟩ _
      dsimp only
      have cM := bM2.cell
      have cX0 := bX2.c0
      have cY0 := bY2.c0
      obtain ⟨d, hd⟩ : ∃ d, IntKind.i64.wrap (y0 - x0) = d := ⟨_, rfl⟩
      obtain ⟨q, hq⟩ : ∃ q, IntKind.i64.wrap (d * d) = q := ⟨_, rfl⟩
      by_cases hE : q < v'
      · have hE2 : decide (q < v') = true := decide_eq_true hE
        gi_wp2
        refine regMin l2 4 (w.heap.size + 1) Bx By v' x0 x1 y0 y1 _ _ _ _ _ _ _ _ _ _ _ _ _ _ _ _ _ _ _ _ _ _ _ _ _ _ _ _ _ _ _ _ _ _ _ W' bM2 bX2 bY2 (by omega) (by have := bX2.lt; have := bS2.lt; have := hBW.size; omega) (fun _ _ _ _ _ h => h) ?_
        intro w2 hb2 bM3
        obtain ⟨z, hz⟩ : ∃ z, (if apW x0 x1 y0 y1 < v' then apW x0 x1 y0 y1 else v') = z := ⟨_, rfl⟩
        rw [hz]
        gi_wp2
        have hsz2 := Nat.le_trans hsW hBW.size
        have bF3 : Boxed w2 W.heap.size 33 (.slice (some ⟨b1, off1, none⟩) R.length cap2) := boxed_later bF2 hb2
        have hWn : W.heap.size ≠ w.heap.size + 1 := by omega
        have hK2 : KeepsFrom W0.heap.size W' (w2.setCell ⟨w.heap.size + 1, 0, none⟩ (.int .i64 z)) := (keeps_below hb2).trans ((KeepsOthers.setCell _ _ _).from _)
        have hB2 : Below w.heap.size W' (w2.setCell ⟨w.heap.size + 1, 0, none⟩ (.int .i64 z)) := (hb2.mono hsz2).setCell (p := ⟨w.heap.size + 1, 0, none⟩) (Nat.le_succ _) _
        refine ⟨(keeps_below hb2).trans ((KeepsOthers.setCell _ _ _).from _), ⟨hB2, (bF3.other hWn _).trans (Eq.symm bF2)⟩, ⟨⟨⟨⟨⟨_, bM3.set _, fun hp hq' => ?_⟩, (boxed_later bR2 hb2).other (by omega) _⟩, (boxed_later bS2 hb2).other (by omega) _⟩, bF3.other hWn _⟩, (bX2.later hb2).other (by omega) _⟩, hBW.trans hB2, hKF.trans hK2⟩
        have e := hv2 hp (pfx_snoc hq')
        have hx : (x0, x1) ∈ L := by
          have : (x0, x1) ∈ L.reverse := hp.subset (by simp)
          simpa using this
        have hy : (y0, y1) ∈ R := hq'.subset (by simp)
        have ea : apW x0 x1 y0 y1 = apF (x0, x1) (y0, y1) := apW_eq (HG1 _ hx) (HG2 _ hy)
        rw [List.map_append, List.map_singleton, mn_snoc, ← e, ← hz, ea, Int.min_def]
        split <;> split <;> omega
      · have hE2 : decide (q < v') = false := decide_eq_false hE
        have cR2 := bR2.cell
        have cY1 := bY2.c1
        have hall := hB1.trans hBW
        have r0 := (hall.cell (p := ⟨b1, off1, none⟩) hbN1).trans g10
        have r1 := (hall.cell (p := ⟨b1, off1 + 1, none⟩) hbN1).trans g11
        have i0 : (0 : Int) < (R.length : Int) := by omega
        have hsz2 := Nat.le_trans hsW hBW.size
        have hdx : ∀ hx : (x0, x1) ∈ L, ∀ hy : (y0, y1) ∈ R, v' ≤ (y0 - x0) * (y0 - x0) := fun hx hy => by
          have h3 := goodB_r (HG1 _ hx)
          have h4 := goodB_r (HG2 _ hy)
          have h5 := sq_small (x := y0 - x0) (by simp only at *; omega) (by simp only at *; omega)
          rw [IntKind.wrap_i64] at hd hq
          have h6 : d = y0 - x0 := by simp only at *; omega
          subst h6
          have h7 : q = (y0 - x0) * (y0 - x0) := by omega
          omega
        have hin : pre ++ [(x0, x1)] <+: L.reverse → (x0, x1) ∈ L := fun hp => by
          have : (x0, x1) ∈ L.reverse := hp.subset (by simp)
          simpa using this
        have hD : ∀ w2 : World, Below W'.heap.size W' w2 → KeepsFrom W0.heap.size W' w2 ∧ Below w.heap.size W' w2 := fun w2 h => ⟨keeps_below h, h.mono hsz2⟩
        have hcont : pre ++ [(x0, x1)] <+: L.reverse → pre' ++ [(y0, y1)] <+: R → v' = mn m0 (crs (pre ++ [(x0, x1)]) R) := fun hp hq' => by
          have hx := hin hp
          have hy : (y0, y1) ∈ R := hq'.subset (by simp)
          have e := hv2 hp (pfx_snoc hq')
          have h3 := hdx hx hy
          rw [e] at h3
          rw [crs_snoc, mn_append, scan_go HR (HX _ hx _ hy) hq' h3, e]
        have hbrk : y0 = rx → y1 = ry → pre ++ [(x0, x1)] <+: L.reverse → pre' ++ [(y0, y1)] <+: R → v' = mn m0 (crs L R) := fun e0 e1 hp hq' => by
          have hx := hin hp
          have hy : (y0, y1) ∈ R := hq'.subset (by simp)
          have e := hv2 hp (pfx_snoc hq')
          have h3 := hdx hx hy
          rw [e] at h3
          rw [scan_end HL HR HX hp hq' (first_least HR (by rw [HR0.out, e0, e1]) hn2) h3, e]
        clear hdx hin
        gi_wp2
        by_cases k0 : y0 = rx
        · have k02 : (y0 == rx) = true := by rw [k0]; simp
          by_cases k1 : y1 = ry
          · have k12 : (y1 == ry) = true := by rw [k1]; simp
            have HBR := hbrk k0 k1
            clear k0 k1 hbrk hcont
            refine wpIn_region_lift (by kernel_rfl) (S := (fun u => Below W'.heap.size W' u)) (by kernel_rfl) ?_ (fun hHeld => ?_)
            · exact (Below.refl _ _).drew
            refine wpAnyH_take (i := 0) (oi := { dst := some 31, op := Op.load 26 (Operand.tmp 8), type := 26, pos := "l10_pairs.go:151", after := #[], guard := none }) (v := ?v1rx0) rfl (by kernel_rfl) (by kernel_rfl) (by kernel_rfl) (fun _ _ _ h => h) (Or.inl ⟨by rfl, ?hy1rx0⟩) (by with_reducible assumption) ?rest1rx0
            case hy1rx0 => (intro wS hSw; (try dsimp only at hSw); have z0 := cell_later hSw cY0; have z1 := cell_later hSw cY1; have z2 := cell_later hSw cR2; have z3 := cell_later hSw r0; have z4 := cell_later hSw r1; clear hSw; go_simp; try with_reducible rfl)
            case' rest1rx0 => (try simp only [Act.put, List.setIfInBounds_toArray, List.set_cons_zero, List.set_cons_succ])
            refine wpAnyH_take (i := 1) (oi := { dst := some 32, op := Op.load 33 (Operand.tmp 4), type := 33, pos := "l10_pairs.go:151", after := #[], guard := none }) (v := ?v1rx1) rfl (by kernel_rfl) (by kernel_rfl) (by kernel_rfl) (fun _ _ _ h => h) (Or.inl ⟨by rfl, ?hy1rx1⟩) (by with_reducible assumption) ?rest1rx1
            case hy1rx1 => (intro wS hSw; (try dsimp only at hSw); have z0 := cell_later hSw cY0; have z1 := cell_later hSw cY1; have z2 := cell_later hSw cR2; have z3 := cell_later hSw r0; have z4 := cell_later hSw r1; clear hSw; go_simp; try with_reducible rfl)
            case' rest1rx1 => (try simp only [Act.put, List.setIfInBounds_toArray, List.set_cons_zero, List.set_cons_succ])
            refine wpAnyH_take (i := 2) (oi := { dst := some 33, op := Op.indexAddr 33 (Operand.tmp 32) (Operand.const (Value.int IntKind.i64 0)), type := 0, pos := "l10_pairs.go:151", after := #[{ on := 1, ground := Ground.data }], guard := none }) (v := ?v1rx2) rfl (by kernel_rfl) (by kernel_rfl) (by kernel_rfl) (fun _ _ _ h => h) (Or.inl ⟨by rfl, ?hy1rx2⟩) (by with_reducible assumption) ?rest1rx2
            case hy1rx2 => (intro wS hSw; (try dsimp only at hSw); have z0 := cell_later hSw cY0; have z1 := cell_later hSw cY1; have z2 := cell_later hSw cR2; have z3 := cell_later hSw r0; have z4 := cell_later hSw r1; clear hSw; go_simp; try with_reducible rfl)
            case' rest1rx2 => (try simp only [Act.put, List.setIfInBounds_toArray, List.set_cons_zero, List.set_cons_succ])
            refine wpAnyH_take (i := 3) (oi := { dst := some 34, op := Op.load 26 (Operand.tmp 33), type := 26, pos := "l10_pairs.go:151", after := #[{ on := 2, ground := Ground.data }], guard := none }) (v := ?v1rx3) rfl (by kernel_rfl) (by kernel_rfl) (by kernel_rfl) (fun _ _ _ h => h) (Or.inl ⟨by rfl, ?hy1rx3⟩) (by with_reducible assumption) ?rest1rx3
            case hy1rx3 => (intro wS hSw; (try dsimp only at hSw); have z0 := cell_later hSw cY0; have z1 := cell_later hSw cY1; have z2 := cell_later hSw cR2; have z3 := cell_later hSw r0; have z4 := cell_later hSw r1; clear hSw; go_simp; try with_reducible rfl)
            case' rest1rx3 => (try simp only [Act.put, List.setIfInBounds_toArray, List.set_cons_zero, List.set_cons_succ])
            refine wpAnyH_take (i := 4) (oi := { dst := some 35, op := Op.binOp BinOp.eql 26 (Operand.tmp 31) (Operand.tmp 34) 26, type := 4, pos := "l10_pairs.go:151", after := #[{ on := 0, ground := Ground.data }, { on := 3, ground := Ground.data }], guard := none }) (v := ?v1rx4) rfl (by kernel_rfl) (by kernel_rfl) (by kernel_rfl) (fun _ _ _ h => h) (Or.inl ⟨by rfl, ?hy1rx4⟩) (by with_reducible assumption) ?rest1rx4
            case hy1rx4 => (intro wS hSw; (try dsimp only at hSw); have z0 := cell_later hSw cY0; have z1 := cell_later hSw cY1; have z2 := cell_later hSw cR2; have z3 := cell_later hSw r0; have z4 := cell_later hSw r1; clear hSw; go_simp; try with_reducible rfl)
            case' rest1rx4 => (try simp only [Act.put, List.setIfInBounds_toArray, List.set_cons_zero, List.set_cons_succ])
            refine wpAnyH_done (by kernel_rfl) ?_ _
            dsimp only [noOut]
            gi_wp2
            refine ⟨keeps_below hHeld, ⟨⟨⟨v', boxed_later bM2 hHeld, .inr ⟨rfl, HBR⟩⟩, boxed_later bR2 hHeld⟩, boxed_later bS2 hHeld⟩, hBW.trans (hD _ hHeld).2, hKF.trans (hD _ hHeld).1⟩
          · have k12 : (y1 == ry) = false := by rw [beq_eq_false_iff_ne]; exact k1
            clear hbrk
            refine wpIn_region_lift (by kernel_rfl) (S := (fun u => Below W'.heap.size W' u)) (by kernel_rfl) ?_ (fun hHeld => ?_)
            · exact (Below.refl _ _).drew
            refine wpAnyH_take (i := 0) (oi := { dst := some 31, op := Op.load 26 (Operand.tmp 8), type := 26, pos := "l10_pairs.go:151", after := #[], guard := none }) (v := ?v2rx0) rfl (by kernel_rfl) (by kernel_rfl) (by kernel_rfl) (fun _ _ _ h => h) (Or.inl ⟨by rfl, ?hy2rx0⟩) (by with_reducible assumption) ?rest2rx0
            case hy2rx0 => (intro wS hSw; (try dsimp only at hSw); have z0 := cell_later hSw cY0; have z1 := cell_later hSw cY1; have z2 := cell_later hSw cR2; have z3 := cell_later hSw r0; have z4 := cell_later hSw r1; clear hSw; go_simp; try with_reducible rfl)
            case' rest2rx0 => (try simp only [Act.put, List.setIfInBounds_toArray, List.set_cons_zero, List.set_cons_succ])
            refine wpAnyH_take (i := 1) (oi := { dst := some 32, op := Op.load 33 (Operand.tmp 4), type := 33, pos := "l10_pairs.go:151", after := #[], guard := none }) (v := ?v2rx1) rfl (by kernel_rfl) (by kernel_rfl) (by kernel_rfl) (fun _ _ _ h => h) (Or.inl ⟨by rfl, ?hy2rx1⟩) (by with_reducible assumption) ?rest2rx1
            case hy2rx1 => (intro wS hSw; (try dsimp only at hSw); have z0 := cell_later hSw cY0; have z1 := cell_later hSw cY1; have z2 := cell_later hSw cR2; have z3 := cell_later hSw r0; have z4 := cell_later hSw r1; clear hSw; go_simp; try with_reducible rfl)
            case' rest2rx1 => (try simp only [Act.put, List.setIfInBounds_toArray, List.set_cons_zero, List.set_cons_succ])
            refine wpAnyH_take (i := 2) (oi := { dst := some 33, op := Op.indexAddr 33 (Operand.tmp 32) (Operand.const (Value.int IntKind.i64 0)), type := 0, pos := "l10_pairs.go:151", after := #[{ on := 1, ground := Ground.data }], guard := none }) (v := ?v2rx2) rfl (by kernel_rfl) (by kernel_rfl) (by kernel_rfl) (fun _ _ _ h => h) (Or.inl ⟨by rfl, ?hy2rx2⟩) (by with_reducible assumption) ?rest2rx2
            case hy2rx2 => (intro wS hSw; (try dsimp only at hSw); have z0 := cell_later hSw cY0; have z1 := cell_later hSw cY1; have z2 := cell_later hSw cR2; have z3 := cell_later hSw r0; have z4 := cell_later hSw r1; clear hSw; go_simp; try with_reducible rfl)
            case' rest2rx2 => (try simp only [Act.put, List.setIfInBounds_toArray, List.set_cons_zero, List.set_cons_succ])
            refine wpAnyH_take (i := 3) (oi := { dst := some 34, op := Op.load 26 (Operand.tmp 33), type := 26, pos := "l10_pairs.go:151", after := #[{ on := 2, ground := Ground.data }], guard := none }) (v := ?v2rx3) rfl (by kernel_rfl) (by kernel_rfl) (by kernel_rfl) (fun _ _ _ h => h) (Or.inl ⟨by rfl, ?hy2rx3⟩) (by with_reducible assumption) ?rest2rx3
            case hy2rx3 => (intro wS hSw; (try dsimp only at hSw); have z0 := cell_later hSw cY0; have z1 := cell_later hSw cY1; have z2 := cell_later hSw cR2; have z3 := cell_later hSw r0; have z4 := cell_later hSw r1; clear hSw; go_simp; try with_reducible rfl)
            case' rest2rx3 => (try simp only [Act.put, List.setIfInBounds_toArray, List.set_cons_zero, List.set_cons_succ])
            refine wpAnyH_take (i := 4) (oi := { dst := some 35, op := Op.binOp BinOp.eql 26 (Operand.tmp 31) (Operand.tmp 34) 26, type := 4, pos := "l10_pairs.go:151", after := #[{ on := 0, ground := Ground.data }, { on := 3, ground := Ground.data }], guard := none }) (v := ?v2rx4) rfl (by kernel_rfl) (by kernel_rfl) (by kernel_rfl) (fun _ _ _ h => h) (Or.inl ⟨by rfl, ?hy2rx4⟩) (by with_reducible assumption) ?rest2rx4
            case hy2rx4 => (intro wS hSw; (try dsimp only at hSw); have z0 := cell_later hSw cY0; have z1 := cell_later hSw cY1; have z2 := cell_later hSw cR2; have z3 := cell_later hSw r0; have z4 := cell_later hSw r1; clear hSw; go_simp; try with_reducible rfl)
            case' rest2rx4 => (try simp only [Act.put, List.setIfInBounds_toArray, List.set_cons_zero, List.set_cons_succ])
            refine wpAnyH_done (by kernel_rfl) ?_ _
            dsimp only [noOut]
            gi_wp2
            refine ⟨keeps_below hHeld, ⟨⟨⟨v', boxed_later bM2 hHeld, .inl ⟨rfl, hcont⟩⟩, boxed_later bR2 hHeld⟩, boxed_later bS2 hHeld⟩, hBW.trans (hD _ hHeld).2, hKF.trans (hD _ hHeld).1⟩
        · have k02 : (y0 == rx) = false := by rw [beq_eq_false_iff_ne]; exact k0
          clear hbrk
          refine wpIn_region_lift (by kernel_rfl) (S := (fun u => Below W'.heap.size W' u)) (by kernel_rfl) ?_ (fun hHeld => ?_)
          · exact (Below.refl _ _).drew
          refine wpAnyH_take (i := 0) (oi := { dst := some 31, op := Op.load 26 (Operand.tmp 8), type := 26, pos := "l10_pairs.go:151", after := #[], guard := none }) (v := ?v3rx0) rfl (by kernel_rfl) (by kernel_rfl) (by kernel_rfl) (fun _ _ _ h => h) (Or.inl ⟨by rfl, ?hy3rx0⟩) (by with_reducible assumption) ?rest3rx0
          case hy3rx0 => (intro wS hSw; (try dsimp only at hSw); have z0 := cell_later hSw cY0; have z1 := cell_later hSw cY1; have z2 := cell_later hSw cR2; have z3 := cell_later hSw r0; have z4 := cell_later hSw r1; clear hSw; go_simp; try with_reducible rfl)
          case' rest3rx0 => (try simp only [Act.put, List.setIfInBounds_toArray, List.set_cons_zero, List.set_cons_succ])
          refine wpAnyH_take (i := 1) (oi := { dst := some 32, op := Op.load 33 (Operand.tmp 4), type := 33, pos := "l10_pairs.go:151", after := #[], guard := none }) (v := ?v3rx1) rfl (by kernel_rfl) (by kernel_rfl) (by kernel_rfl) (fun _ _ _ h => h) (Or.inl ⟨by rfl, ?hy3rx1⟩) (by with_reducible assumption) ?rest3rx1
          case hy3rx1 => (intro wS hSw; (try dsimp only at hSw); have z0 := cell_later hSw cY0; have z1 := cell_later hSw cY1; have z2 := cell_later hSw cR2; have z3 := cell_later hSw r0; have z4 := cell_later hSw r1; clear hSw; go_simp; try with_reducible rfl)
          case' rest3rx1 => (try simp only [Act.put, List.setIfInBounds_toArray, List.set_cons_zero, List.set_cons_succ])
          refine wpAnyH_take (i := 2) (oi := { dst := some 33, op := Op.indexAddr 33 (Operand.tmp 32) (Operand.const (Value.int IntKind.i64 0)), type := 0, pos := "l10_pairs.go:151", after := #[{ on := 1, ground := Ground.data }], guard := none }) (v := ?v3rx2) rfl (by kernel_rfl) (by kernel_rfl) (by kernel_rfl) (fun _ _ _ h => h) (Or.inl ⟨by rfl, ?hy3rx2⟩) (by with_reducible assumption) ?rest3rx2
          case hy3rx2 => (intro wS hSw; (try dsimp only at hSw); have z0 := cell_later hSw cY0; have z1 := cell_later hSw cY1; have z2 := cell_later hSw cR2; have z3 := cell_later hSw r0; have z4 := cell_later hSw r1; clear hSw; go_simp; try with_reducible rfl)
          case' rest3rx2 => (try simp only [Act.put, List.setIfInBounds_toArray, List.set_cons_zero, List.set_cons_succ])
          refine wpAnyH_take (i := 3) (oi := { dst := some 34, op := Op.load 26 (Operand.tmp 33), type := 26, pos := "l10_pairs.go:151", after := #[{ on := 2, ground := Ground.data }], guard := none }) (v := ?v3rx3) rfl (by kernel_rfl) (by kernel_rfl) (by kernel_rfl) (fun _ _ _ h => h) (Or.inl ⟨by rfl, ?hy3rx3⟩) (by with_reducible assumption) ?rest3rx3
          case hy3rx3 => (intro wS hSw; (try dsimp only at hSw); have z0 := cell_later hSw cY0; have z1 := cell_later hSw cY1; have z2 := cell_later hSw cR2; have z3 := cell_later hSw r0; have z4 := cell_later hSw r1; clear hSw; go_simp; try with_reducible rfl)
          case' rest3rx3 => (try simp only [Act.put, List.setIfInBounds_toArray, List.set_cons_zero, List.set_cons_succ])
          refine wpAnyH_take (i := 4) (oi := { dst := some 35, op := Op.binOp BinOp.eql 26 (Operand.tmp 31) (Operand.tmp 34) 26, type := 4, pos := "l10_pairs.go:151", after := #[{ on := 0, ground := Ground.data }, { on := 3, ground := Ground.data }], guard := none }) (v := ?v3rx4) rfl (by kernel_rfl) (by kernel_rfl) (by kernel_rfl) (fun _ _ _ h => h) (Or.inl ⟨by rfl, ?hy3rx4⟩) (by with_reducible assumption) ?rest3rx4
          case hy3rx4 => (intro wS hSw; (try dsimp only at hSw); have z0 := cell_later hSw cY0; have z1 := cell_later hSw cY1; have z2 := cell_later hSw cR2; have z3 := cell_later hSw r0; have z4 := cell_later hSw r1; clear hSw; go_simp; try with_reducible rfl)
          case' rest3rx4 => (try simp only [Act.put, List.setIfInBounds_toArray, List.set_cons_zero, List.set_cons_succ])
          refine wpAnyH_done (by kernel_rfl) ?_ _
          dsimp only [noOut]
          gi_wp2
          refine ⟨keeps_below hHeld, ⟨⟨⟨v', boxed_later bM2 hHeld, .inl ⟨rfl, hcont⟩⟩, boxed_later bR2 hHeld⟩, boxed_later bS2 hHeld⟩, hBW.trans (hD _ hHeld).2, hKF.trans (hD _ hHeld).1⟩
    case done2 =>
      rintro ys' W' rfl ⟨⟨⟨⟨⟨⟨v', bM2, hv2⟩, bR2⟩, bS2⟩, bF2⟩, bX2⟩, hBW, hKF⟩
      gi_wp2
      exact ⟨hKF, ⟨hBW, Eq.trans bS2 (Eq.symm bS1)⟩, ⟨⟨⟨v', bM2, fun hp => by rw [hv2 hp (List.prefix_refl _), crs_snoc, mn_append]⟩, bR2⟩, bS2⟩, hB1.trans hBW⟩
    case stop2 =>
      rintro c pre' W' hpre ⟨⟨⟨⟨v', bM2, ⟨rfl, hv2⟩ | ⟨rfl, hv2⟩⟩, bR2⟩, bS2⟩, hBW, hKF⟩
      · gi_wp2
        exact ⟨hKF, ⟨hBW, Eq.trans bS2 (Eq.symm bS1)⟩, ⟨⟨⟨v', bM2, fun hp => hv2 hp hpre⟩, bR2⟩, bS2⟩, hB1.trans hBW⟩
      · gi_wp2
        exact ⟨hKF, ⟨v', bM2, rfl, fun hp => hv2 hp hpre⟩, hB1.trans hBW⟩
  case done =>
    rintro D zs W hD rfl ⟨⟨⟨⟨v, bM1, hv⟩, bR1⟩, bS1⟩, hB1⟩ hK
    have cM := bM1.cell
    gi_wp2
    refine ⟨by simp, .inl ⟨_, _, rfl, run_takeDeferred hK, ?_⟩⟩
    exact ⟨_, results_tmp rfl _ _ _, by first | (rw [hv (List.prefix_refl _), crs_rev]; rfl) | exact congrArg (fun z => Ending.returned (Value.int .i64 z)) (crs_rev L R m0), hB1.trans (belowK_b (w := w) (Nat.le_refl _) W D _ _ (by omega) hK rfl rfl)⟩
  case stop =>
    rintro D c pre W hD hpre ⟨⟨v, bM1, rfl, hv⟩, hB1⟩ hK
    have cM := bM1.cell
    gi_wp2
    refine ⟨by simp, .inl ⟨_, _, rfl, run_takeDeferred hK, ?_⟩⟩
    exact ⟨_, results_tmp rfl _ _ _, by first | rfl | (rw [hv hpre]; rfl), hB1.trans (belowK_b (w := w) (Nat.le_refl _) W D _ _ (by omega) hK rfl rfl)⟩
end Go.Proofs.YtipiamhnngmjmaaDoor
