/-
  A chain of points that turn left, in the program (a contract for the walks).
  Conditions: as each theorem states them.
-/
import Derived.Test.YtegmlemejmahiaaDoorHIter
namespace Go.Proofs.YtegmlemejmahiaaDoor
open Go.RowKit Go.Shelf
attribute [local go_sem] Oper.semAt_some
set_option linter.unusedVariables false
theorem OwnC.kept {N : Nat} {v : Value} {l : List (Int × Int)} {W W' : World} {row : Option Nat} (h : OwnC N v l W) (hg : W.grownBy W' row) (hr : ∀ r, row = some r → ∃ o : Obj, W.heap[r]? = some o ∧ o.isCells = false) : OwnC N v l W' := by
  rcases h with h | ⟨g, c, M, f, e, h1, h2, h3, hM, ⟨cc, k1, k2, k3⟩, h5⟩
  · exact .inl h
  · refine .inr ⟨g, c, M, f, e, h1, h2, h3, hM, ⟨cc, (hg.block g (Array.getElem?_eq_some_iff.1 k1).1 ?_).trans k1, k2, k3⟩, h5⟩
    intro e'
    obtain ⟨o, ho, hc⟩ := hr g e'.symm
    rw [k1] at ho
    cases ho
    cases hc
theorem OwnC.isCells {N : Nat} {v : Value} {l : List (Int × Int)} {W : World} (h : OwnC N v l W) : ∀ r, v.ownBlock = some r → N ≤ r ∧ ∃ o : Obj, W.heap[r]? = some o ∧ o.isCells = true := by
  intro r hr
  rcases h with ⟨_, rfl⟩ | ⟨g, c, M, f, rfl, h1, h2, h3, hM, ⟨cc, k1, k2, k3⟩, h5⟩
  · simp [Value.ownBlock] at hr
  · simp [Value.ownBlock] at hr
    subst hr
    exact ⟨h1, _, k1, rfl⟩
/-- What a round of the chain's loop keeps. -/
theorem chain_keeps {B N : Nat} {W W1 W2 : World} {v u : Value} {l : List (Int × Int)} (hN : B < N) (hb : Below W.heap.size W W1) (ho : OwnC N v l W1) (hg : W1.grownBy W2 v.ownBlock) : KeepsFrom (B + 1) W (W2.setCell ⟨B, 0, none⟩ u) := by
  refine ⟨by rw [World.size_setCell]; exact Nat.le_trans hb.size hg.size, fun k o hk h0 hc => ?_⟩
  have hlt := (Array.getElem?_eq_some_iff.1 h0).1
  have h1 := (hb.block k hlt).trans h0
  have h2 : W2.heap[k]? = some o := by
    refine (hg.block k (Array.getElem?_eq_some_iff.1 h1).1 (fun e => ?_)).trans h1
    obtain ⟨_, o', ho', hc'⟩ := ho.isCells k e.symm
    rw [h1] at ho'
    cases ho'
    rw [hc] at hc'
    cases hc'
  exact (Below.heap_setCell W2 _ u k (by show k ≠ B; omega)).trans h2
theorem keeps_below {B : Nat} {W W' : World} (hb : Below W.heap.size W W') : KeepsFrom B W W' := ⟨hb.size, fun k o _ h0 _ => (hb.block k (Array.getElem?_eq_some_iff.1 h0).1).trans h0⟩
theorem half_stepT {t : Int × Int → Int × Int → Int × Int → Bool} {N : Nat} {a : Option Addr} {c n : Nat} {L : List (Int × Int)} {p : Int × Int} {u : World} (hO : OwnC N (.slice a L.length c) L u) (hn : n ≤ L.length) (hk : n = keepB t L p L.length) : OwnC N (.slice a n c) (L.take (keepB t L p L.length)) u := by
  subst hk
  refine hO.take hn ?_ (Nat.le_refl _)
  rcases hO.fit with ⟨rfl, rfl, h0⟩ | ⟨_, h1, _⟩ <;> omega
theorem keepB_few' {t : Int × Int → Int × Int → Int × Int → Bool} {l : List (Int × Int)} {p : Int × Int} {n : Nat} (h : n ≤ 1) : keepB t l p n = n := keepB_one n h
theorem boxed_kept {B t : Nat} {v : Value} {N : Nat} {l : List (Int × Int)} {u : Value} {W1 W2 : World} (h : Boxed W1 B t v) (hN : B < N) (ho : OwnC N u l W1) (hg : W1.grownBy W2 u.ownBlock) : Boxed W2 B t v :=
  (hg.block B (Array.getElem?_eq_some_iff.1 h).1 (fun e => by have := (ho.isCells B e.symm).1; omega)).trans h
theorem boxed_later {W W' : World} {B t : Nat} {v : Value} (h : Boxed W B t v) (hb : Below W.heap.size W W') : Boxed W' B t v := (hb.block B (Array.getElem?_eq_some_iff.1 h).1).trans h
theorem reg7_below {B N : Nat} {W W1 W2 : World} {v u : Value} {l : List (Int × Int)} (hN : B < N) (hb : Below W.heap.size W W1) (ho : OwnC N v l W1) (hg : W1.grownBy W2 v.ownBlock) (hNw : N ≤ W.heap.size) : Below B W (W2.setCell ⟨B, 0, none⟩ u) :=
  (((hb.mono (by omega)).trans ((ho.grownBelow hg (Nat.le_trans hNw hb.size)).mono (by omega))) : Below B W W2).setCell (p := ⟨B, 0, none⟩) (Nat.le_refl _) _
set_option maxRecDepth 100000 in
set_option maxHeartbeats 800000 in
/-- The round's end: the point laid behind what stays of the chain. -/
theorem reg7 (l m N B Bx n cl : Nat) (q x y : Int) (a3 : Option Addr) (c3 : Nat) (Lk : List (Int × Int)) (Q : Exit → Act → World → Prop) (w' : World) (t0 t1 t2 t6 t7 t8 t9 t10 t11 t12 t13 t14 t15 t16 t17 t18 t19 t20 t21 t22 t23 t24 t25 t26 t27 t28 t29 t30 t31 t32 t33 t34 t35 t36 t37 t38 t39 t40 t41 : Value)
    (hQp : ∀ c a a' w, Q (.panic c) a w → Q (.panic c) a' w) (hbb : Hid (Boxed w' B 29 (.slice a3 cl c3))) (p0 : w'.cell? ⟨Bx, 0, none⟩ = some (.int .i64 x)) (p1 : w'.cell? ⟨Bx, 1, none⟩ = some (.int .i64 y))
    (hq1 : IntKind.i64.wrap (q + 1) = (n : Int)) (hn0 : (n : Int) ≤ (c3 : Int)) (HO2 : Hid (OwnC N (.slice a3 n c3) Lk w')) (hNw : N ≤ w'.heap.size) (hBN : B < N) (hlen : Lk.length + [(x, y)].length ≤ 1048576)
    (hQ : ∀ a' w3 v, KeepsFrom (B + 1) w' w3 → Below B w' w3 → Boxed w3 B 29 v → OwnC N v (Lk ++ [(x, y)]) w3 → Q .normal a' w3) :
    (Code.region 7 #[{ dst := some 29, op := Op.load 29 (Operand.tmp 3), type := 29, pos := "l3_hull.go:101", after := #[], guard := none },
{ dst := some 30, op := Op.move (Operand.tmp 5), type := 3, pos := "l3_hull.go:101", after := #[], guard := none },
{ dst := some 31, op := Op.binOp BinOp.add 3 (Operand.tmp 30) (Operand.const (Value.int IntKind.i64 1)) 3, type := 3, pos := "l3_hull.go:101", after := #[{ on := 1, ground := Ground.data }], guard := none },
{ dst := some 32, op := Op.slice 29 (Operand.tmp 29) none (some (Operand.tmp 31)) none, type := 29, pos := "l3_hull.go:101", after := #[{ on := 0, ground := Ground.data }, { on := 2, ground := Ground.data }], guard := none },
{ dst := some 33, op := Op.load 26 (Operand.tmp 4), type := 26, pos := "l3_hull.go:101", after := #[], guard := none },
{ dst := some 34, op := Op.buildSlice 29 1 #[(0, Operand.tmp 33)], type := 29, pos := "l3_hull.go:101", after := #[{ on := 4, ground := Ground.data }], guard := none },
{ dst := some 35, op := Op.call { callee := Callee.builtin Builtin.append, args := #[Operand.tmp 32, Operand.tmp 34], argTypes := #[29, 29] }, type := 29, pos := "l3_hull.go:101", after := #[{ on := 3, ground := Ground.data }, { on := 5, ground := Ground.data }], guard := none },
{ dst := none, op := Op.store 29 (Operand.tmp 3) (Operand.tmp 35), type := 0, pos := "l3_hull.go:101", after := #[{ on := 6, ground := Ground.data }, { on := 6, ground := Ground.chain }, { on := 0, ground := Ground.phase }, { on := 1, ground := Ground.phase }, { on := 2, ground := Ground.phase }, { on := 3, ground := Ground.phase }, { on := 4, ground := Ground.phase }, { on := 5, ground := Ground.phase }, { on := 6, ground := Ground.phase }], guard := none }] true).wpIn (Fence.wide.inRound l) m Tryd.prog Q { tmps := #[t0, t1, t2, .pointer (some ⟨B, 0, none⟩), .pointer (some ⟨Bx, 0, none⟩), .int .i64 q, t6, t7, t8, t9, t10, t11, t12, t13, t14, t15, t16, t17, t18, t19, t20, t21, t22, t23, t24, t25, t26, t27, t28, t29, t30, t31, t32, t33, t34, t35, t36, t37, t38, t39, t40, t41], defers := [] } w' := by
  obtain ⟨i0, hi, hz0, hz1, hz2⟩ := info_parts info_pt
  refine wpIn_region_lift (by kernel_rfl) (S := (fun _ => True)) (by kernel_rfl) ?_ (fun hHeld => ?_)
  · trivial
  have hbd : Below w'.heap.size w' w'.drew := (Below.refl _ _).drew
  generalize w'.drew = wd at hbd ⊢
  have dB := cell_later hbd hbb.out.cell
  have d0 := cell_later hbd p0
  have d1 := cell_later hbd p1
  refine wpAnyH_take (i := 1) (oi := { dst := some 30, op := Op.move (Operand.tmp 5), type := 3, pos := "l3_hull.go:101", after := #[], guard := none }) (v := ?v1rx1) rfl (by kernel_rfl) (by kernel_rfl) (by kernel_rfl) (fun c a w h => hQp c _ _ w h) (Or.inl ⟨by rfl, ?hy1rx1⟩) trivial ?rest1rx1
  case hy1rx1 => (intro w hSw; (try dsimp only at hSw);  clear hSw; go_simp; try with_reducible rfl)
  case' rest1rx1 => (try simp only [Act.put, List.setIfInBounds_toArray, List.set_cons_zero, List.set_cons_succ])
  refine wpAnyH_take (i := 2) (oi := { dst := some 31, op := Op.binOp BinOp.add 3 (Operand.tmp 30) (Operand.const (Value.int IntKind.i64 1)) 3, type := 3, pos := "l3_hull.go:101", after := #[{ on := 1, ground := Ground.data }], guard := none }) (v := ?v1rx2) rfl (by kernel_rfl) (by kernel_rfl) (by kernel_rfl) (fun c a w h => hQp c _ _ w h) (Or.inl ⟨by rfl, ?hy1rx2⟩) trivial ?rest1rx2
  case hy1rx2 => (intro w hSw; (try dsimp only at hSw);  clear hSw; go_simp; try with_reducible rfl)
  case' rest1rx2 => (try simp only [Act.put, List.setIfInBounds_toArray, List.set_cons_zero, List.set_cons_succ])
  refine wpAnyH_ready (rs := [0, 4]) (by kernel_rfl) (by simp) ?_
  refine AllReadyH.cons (o := { dst := some 29, op := Op.load 29 (Operand.tmp 3), type := 29, pos := "l3_hull.go:101", after := #[], guard := none }) rfl (fun K hK => ?_) (AllReadyH.cons (o := { dst := some 33, op := Op.load 26 (Operand.tmp 4), type := 26, pos := "l3_hull.go:101", after := #[], guard := none }) rfl (fun K hK => ?_) AllReadyH.nil)
  · go_simp
    refine hK.out _ _ trivial (fun _ => ?_)
    clear hK K
    try simp only [Act.put, List.setIfInBounds_toArray, List.set_cons_zero, List.set_cons_succ]
    refine wpAnyH_take (i := 3) (oi := { dst := some 32, op := Op.slice 29 (Operand.tmp 29) none (some (Operand.tmp 31)) none, type := 29, pos := "l3_hull.go:101", after := #[{ on := 0, ground := Ground.data }, { on := 2, ground := Ground.data }], guard := none }) (v := ?v2rx3) rfl (by kernel_rfl) (by kernel_rfl) (by kernel_rfl) (fun c a w h => hQp c _ _ w h) (Or.inl ⟨by rfl, ?hy2rx3⟩) trivial ?rest2rx3
    case hy2rx3 => (intro w hSw; (try dsimp only at hSw);  clear hSw; go_simp; try with_reducible rfl)
    case' rest2rx3 => (try simp only [Act.put, List.setIfInBounds_toArray, List.set_cons_zero, List.set_cons_succ])
    refine wpAnyH_ready (rs := [4]) (by kernel_rfl) (by simp) ?_
    refine AllReadyH.cons (o := { dst := some 33, op := Op.load 26 (Operand.tmp 4), type := 26, pos := "l3_hull.go:101", after := #[], guard := none }) rfl (fun K hK => ?_) AllReadyH.nil
    go_simp
    refine hK.out _ _ trivial (fun _ => ?_)
    clear hK K
    try simp only [Act.put, List.setIfInBounds_toArray, List.set_cons_zero, List.set_cons_succ]
    refine wpAnyH_ready (rs := [5]) (by kernel_rfl) (by simp) ?_
    refine AllReadyH.cons (o := { dst := some 34, op := Op.buildSlice 29 1 #[(0, Operand.tmp 33)], type := 29, pos := "l3_hull.go:101", after := #[{ on := 4, ground := Ground.data }], guard := none }) rfl (fun K hK => ?_) AllReadyH.nil
    go_simp
    refine hK.out _ _ trivial (fun _ => ?_)
    clear hK K
    have hns := one_src wd x y _ rfl
    have hbe : Below wd.heap.size wd (wd.alloc (.cells #[.int .i64 x, .int .i64 y] 26)) := by go_grown
    generalize wd.alloc (.cells #[.int .i64 x, .int .i64 y] 26) = we at hns hbe ⊢
    have eB := cell_later hbe dB
    clear dB
    try simp only [Act.put, List.setIfInBounds_toArray, List.set_cons_zero, List.set_cons_succ]
    refine wpAnyH_ready (rs := [6]) (by kernel_rfl) (by simp) ?_
    refine AllReadyH.cons (o := { dst := some 35, op := Op.call { callee := Callee.builtin Builtin.append, args := #[Operand.tmp 32, Operand.tmp 34], argTypes := #[29, 29] }, type := 29, pos := "l3_hull.go:101", after := #[{ on := 3, ground := Ground.data }, { on := 5, ground := Ground.data }], guard := none }) rfl (fun K hK => ?_) AllReadyH.nil
    rw [if_pos (by rfl)]
    refine wp_append_cut (.tmp 32) (.tmp 34) 29 rfl N Tryd.underlying29 hi hz0 hz1 hz2 (by rfl) _ Lk [(x, y)] rfl (HO2.out.later (grew hbd hbe)) _ _ _ rfl rfl hns (by simp) hlen (by have := hbd.size; have := hbe.size; omega) ?_
    intro g cp w2 hO2 hg2 _
    refine hK.out _ _ trivial (fun _ => ?_)
    clear hK K
    have hb2 := boxed_kept (boxed_later hbb.out (grew hbd hbe)) hBN (HO2.out.later (grew hbd hbe)) hg2
    have kB := hb2.cell
    have fB := hb2.frozen
    obtain ⟨ln, hln⟩ : ∃ ln, Lk.length + [(x, y)].length = ln := ⟨_, rfl⟩
    rw [hln] at hO2 ⊢
    try simp only [Act.put, List.setIfInBounds_toArray, List.set_cons_zero, List.set_cons_succ]
    refine wpAnyH_ready (rs := [7]) (by kernel_rfl) (by simp) ?_
    refine AllReadyH.cons (o := { dst := none, op := Op.store 29 (Operand.tmp 3) (Operand.tmp 35), type := 0, pos := "l3_hull.go:101", after := #[{ on := 6, ground := Ground.data }, { on := 6, ground := Ground.chain }, { on := 0, ground := Ground.phase }, { on := 1, ground := Ground.phase }, { on := 2, ground := Ground.phase }, { on := 3, ground := Ground.phase }, { on := 4, ground := Ground.phase }, { on := 5, ground := Ground.phase }, { on := 6, ground := Ground.phase }], guard := none }) rfl (fun K hK => ?_) AllReadyH.nil
    go_simp
    refine hK.out _ _ trivial (fun _ => ?_)
    clear hK K
    try simp only [Act.put, List.setIfInBounds_toArray, List.set_cons_zero, List.set_cons_succ]
    refine wpAnyH_done (by kernel_rfl) ?_ _
    exact hQ _ _ _ (chain_keeps hBN (grew hbd hbe) (HO2.out.later (grew hbd hbe)) hg2) (reg7_below hBN (grew hbd hbe) (HO2.out.later (grew hbd hbe)) hg2 hNw) (hb2.set _) (hO2.spared ((Spared.refl _ w2).setCell (off := 0) 0 _) (by intro b off e; cases e; exact hBN))
  · go_simp
    refine hK.out _ _ trivial (fun _ => ?_)
    clear hK K
    try simp only [Act.put, List.setIfInBounds_toArray, List.set_cons_zero, List.set_cons_succ]
    refine wpAnyH_ready (rs := [0, 5]) (by kernel_rfl) (by simp) ?_
    refine AllReadyH.cons (o := { dst := some 29, op := Op.load 29 (Operand.tmp 3), type := 29, pos := "l3_hull.go:101", after := #[], guard := none }) rfl (fun K hK => ?_) (AllReadyH.cons (o := { dst := some 34, op := Op.buildSlice 29 1 #[(0, Operand.tmp 33)], type := 29, pos := "l3_hull.go:101", after := #[{ on := 4, ground := Ground.data }], guard := none }) rfl (fun K hK => ?_) AllReadyH.nil)
    · go_simp
      refine hK.out _ _ trivial (fun _ => ?_)
      clear hK K
      try simp only [Act.put, List.setIfInBounds_toArray, List.set_cons_zero, List.set_cons_succ]
      refine wpAnyH_take (i := 3) (oi := { dst := some 32, op := Op.slice 29 (Operand.tmp 29) none (some (Operand.tmp 31)) none, type := 29, pos := "l3_hull.go:101", after := #[{ on := 0, ground := Ground.data }, { on := 2, ground := Ground.data }], guard := none }) (v := ?v4rx3) rfl (by kernel_rfl) (by kernel_rfl) (by kernel_rfl) (fun c a w h => hQp c _ _ w h) (Or.inl ⟨by rfl, ?hy4rx3⟩) trivial ?rest4rx3
      case hy4rx3 => (intro w hSw; (try dsimp only at hSw);  clear hSw; go_simp; try with_reducible rfl)
      case' rest4rx3 => (try simp only [Act.put, List.setIfInBounds_toArray, List.set_cons_zero, List.set_cons_succ])
      refine wpAnyH_ready (rs := [5]) (by kernel_rfl) (by simp) ?_
      refine AllReadyH.cons (o := { dst := some 34, op := Op.buildSlice 29 1 #[(0, Operand.tmp 33)], type := 29, pos := "l3_hull.go:101", after := #[{ on := 4, ground := Ground.data }], guard := none }) rfl (fun K hK => ?_) AllReadyH.nil
      go_simp
      refine hK.out _ _ trivial (fun _ => ?_)
      clear hK K
      have hns := one_src wd x y _ rfl
      have hbe : Below wd.heap.size wd (wd.alloc (.cells #[.int .i64 x, .int .i64 y] 26)) := by go_grown
      generalize wd.alloc (.cells #[.int .i64 x, .int .i64 y] 26) = we at hns hbe ⊢
      have eB := cell_later hbe dB
      clear dB
      try simp only [Act.put, List.setIfInBounds_toArray, List.set_cons_zero, List.set_cons_succ]
      refine wpAnyH_ready (rs := [6]) (by kernel_rfl) (by simp) ?_
      refine AllReadyH.cons (o := { dst := some 35, op := Op.call { callee := Callee.builtin Builtin.append, args := #[Operand.tmp 32, Operand.tmp 34], argTypes := #[29, 29] }, type := 29, pos := "l3_hull.go:101", after := #[{ on := 3, ground := Ground.data }, { on := 5, ground := Ground.data }], guard := none }) rfl (fun K hK => ?_) AllReadyH.nil
      rw [if_pos (by rfl)]
      refine wp_append_cut (.tmp 32) (.tmp 34) 29 rfl N Tryd.underlying29 hi hz0 hz1 hz2 (by rfl) _ Lk [(x, y)] rfl (HO2.out.later (grew hbd hbe)) _ _ _ rfl rfl hns (by simp) hlen (by have := hbd.size; have := hbe.size; omega) ?_
      intro g cp w2 hO2 hg2 _
      refine hK.out _ _ trivial (fun _ => ?_)
      clear hK K
      have hb2 := boxed_kept (boxed_later hbb.out (grew hbd hbe)) hBN (HO2.out.later (grew hbd hbe)) hg2
      have kB := hb2.cell
      have fB := hb2.frozen
      obtain ⟨ln, hln⟩ : ∃ ln, Lk.length + [(x, y)].length = ln := ⟨_, rfl⟩
      rw [hln] at hO2 ⊢
      try simp only [Act.put, List.setIfInBounds_toArray, List.set_cons_zero, List.set_cons_succ]
      refine wpAnyH_ready (rs := [7]) (by kernel_rfl) (by simp) ?_
      refine AllReadyH.cons (o := { dst := none, op := Op.store 29 (Operand.tmp 3) (Operand.tmp 35), type := 0, pos := "l3_hull.go:101", after := #[{ on := 6, ground := Ground.data }, { on := 6, ground := Ground.chain }, { on := 0, ground := Ground.phase }, { on := 1, ground := Ground.phase }, { on := 2, ground := Ground.phase }, { on := 3, ground := Ground.phase }, { on := 4, ground := Ground.phase }, { on := 5, ground := Ground.phase }, { on := 6, ground := Ground.phase }], guard := none }) rfl (fun K hK => ?_) AllReadyH.nil
      go_simp
      refine hK.out _ _ trivial (fun _ => ?_)
      clear hK K
      try simp only [Act.put, List.setIfInBounds_toArray, List.set_cons_zero, List.set_cons_succ]
      refine wpAnyH_done (by kernel_rfl) ?_ _
      exact hQ _ _ _ (chain_keeps hBN (grew hbd hbe) (HO2.out.later (grew hbd hbe)) hg2) (reg7_below hBN (grew hbd hbe) (HO2.out.later (grew hbd hbe)) hg2 hNw) (hb2.set _) (hO2.spared ((Spared.refl _ w2).setCell (off := 0) 0 _) (by intro b off e; cases e; exact hBN))
    · go_simp
      refine hK.out _ _ trivial (fun _ => ?_)
      clear hK K
      have hns := one_src wd x y _ rfl
      have hbe : Below wd.heap.size wd (wd.alloc (.cells #[.int .i64 x, .int .i64 y] 26)) := by go_grown
      generalize wd.alloc (.cells #[.int .i64 x, .int .i64 y] 26) = we at hns hbe ⊢
      have eB := cell_later hbe dB
      clear dB
      try simp only [Act.put, List.setIfInBounds_toArray, List.set_cons_zero, List.set_cons_succ]
      refine wpAnyH_ready (rs := [0]) (by kernel_rfl) (by simp) ?_
      refine AllReadyH.cons (o := { dst := some 29, op := Op.load 29 (Operand.tmp 3), type := 29, pos := "l3_hull.go:101", after := #[], guard := none }) rfl (fun K hK => ?_) AllReadyH.nil
      go_simp
      refine hK.out _ _ trivial (fun _ => ?_)
      clear hK K
      try simp only [Act.put, List.setIfInBounds_toArray, List.set_cons_zero, List.set_cons_succ]
      refine wpAnyH_take (i := 3) (oi := { dst := some 32, op := Op.slice 29 (Operand.tmp 29) none (some (Operand.tmp 31)) none, type := 29, pos := "l3_hull.go:101", after := #[{ on := 0, ground := Ground.data }, { on := 2, ground := Ground.data }], guard := none }) (v := ?v5rx3) rfl (by kernel_rfl) (by kernel_rfl) (by kernel_rfl) (fun c a w h => hQp c _ _ w h) (Or.inl ⟨by rfl, ?hy5rx3⟩) trivial ?rest5rx3
      case hy5rx3 => (intro w hSw; (try dsimp only at hSw);  clear hSw; go_simp; try with_reducible rfl)
      case' rest5rx3 => (try simp only [Act.put, List.setIfInBounds_toArray, List.set_cons_zero, List.set_cons_succ])
      refine wpAnyH_ready (rs := [6]) (by kernel_rfl) (by simp) ?_
      refine AllReadyH.cons (o := { dst := some 35, op := Op.call { callee := Callee.builtin Builtin.append, args := #[Operand.tmp 32, Operand.tmp 34], argTypes := #[29, 29] }, type := 29, pos := "l3_hull.go:101", after := #[{ on := 3, ground := Ground.data }, { on := 5, ground := Ground.data }], guard := none }) rfl (fun K hK => ?_) AllReadyH.nil
      rw [if_pos (by rfl)]
      refine wp_append_cut (.tmp 32) (.tmp 34) 29 rfl N Tryd.underlying29 hi hz0 hz1 hz2 (by rfl) _ Lk [(x, y)] rfl (HO2.out.later (grew hbd hbe)) _ _ _ rfl rfl hns (by simp) hlen (by have := hbd.size; have := hbe.size; omega) ?_
      intro g cp w2 hO2 hg2 _
      refine hK.out _ _ trivial (fun _ => ?_)
      clear hK K
      have hb2 := boxed_kept (boxed_later hbb.out (grew hbd hbe)) hBN (HO2.out.later (grew hbd hbe)) hg2
      have kB := hb2.cell
      have fB := hb2.frozen
      obtain ⟨ln, hln⟩ : ∃ ln, Lk.length + [(x, y)].length = ln := ⟨_, rfl⟩
      rw [hln] at hO2 ⊢
      try simp only [Act.put, List.setIfInBounds_toArray, List.set_cons_zero, List.set_cons_succ]
      refine wpAnyH_ready (rs := [7]) (by kernel_rfl) (by simp) ?_
      refine AllReadyH.cons (o := { dst := none, op := Op.store 29 (Operand.tmp 3) (Operand.tmp 35), type := 0, pos := "l3_hull.go:101", after := #[{ on := 6, ground := Ground.data }, { on := 6, ground := Ground.chain }, { on := 0, ground := Ground.phase }, { on := 1, ground := Ground.phase }, { on := 2, ground := Ground.phase }, { on := 3, ground := Ground.phase }, { on := 4, ground := Ground.phase }, { on := 5, ground := Ground.phase }, { on := 6, ground := Ground.phase }], guard := none }) rfl (fun K hK => ?_) AllReadyH.nil
      go_simp
      refine hK.out _ _ trivial (fun _ => ?_)
      clear hK K
      try simp only [Act.put, List.setIfInBounds_toArray, List.set_cons_zero, List.set_cons_succ]
      refine wpAnyH_done (by kernel_rfl) ?_ _
      exact hQ _ _ _ (chain_keeps hBN (grew hbd hbe) (HO2.out.later (grew hbd hbe)) hg2) (reg7_below hBN (grew hbd hbe) (HO2.out.later (grew hbd hbe)) hg2 hNw) (hb2.set _) (hO2.spared ((Spared.refl _ w2).setCell (off := 0) 0 _) (by intro b off e; cases e; exact hBN))
end Go.Proofs.YtegmlemejmahiaaDoor
