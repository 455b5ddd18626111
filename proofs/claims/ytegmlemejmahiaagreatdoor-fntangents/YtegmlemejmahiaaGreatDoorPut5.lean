/-
  PutOutside: the program's and the specification's (contracts for the walks).
  Conditions: as each theorem states them.
-/
import Derived.Test.YtegmlemejmahiaaGreatDoorB5
import Derived.Test.YtegmlemejmahiaaGreatDoorFClone
namespace Go.Proofs.YtegmlemejmahiaaGreatDoor
open Go.RowKit Go.Shelf
set_option linter.unusedVariables false
set_option maxRecDepth 8000
/-- The hull of a list's points and one more. -/
def poH (l : List (Int × Int)) (x y : Int) : List (Int × Int) := hullB slB (fromL (l ++ [(x, y)]))
def poOk (l : List (Int × Int)) (x y : Int) : Bool := ghB l && goodB x y && decide ((poH l x y).length ≤ 60)
def poL (l : List (Int × Int)) (x y : Int) : List (Int × Int) := if poOk l x y = true then poH l x y else []
theorem poL_len (l : List (Int × Int)) (x y : Int) : (poL l x y).length ≤ 60 := by
  unfold poL; split
  · rename_i h
    unfold poOk at h
    rw [Bool.and_eq_true, decide_eq_true_iff] at h
    exact h.2
  · exact Nat.zero_le _
theorem po_tl {l : List (Int × Int)} {x y : Int} (hG : ghB l = true) (hP : goodB x y = true) : hullB tlB (fromL (l ++ [(x, y)])) = poH l x y := by
  refine hull_eq (fromL_all fun p hp => ?_)
  rcases List.mem_append.1 hp with h | h
  · exact ghB_all hG p h
  · simp at h; subst h; exact hP
theorem poH_len {l : List (Int × Int)} {x y : Int} (hG : ghB l = true) : (fromL (l ++ [(x, y)])).length ≤ 61 := by
  have h1 := fromL_few (l ++ [(x, y)])
  have h2 := ghB_len hG
  rw [List.length_append] at h1
  simp at h1
  omega
/-- Nothing laid behind nothing. -/
theorem run_append_zero {P : Program} {w : World} {N : Nat} {t ty : TypeId} {i : TypeInfo} (ht : P.underlying t = some (.slice 26)) (hi : P.info? 26 = some i) (hz1 : i.size = 2)
    {g cap : Nat} (hown : OwnC N (.slice (some ⟨g, 0, none⟩) 0 cap) [] w) (ad : Addr) (c : Nat) :
    ∃ w', (Builtin.append_ #[t, t] ty #[.slice (some ⟨g, 0, none⟩) 0 cap, .slice (some ad) 0 c]).run P w = .ok (.slice (some ⟨g, 0, none⟩) 0 cap) w' ∧
      OwnC N (.slice (some ⟨g, 0, none⟩) 0 cap) [] w' ∧ w.grownBy w' (some g) := by
  rcases hown.rows with ⟨_, e⟩ | ⟨g', cap', cur, e, hbg, hg, hnc, hcm, hcs, htake⟩
  · cases e
  · simp at e
    obtain ⟨rfl, rfl⟩ := e
    have hr := run_append_room (P := P) w t ty 26 i ht hi g 0 cap cur hg ad 0 c [] (by rw [hz1]; rfl) (fun j u hu => by simp at hu) (by intro y hy; simp at hy) (by omega) (by rw [hz1]; simp)
    refine ⟨_, hr, ?_, ⟨rfl, rfl, rfl, by simp, fun k _ hk => setRow_other w g k _ (fun e => hk (by simp [e]))⟩⟩
    refine ownC_of (l := []) hbg (setRow_heap w g cur _ _ _ hg) (by simp) hcm ?_ ?_
    · simp only [List.size_toArray, List.length_append, List.length_take, List.length_drop, Array.length_toList, List.length_nil]
      omega
    · simp [cells]
theorem wpList_append_zero {P : Program} {w : World} {ops : Array Oper} {rest : List Oper} {o : Oper} {a : Act} {Q : Exit → Act → World → Prop} (hgd : o.guard = none) (s x : Operand) (t : TypeId) (ho : o.op = .call { callee := .builtin .append, args := #[s, x], argTypes := #[t, t] })
    (N : Nat) {i : TypeInfo} (ht : P.underlying t = some (.slice 26)) (hi : P.info? 26 = some i) (hz1 : i.size = 2)
    (g cap : Nat) (hs : a.eval s = .slice (some ⟨g, 0, none⟩) 0 cap) (hown : OwnC N (.slice (some ⟨g, 0, none⟩) 0 cap) [] w) (ad : Addr) (c : Nat) (hx : a.eval x = .slice (some ad) 0 c)
    (h : ∀ w', OwnC N (.slice (some ⟨g, 0, none⟩) 0 cap) [] w' → w.grownBy w' (some g) → wpList P ops Q rest (a.put o.dst (.slice (some ⟨g, 0, none⟩) 0 cap)) w') : wpList P ops Q (o :: rest) a w := by
  refine wpList_plain hgd fun K hK => ?_
  obtain ⟨w', hr, h2, h3⟩ := run_append_zero (P := P) (t := t) (ty := o.type) ht hi hz1 hown ad c
  unfold Oper.wp
  simp [execOp, ho, resolve, invoke, builtin, hs, hx, hr, Result.andThen]
  exact hK _ _ (h w' h2 h3)
attribute [local go_sem] eql_nil_sl
theorem eql_nil_nil (w : World) : (binOp .eql 24 (.slice none 0 0) (.slice none 0 0)).run Tryz.prog w = .ok (.bool true) w := by
  have := Lib.run_eql_slice_nil (P := Tryz.prog) w 24 26 none 0 0 0 0 Tryz.underlying24
  simpa using this
attribute [local go_sem] eql_nil_nil
set_option maxHeartbeats 2000000 in
theorem clone_e (l : List (Int × Int)) (a : Option Addr) (n cap : Nat) (w : World) (hl : l.length = n) (h1 : n ≤ 1000000) (hF : Fit a n cap) (hA : At w.heap.size a l w) :
    Calls Tryz.prog 33 #[.slice a n cap] w fun e w' => ∃ v, e = .returned v ∧ OwnC w.heap.size v l w' ∧ Below w.heap.size w w' := by
  rcases hF with ⟨rfl, rfl, rfl⟩ | ⟨⟨b, off, rfl⟩, h2, h3⟩
  · obtain rfl : l = [] := List.length_eq_zero_iff.1 hl
    go_enter Tryz.func33, Tryz.ntmps33
    go_wp2
    go_ret
    exact ⟨_, rfl, OwnC.nil _ _, Below.refl _ _⟩
  · by_cases h0 : 0 < n
    · exact clone_c l b off n cap w hl h0 h1 hA
    · obtain rfl : n = 0 := by omega
      obtain rfl : l = [] := List.length_eq_zero_iff.1 hl
      obtain ⟨i0, hi, hz0, hz1, hz2⟩ := info_parts info_pt
      clear hA h0 hl
      go_enter Tryz.func33, Tryz.ntmps33
      go_wp2_with (at_builtin; refine wpList_append_zero rfl (.tmp 5) (.tmp 6) 24 rfl w.heap.size Tryz.underlying24 hi hz1 _ _ rfl (OwnC.empty (Nat.le_refl _)) _ _ rfl ?_; intro w2 hO2 hg2; have hB2 := OwnC.grownBelow (OwnC.empty (Nat.le_refl w.heap.size)) hg2 (by simp); have HX := hid hO2; have HB2 := hid hB2; clear hg2 hO2 hB2)
      go_ret
      exact ⟨_, rfl, HX.out, (by go_grown : Below w.heap.size w _).trans HB2.out⟩
theorem ret_v2 {v u : Value} {a b : Bool} (h : v = u) (k : a = b) : Ending.returned (.tuple #[v, .bool a]) = .returned (.tuple #[u, .bool b]) := by rw [h, k]
set_option maxHeartbeats 8000000 in
theorem putSpec_c (l : List (Int × Int)) (x y : Int) (a : Option Addr) (len cap : Nat) (w : World) (hl : l.length = len) (h1 : len ≤ 1048576) (hF : Fit a len cap) (hA : At w.heap.size a l w) :
    Calls Tryz.prog 17 #[.slice a len cap, .agg #[.int .i64 x, .int .i64 y]] w fun e w' => ∃ v, e = .returned (.tuple #[v, .bool (poOk l x y)]) ∧ OwnC w.heap.size v (poL l x y) w' ∧ Below w.heap.size w w' := by
  subst hl
  have HA := hid hA
  have HFt := hid hF
  clear hA hF
  obtain ⟨i0, hi, hz0, hz1, hz2⟩ := info_parts info_pt
  have hbw : Below w.heap.size w (w.alloc (.cells #[.int .i64 x, .int .i64 y] 26)) := by go_grown
  have k0 := box0 w x y 26
  have k1 := box1 w x y 26
  go_enter Tryz.func17, Tryz.ntmps17
  go_upto_region 1 with fail
  generalize (w.alloc (.cells #[.int .i64 x, .int .i64 y] 26)) = w0 at hbw k0 k1 ⊢
  cases hG : ghB l
  · have HZ := hid (show poOk l x y = false by unfold poOk; rw [hG]; rfl)
    go_wp2_with (go_at_call 43; refine (goodHullSpec_c l _ _ _ _ rfl h1 ((HA.out.later hbw).mono hbw.size)).mono ?_; rw [hG]; rintro e w1 ⟨rfl, hb⟩; replace hbw := grew hbw hb; replace k0 := cell_later hb k0; replace k1 := cell_later hb k1; clear hb)
    go_ret2
    exact ⟨_, ret_v2 rfl HZ.out.symm, by unfold poL; rw [HZ.out]; exact OwnC.nil _ _, hbw⟩
  · cases hP : goodB x y
    · have HZ := hid (show poOk l x y = false by unfold poOk; rw [hG, hP]; rfl)
      go_wp2_with (first | (go_at_call 43; refine (goodHullSpec_c l _ _ _ _ rfl h1 ((HA.out.later hbw).mono hbw.size)).mono ?_; rw [hG]; rintro e w1 ⟨rfl, hb⟩; replace hbw := grew hbw hb; replace k0 := cell_later hb k0; replace k1 := cell_later hb k1; clear hb) | (go_at_call 44; refine (goodSpec_e _ _ _).mono ?_; rw [hP]; rintro e w2 ⟨rfl, hb⟩; replace hbw := grew hbw hb; replace k0 := cell_later hb k0; replace k1 := cell_later hb k1; clear hb))
      go_ret2
      exact ⟨_, ret_v2 rfl HZ.out.symm, by unfold poL; rw [HZ.out]; exact OwnC.nil _ _, hbw⟩
    · have HG := hid hG
      have HP := hid hP
      have hl6 := ghB_len hG
      have hf6 := poH_len (x := x) (y := y) hG
      go_upto_region 3 with (first | (go_at_call 43; refine (goodHullSpec_c l _ _ _ _ rfl h1 ((HA.out.later hbw).mono hbw.size)).mono ?_; rw [hG]; rintro e w1 ⟨rfl, hb⟩; replace hbw := grew hbw hb; replace k0 := cell_later hb k0; replace k1 := cell_later hb k1; clear hb) | (go_at_call 44; refine (goodSpec_e _ _ _).mono ?_; rw [hP]; rintro e w2 ⟨rfl, hb⟩; replace hbw := grew hbw hb; replace k0 := cell_later hb k0; replace k1 := cell_later hb k1; clear hb))
      clear hG hP
      refine wp_region_held_drew (S := (fun u => u.cell? ⟨w.heap.size, 0, none⟩ = some (.int .i64 x) ∧ u.cell? ⟨w.heap.size, 1, none⟩ = some (.int .i64 y) ∧ Below w.heap.size w u)) (by kernel_rfl) ?_ (fun hHeld => ?_)
      · exact ⟨cell_later (Below.refl _ _).drew k0, cell_later (Below.refl _ _).drew k1, grew hbw (Below.refl _ _).drew⟩
      clear hbw k0 k1
      generalize w2.drew = wd at hHeld ⊢
      refine wpAnyH_take (i := 0) (oi := { dst := some 15, op := Op.move (Operand.tmp 0), type := 24, pos := "l5_far.go:105", after := #[], guard := none }) (v := ?v3x0) rfl (by kernel_rfl) (by kernel_rfl) (by kernel_rfl) (fun _ _ _ h => h) (Or.inl ⟨by rfl, ?hy3x0⟩) (by with_reducible assumption) ?rest3x0
      case hy3x0 => (intro w hSw; (try dsimp only at hSw); go_simp; try with_reducible rfl)
      case' rest3x0 => (try simp only [Act.put, List.setIfInBounds_toArray, List.set_cons_zero, List.set_cons_succ])
      refine wpAnyH_take (i := 2) (oi := { dst := some 17, op := Op.load 26 (Operand.tmp 3), type := 26, pos := "l5_far.go:105", after := #[], guard := none }) (v := ?v4x2) rfl (by kernel_rfl) (by kernel_rfl) (by kernel_rfl) (fun _ _ _ h => h) (Or.inl ⟨by rfl, ?hy4x2⟩) (by with_reducible assumption) ?rest4x2
      case hy4x2 => (intro w hSw; (try dsimp only at hSw); go_simp; try with_reducible rfl)
      case' rest4x2 => (try simp only [Act.put, List.setIfInBounds_toArray, List.set_cons_zero, List.set_cons_succ])
      refine wpAnyH_ready (rs := [1, 3]) (by kernel_rfl) (by simp) ?_
      refine AllReadyH.cons (o := { dst := some 16, op := Op.call { callee := Callee.value (Operand.func 48), args := #[Operand.tmp 15], argTypes := #[24] }, type := 24, pos := "l5_far.go:105", after := #[{ on := 0, ground := Ground.data }], guard := none }) rfl (fun K hK => ?_) (AllReadyH.cons (o := { dst := some 18, op := Op.buildSlice 24 1 #[(0, Operand.tmp 17)], type := 24, pos := "l5_far.go:105", after := #[{ on := 2, ground := Ground.data }], guard := none }) rfl (fun K hK => ?_) AllReadyH.nil)
      · go_simp
        refine (l2Own_c l _ _ _ wd rfl (by omega) HFt.out ((HA.out.later hHeld.2.2).mono hHeld.2.2.size)).mono ?_
        rintro e w2 ⟨v1, rfl, ho1, hb2⟩
        replace ho1 := (ho1.cut).mono (held_lt (by with_reducible assumption) : w.heap.size < wd.heap.size)
        obtain ⟨a1, p1, hv1⟩ := ho1.shape
        subst hv1
        go_wp2_with fail
        refine hK.out _ _ (keep2 hb2 hHeld) (fun hHeld => ?_)
        clear hK K
        try simp only [Act.put, List.setIfInBounds_toArray, List.set_cons_zero, List.set_cons_succ]
        refine wpAnyH_ready (rs := [3]) (by kernel_rfl) (by simp) ?_
        refine AllReadyH.cons (o := { dst := some 18, op := Op.buildSlice 24 1 #[(0, Operand.tmp 17)], type := 24, pos := "l5_far.go:105", after := #[{ on := 2, ground := Ground.data }], guard := none }) rfl (fun K hK => ?_) AllReadyH.nil
        go_simp
        refine hK.out _ _ (keep2 (show Below w2.heap.size w2 (w2.alloc (.cells #[.int .i64 x, .int .i64 y] 26)) by go_grown) hHeld) (fun hHeld => ?_)
        clear hK K
        have hns := one_src w2 x y _ rfl
        have hbe : Below w2.heap.size w2 (w2.alloc (.cells #[.int .i64 x, .int .i64 y] 26)) := by go_grown
        generalize w2.alloc (.cells #[.int .i64 x, .int .i64 y] 26) = w3 at hns hbe hHeld ⊢
        try simp only [Act.put, List.setIfInBounds_toArray, List.set_cons_zero, List.set_cons_succ]
        replace ho1 := ho1.later hbe
        refine wpAnyH_ready (rs := [4]) (by kernel_rfl) (by simp) ?_
        refine AllReadyH.cons (o := { dst := some 19, op := Op.call { callee := Callee.builtin Builtin.append, args := #[Operand.tmp 16, Operand.tmp 18], argTypes := #[24, 24] }, type := 24, pos := "l5_far.go:105", after := #[{ on := 1, ground := Ground.data }, { on := 3, ground := Ground.data }, { on := 1, ground := Ground.chain }], guard := none }) rfl (fun K hK => ?_) AllReadyH.nil
        rw [if_pos (by rfl)]
        refine wp_append_cut (.tmp 16) (.tmp 18) 24 rfl (w.heap.size + 1) Tryz.underlying24 hi hz0 hz1 hz2 (by rfl) _ l [(x, y)] rfl ho1 _ _ _ rfl rfl hns (by simp) (by simp; omega) (held_lt (by with_reducible assumption)) ?_
        intro g cp w4 hO4 hg4 _
        have hB4 := OwnC.grownBelow ho1 hg4 (held_lt (by with_reducible assumption))
        refine hK.out _ _ ⟨(hB4.cell (p := ⟨w.heap.size, 0, none⟩) (by show w.heap.size < w.heap.size + 1; omega)).trans hHeld.1, (hB4.cell (p := ⟨w.heap.size, 1, none⟩) (by show w.heap.size < w.heap.size + 1; omega)).trans hHeld.2.1, hHeld.2.2.trans (hB4.mono (Nat.le_succ _))⟩ (fun hHeld => ?_)
        clear hK K
        obtain ⟨ln, hln⟩ : ∃ ln, l.length + [(x, y)].length = ln := ⟨_, rfl⟩
        rw [hln] at hO4 ⊢
        try simp only [Act.put, List.setIfInBounds_toArray, List.set_cons_zero, List.set_cons_succ]
        refine wpAnyH_ready (rs := [5]) (by kernel_rfl) (by simp) ?_
        refine AllReadyH.cons (o := { dst := some 20, op := Op.call { callee := Callee.value (Operand.func 47), args := #[Operand.tmp 19], argTypes := #[24] }, type := 24, pos := "l5_far.go:105", after := #[{ on := 4, ground := Ground.data }, { on := 4, ground := Ground.chain }], guard := none }) rfl (fun K hK => ?_) AllReadyH.nil
        go_simp
        refine (l2From_c (l ++ [(x, y)]) _ _ _ w4 (by rw [List.length_append]; exact hln) (by have h := hln; simp at h; omega) hO4.at).mono ?_
        rintro e w5 ⟨v5, rfl, ho5, hb5⟩
        obtain ⟨a5, p5, hv5⟩ := ho5.shape
        subst hv5
        go_wp2_with fail
        refine hK.out _ _ (keep2 hb5 hHeld) (fun hHeld => ?_)
        clear hK K
        try simp only [Act.put, List.setIfInBounds_toArray, List.set_cons_zero, List.set_cons_succ]
        refine wpAnyH_ready (rs := [6]) (by kernel_rfl) (by simp) ?_
        refine AllReadyH.cons (o := { dst := some 21, op := Op.call { callee := Callee.value (Operand.func 46), args := #[Operand.tmp 20], argTypes := #[24] }, type := 24, pos := "l5_far.go:105", after := #[{ on := 5, ground := Ground.data }, { on := 5, ground := Ground.chain }], guard := none }) rfl (fun K hK => ?_) AllReadyH.nil
        go_simp
        refine (l3Hull_c (fromL (l ++ [(x, y)])) _ _ _ w5 rfl (by omega) ho5.fit ho5.at).mono ?_
        rw [show hullB slB (fromL (l ++ [(x, y)])) = poH l x y from rfl]
        rintro e w6 ⟨v6, rfl, ho6, hb6⟩
        replace ho6 := ho6.mono hHeld.2.2.size
        obtain ⟨a6, p6, hv6⟩ := ho6.shape
        subst hv6
        go_wp2_with fail
        refine hK.out _ _ (keep2 hb6 hHeld) (fun hHeld => ?_)
        clear hK K
        try simp only [Act.put, List.setIfInBounds_toArray, List.set_cons_zero, List.set_cons_succ]
        refine wpAnyH_take (i := 7) (oi := { dst := some 6, op := Op.assign (Operand.tmp 21), type := 24, pos := "l5_far.go:105", after := #[{ on := 6, ground := Ground.data }, { on := 6, ground := Ground.chain }, { on := 0, ground := Ground.phase }, { on := 1, ground := Ground.phase }, { on := 2, ground := Ground.phase }, { on := 3, ground := Ground.phase }, { on := 4, ground := Ground.phase }, { on := 5, ground := Ground.phase }, { on := 6, ground := Ground.phase }], guard := none }) (v := ?v1x7) rfl (by kernel_rfl) (by kernel_rfl) (by kernel_rfl) (fun _ _ _ h => h) (Or.inl ⟨by rfl, ?hy1x7⟩) (by with_reducible assumption) ?rest1x7
        case hy1x7 => (intro w hSw; (try dsimp only at hSw); go_simp; try with_reducible rfl)
        case' rest1x7 => (try simp only [Act.put, List.setIfInBounds_toArray, List.set_cons_zero, List.set_cons_succ])
        refine wpAnyH_done (by kernel_rfl) ?_ _
        have HO := hid ho6
        have HB := hid hHeld.2.2
        clear ho6 hHeld
        obtain ⟨H, hH⟩ : ∃ H, poH l x y = H := ⟨_, rfl⟩
        have HH := hid hH
        rw [hH] at HO ⊢
        clear hH
        by_cases h6 : H.length ≤ 60
        · have hd : ¬ (60 : Int) < (H.length : Int) := by omega
          have HZ := hid (show poOk l x y = true by unfold poOk; rw [HG.out, HP.out, HH.out, decide_eq_true h6]; rfl)
          go_wp2
          go_ret2
          exact ⟨_, ret_v2 rfl HZ.out.symm, by unfold poL; rw [HZ.out, if_pos rfl, HH.out]; exact HO.out, HB.out⟩
        · have hd : (60 : Int) < (H.length : Int) := by omega
          have HZ := hid (show poOk l x y = false by unfold poOk; rw [HG.out, HP.out, HH.out, decide_eq_false h6]; rfl)
          go_wp2
          go_ret2
          exact ⟨_, ret_v2 rfl HZ.out.symm, by unfold poL; rw [HZ.out]; exact OwnC.nil _ _, HB.out⟩
      · go_simp
        refine hK.out _ _ (keep2 (show Below wd.heap.size wd (wd.alloc (.cells #[.int .i64 x, .int .i64 y] 26)) by go_grown) hHeld) (fun hHeld => ?_)
        clear hK K
        have hns := one_src wd x y _ rfl
        have hbe : Below wd.heap.size wd (wd.alloc (.cells #[.int .i64 x, .int .i64 y] 26)) := by go_grown
        generalize wd.alloc (.cells #[.int .i64 x, .int .i64 y] 26) = w3 at hns hbe hHeld ⊢
        try simp only [Act.put, List.setIfInBounds_toArray, List.set_cons_zero, List.set_cons_succ]
        refine wpAnyH_ready (rs := [1]) (by kernel_rfl) (by simp) ?_
        refine AllReadyH.cons (o := { dst := some 16, op := Op.call { callee := Callee.value (Operand.func 48), args := #[Operand.tmp 15], argTypes := #[24] }, type := 24, pos := "l5_far.go:105", after := #[{ on := 0, ground := Ground.data }], guard := none }) rfl (fun K hK => ?_) AllReadyH.nil
        go_simp
        refine (l2Own_c l _ _ _ w3 rfl (by omega) HFt.out ((HA.out.later hHeld.2.2).mono hHeld.2.2.size)).mono ?_
        rintro e w2 ⟨v1, rfl, ho1, hb2⟩
        replace ho1 := (ho1.cut).mono (held_lt (by with_reducible assumption) : w.heap.size < w3.heap.size)
        obtain ⟨a1, p1, hv1⟩ := ho1.shape
        subst hv1
        go_wp2_with fail
        refine hK.out _ _ (keep2 hb2 hHeld) (fun hHeld => ?_)
        clear hK K
        try simp only [Act.put, List.setIfInBounds_toArray, List.set_cons_zero, List.set_cons_succ]
        replace hns := fun j u hu => cell_later hb2 (hns j u hu)
        refine wpAnyH_ready (rs := [4]) (by kernel_rfl) (by simp) ?_
        refine AllReadyH.cons (o := { dst := some 19, op := Op.call { callee := Callee.builtin Builtin.append, args := #[Operand.tmp 16, Operand.tmp 18], argTypes := #[24, 24] }, type := 24, pos := "l5_far.go:105", after := #[{ on := 1, ground := Ground.data }, { on := 3, ground := Ground.data }, { on := 1, ground := Ground.chain }], guard := none }) rfl (fun K hK => ?_) AllReadyH.nil
        rw [if_pos (by rfl)]
        refine wp_append_cut (.tmp 16) (.tmp 18) 24 rfl (w.heap.size + 1) Tryz.underlying24 hi hz0 hz1 hz2 (by rfl) _ l [(x, y)] rfl ho1 _ _ _ rfl rfl hns (by simp) (by simp; omega) (held_lt (by with_reducible assumption)) ?_
        intro g cp w4 hO4 hg4 _
        have hB4 := OwnC.grownBelow ho1 hg4 (held_lt (by with_reducible assumption))
        refine hK.out _ _ ⟨(hB4.cell (p := ⟨w.heap.size, 0, none⟩) (by show w.heap.size < w.heap.size + 1; omega)).trans hHeld.1, (hB4.cell (p := ⟨w.heap.size, 1, none⟩) (by show w.heap.size < w.heap.size + 1; omega)).trans hHeld.2.1, hHeld.2.2.trans (hB4.mono (Nat.le_succ _))⟩ (fun hHeld => ?_)
        clear hK K
        obtain ⟨ln, hln⟩ : ∃ ln, l.length + [(x, y)].length = ln := ⟨_, rfl⟩
        rw [hln] at hO4 ⊢
        try simp only [Act.put, List.setIfInBounds_toArray, List.set_cons_zero, List.set_cons_succ]
        refine wpAnyH_ready (rs := [5]) (by kernel_rfl) (by simp) ?_
        refine AllReadyH.cons (o := { dst := some 20, op := Op.call { callee := Callee.value (Operand.func 47), args := #[Operand.tmp 19], argTypes := #[24] }, type := 24, pos := "l5_far.go:105", after := #[{ on := 4, ground := Ground.data }, { on := 4, ground := Ground.chain }], guard := none }) rfl (fun K hK => ?_) AllReadyH.nil
        go_simp
        refine (l2From_c (l ++ [(x, y)]) _ _ _ w4 (by rw [List.length_append]; exact hln) (by have h := hln; simp at h; omega) hO4.at).mono ?_
        rintro e w5 ⟨v5, rfl, ho5, hb5⟩
        obtain ⟨a5, p5, hv5⟩ := ho5.shape
        subst hv5
        go_wp2_with fail
        refine hK.out _ _ (keep2 hb5 hHeld) (fun hHeld => ?_)
        clear hK K
        try simp only [Act.put, List.setIfInBounds_toArray, List.set_cons_zero, List.set_cons_succ]
        refine wpAnyH_ready (rs := [6]) (by kernel_rfl) (by simp) ?_
        refine AllReadyH.cons (o := { dst := some 21, op := Op.call { callee := Callee.value (Operand.func 46), args := #[Operand.tmp 20], argTypes := #[24] }, type := 24, pos := "l5_far.go:105", after := #[{ on := 5, ground := Ground.data }, { on := 5, ground := Ground.chain }], guard := none }) rfl (fun K hK => ?_) AllReadyH.nil
        go_simp
        refine (l3Hull_c (fromL (l ++ [(x, y)])) _ _ _ w5 rfl (by omega) ho5.fit ho5.at).mono ?_
        rw [show hullB slB (fromL (l ++ [(x, y)])) = poH l x y from rfl]
        rintro e w6 ⟨v6, rfl, ho6, hb6⟩
        replace ho6 := ho6.mono hHeld.2.2.size
        obtain ⟨a6, p6, hv6⟩ := ho6.shape
        subst hv6
        go_wp2_with fail
        refine hK.out _ _ (keep2 hb6 hHeld) (fun hHeld => ?_)
        clear hK K
        try simp only [Act.put, List.setIfInBounds_toArray, List.set_cons_zero, List.set_cons_succ]
        refine wpAnyH_take (i := 7) (oi := { dst := some 6, op := Op.assign (Operand.tmp 21), type := 24, pos := "l5_far.go:105", after := #[{ on := 6, ground := Ground.data }, { on := 6, ground := Ground.chain }, { on := 0, ground := Ground.phase }, { on := 1, ground := Ground.phase }, { on := 2, ground := Ground.phase }, { on := 3, ground := Ground.phase }, { on := 4, ground := Ground.phase }, { on := 5, ground := Ground.phase }, { on := 6, ground := Ground.phase }], guard := none }) (v := ?v2x7) rfl (by kernel_rfl) (by kernel_rfl) (by kernel_rfl) (fun _ _ _ h => h) (Or.inl ⟨by rfl, ?hy2x7⟩) (by with_reducible assumption) ?rest2x7
        case hy2x7 => (intro w hSw; (try dsimp only at hSw); go_simp; try with_reducible rfl)
        case' rest2x7 => (try simp only [Act.put, List.setIfInBounds_toArray, List.set_cons_zero, List.set_cons_succ])
        refine wpAnyH_done (by kernel_rfl) ?_ _
        have HO := hid ho6
        have HB := hid hHeld.2.2
        clear ho6 hHeld
        obtain ⟨H, hH⟩ : ∃ H, poH l x y = H := ⟨_, rfl⟩
        have HH := hid hH
        rw [hH] at HO ⊢
        clear hH
        by_cases h6 : H.length ≤ 60
        · have hd : ¬ (60 : Int) < (H.length : Int) := by omega
          have HZ := hid (show poOk l x y = true by unfold poOk; rw [HG.out, HP.out, HH.out, decide_eq_true h6]; rfl)
          go_wp2
          go_ret2
          exact ⟨_, ret_v2 rfl HZ.out.symm, by unfold poL; rw [HZ.out, if_pos rfl, HH.out]; exact HO.out, HB.out⟩
        · have hd : (60 : Int) < (H.length : Int) := by omega
          have HZ := hid (show poOk l x y = false by unfold poOk; rw [HG.out, HP.out, HH.out, decide_eq_false h6]; rfl)
          go_wp2
          go_ret2
          exact ⟨_, ret_v2 rfl HZ.out.symm, by unfold poL; rw [HZ.out]; exact OwnC.nil _ _, HB.out⟩
set_option maxHeartbeats 8000000 in
theorem putImpl_c (l : List (Int × Int)) (x y : Int) (a : Option Addr) (len cap : Nat) (w : World) (hl : l.length = len) (h1 : len ≤ 1048576) (hF : Fit a len cap) (hA : At w.heap.size a l w) (c0 : w.cell? ⟨0, 0, none⟩ = some (.int .i64 1000000)) :
    Calls Tryz.prog 10 #[.slice a len cap, .agg #[.int .i64 x, .int .i64 y]] w fun e w' => ∃ v, e = .returned (.tuple #[v, .bool (poOk l x y)]) ∧ OwnC w.heap.size v (poL l x y) w' ∧ Below w.heap.size w w' := by
  subst hl
  have HA := hid hA
  have HFt := hid hF
  have C0 := hid c0
  clear hA hF c0
  obtain ⟨i0, hi, hz0, hz1, hz2⟩ := info_parts info_pt
  have hbw : Below w.heap.size w (w.alloc (.cells #[.int .i64 x, .int .i64 y] 26)) := by go_grown
  have k0 := box0 w x y 26
  have k1 := box1 w x y 26
  go_enter Tryz.func10, Tryz.ntmps10
  go_upto_region 1 with fail
  generalize (w.alloc (.cells #[.int .i64 x, .int .i64 y] 26)) = w0 at hbw k0 k1 ⊢
  cases hG : ghB l
  · have HZ := hid (show poOk l x y = false by unfold poOk; rw [hG]; rfl)
    go_wp2_with (go_at_call 30; refine (goodHullImpl_c l _ _ _ _ rfl h1 ((HA.out.later hbw).mono hbw.size) (cell_later hbw C0.out)).mono ?_; rw [hG]; rintro e w1 ⟨rfl, hb⟩; replace hbw := grew hbw hb; replace k0 := cell_later hb k0; replace k1 := cell_later hb k1; clear hb)
    go_ret2
    exact ⟨_, ret_v2 rfl HZ.out.symm, by unfold poL; rw [HZ.out]; exact OwnC.nil _ _, hbw⟩
  · cases hP : goodB x y
    · have HZ := hid (show poOk l x y = false by unfold poOk; rw [hG, hP]; rfl)
      go_wp2_with (first | (go_at_call 30; refine (goodHullImpl_c l _ _ _ _ rfl h1 ((HA.out.later hbw).mono hbw.size) (cell_later hbw C0.out)).mono ?_; rw [hG]; rintro e w1 ⟨rfl, hb⟩; replace hbw := grew hbw hb; replace k0 := cell_later hb k0; replace k1 := cell_later hb k1; clear hb) | (go_at_call 28; refine (goodImpl_e _ _ _ (cell_later hbw C0.out)).mono ?_; rw [hP]; rintro e w2 ⟨rfl, hb⟩; replace hbw := grew hbw hb; replace k0 := cell_later hb k0; replace k1 := cell_later hb k1; clear hb))
      go_ret2
      exact ⟨_, ret_v2 rfl HZ.out.symm, by unfold poL; rw [HZ.out]; exact OwnC.nil _ _, hbw⟩
    · have HG := hid hG
      have HP := hid hP
      have hl6 := ghB_len hG
      have hf6 := poH_len (x := x) (y := y) hG
      go_upto_region 3 with (first | (go_at_call 30; refine (goodHullImpl_c l _ _ _ _ rfl h1 ((HA.out.later hbw).mono hbw.size) (cell_later hbw C0.out)).mono ?_; rw [hG]; rintro e w1 ⟨rfl, hb⟩; replace hbw := grew hbw hb; replace k0 := cell_later hb k0; replace k1 := cell_later hb k1; clear hb) | (go_at_call 28; refine (goodImpl_e _ _ _ (cell_later hbw C0.out)).mono ?_; rw [hP]; rintro e w2 ⟨rfl, hb⟩; replace hbw := grew hbw hb; replace k0 := cell_later hb k0; replace k1 := cell_later hb k1; clear hb))
      clear hG hP
      refine wp_region_held_drew (S := (fun u => u.cell? ⟨w.heap.size, 0, none⟩ = some (.int .i64 x) ∧ u.cell? ⟨w.heap.size, 1, none⟩ = some (.int .i64 y) ∧ Below w.heap.size w u)) (by kernel_rfl) ?_ (fun hHeld => ?_)
      · exact ⟨cell_later (Below.refl _ _).drew k0, cell_later (Below.refl _ _).drew k1, grew hbw (Below.refl _ _).drew⟩
      clear hbw k0 k1
      generalize w2.drew = wd at hHeld ⊢
      refine wpAnyH_take (i := 0) (oi := { dst := some 15, op := Op.move (Operand.tmp 0), type := 24, pos := "l5_far.go:59", after := #[], guard := none }) (v := ?v7x0) rfl (by kernel_rfl) (by kernel_rfl) (by kernel_rfl) (fun _ _ _ h => h) (Or.inl ⟨by rfl, ?hy7x0⟩) (by with_reducible assumption) ?rest7x0
      case hy7x0 => (intro w hSw; (try dsimp only at hSw); go_simp; try with_reducible rfl)
      case' rest7x0 => (try simp only [Act.put, List.setIfInBounds_toArray, List.set_cons_zero, List.set_cons_succ])
      refine wpAnyH_take (i := 2) (oi := { dst := some 17, op := Op.load 26 (Operand.tmp 3), type := 26, pos := "l5_far.go:59", after := #[], guard := none }) (v := ?v8x2) rfl (by kernel_rfl) (by kernel_rfl) (by kernel_rfl) (fun _ _ _ h => h) (Or.inl ⟨by rfl, ?hy8x2⟩) (by with_reducible assumption) ?rest8x2
      case hy8x2 => (intro w hSw; (try dsimp only at hSw); go_simp; try with_reducible rfl)
      case' rest8x2 => (try simp only [Act.put, List.setIfInBounds_toArray, List.set_cons_zero, List.set_cons_succ])
      refine wpAnyH_ready (rs := [1, 3]) (by kernel_rfl) (by simp) ?_
      refine AllReadyH.cons (o := { dst := some 16, op := Op.call { callee := Callee.value (Operand.func 33), args := #[Operand.tmp 15], argTypes := #[24] }, type := 24, pos := "l5_far.go:59", after := #[{ on := 0, ground := Ground.data }], guard := none }) rfl (fun K hK => ?_) (AllReadyH.cons (o := { dst := some 18, op := Op.buildSlice 24 1 #[(0, Operand.tmp 17)], type := 24, pos := "l5_far.go:59", after := #[{ on := 2, ground := Ground.data }], guard := none }) rfl (fun K hK => ?_) AllReadyH.nil)
      · go_simp
        refine (clone_e l _ _ _ wd rfl (by omega) HFt.out ((HA.out.later hHeld.2.2).mono hHeld.2.2.size)).mono ?_
        rintro e w2 ⟨v1, rfl, ho1, hb2⟩
        replace ho1 := (ho1).mono (held_lt (by with_reducible assumption) : w.heap.size < wd.heap.size)
        obtain ⟨a1, p1, hv1⟩ := ho1.shape
        subst hv1
        go_wp2_with fail
        refine hK.out _ _ (keep2 hb2 hHeld) (fun hHeld => ?_)
        clear hK K
        try simp only [Act.put, List.setIfInBounds_toArray, List.set_cons_zero, List.set_cons_succ]
        refine wpAnyH_ready (rs := [3]) (by kernel_rfl) (by simp) ?_
        refine AllReadyH.cons (o := { dst := some 18, op := Op.buildSlice 24 1 #[(0, Operand.tmp 17)], type := 24, pos := "l5_far.go:59", after := #[{ on := 2, ground := Ground.data }], guard := none }) rfl (fun K hK => ?_) AllReadyH.nil
        go_simp
        refine hK.out _ _ (keep2 (show Below w2.heap.size w2 (w2.alloc (.cells #[.int .i64 x, .int .i64 y] 26)) by go_grown) hHeld) (fun hHeld => ?_)
        clear hK K
        have hns := one_src w2 x y _ rfl
        have hbe : Below w2.heap.size w2 (w2.alloc (.cells #[.int .i64 x, .int .i64 y] 26)) := by go_grown
        generalize w2.alloc (.cells #[.int .i64 x, .int .i64 y] 26) = w3 at hns hbe hHeld ⊢
        try simp only [Act.put, List.setIfInBounds_toArray, List.set_cons_zero, List.set_cons_succ]
        replace ho1 := ho1.later hbe
        refine wpAnyH_ready (rs := [4]) (by kernel_rfl) (by simp) ?_
        refine AllReadyH.cons (o := { dst := some 19, op := Op.call { callee := Callee.builtin Builtin.append, args := #[Operand.tmp 16, Operand.tmp 18], argTypes := #[24, 24] }, type := 24, pos := "l5_far.go:59", after := #[{ on := 1, ground := Ground.data }, { on := 3, ground := Ground.data }, { on := 1, ground := Ground.chain }], guard := none }) rfl (fun K hK => ?_) AllReadyH.nil
        rw [if_pos (by rfl)]
        refine wp_append_cut (.tmp 16) (.tmp 18) 24 rfl (w.heap.size + 1) Tryz.underlying24 hi hz0 hz1 hz2 (by rfl) _ l [(x, y)] rfl ho1 _ _ _ rfl rfl hns (by simp) (by simp; omega) (held_lt (by with_reducible assumption)) ?_
        intro g cp w4 hO4 hg4 _
        have hB4 := OwnC.grownBelow ho1 hg4 (held_lt (by with_reducible assumption))
        refine hK.out _ _ ⟨(hB4.cell (p := ⟨w.heap.size, 0, none⟩) (by show w.heap.size < w.heap.size + 1; omega)).trans hHeld.1, (hB4.cell (p := ⟨w.heap.size, 1, none⟩) (by show w.heap.size < w.heap.size + 1; omega)).trans hHeld.2.1, hHeld.2.2.trans (hB4.mono (Nat.le_succ _))⟩ (fun hHeld => ?_)
        clear hK K
        obtain ⟨ln, hln⟩ : ∃ ln, l.length + [(x, y)].length = ln := ⟨_, rfl⟩
        rw [hln] at hO4 ⊢
        try simp only [Act.put, List.setIfInBounds_toArray, List.set_cons_zero, List.set_cons_succ]
        refine wpAnyH_ready (rs := [5]) (by kernel_rfl) (by simp) ?_
        refine AllReadyH.cons (o := { dst := some 20, op := Op.call { callee := Callee.value (Operand.func 32), args := #[Operand.tmp 19], argTypes := #[24] }, type := 62, pos := "l5_far.go:59", after := #[{ on := 4, ground := Ground.data }, { on := 4, ground := Ground.chain }], guard := none }) rfl (fun K hK => ?_) AllReadyH.nil
        go_simp
        refine (sortedFrom_c (l ++ [(x, y)]) _ _ _ w4 (by rw [List.length_append]; exact hln) (by have h := hln; simp at h; omega) hO4.at).mono ?_
        rintro e w5 ⟨v5, rfl, ho5, hb5⟩
        obtain ⟨a5, p5, hv5⟩ := ho5.shape
        subst hv5
        go_wp2_with fail
        refine hK.out _ _ (keep2 hb5 hHeld) (fun hHeld => ?_)
        clear hK K
        try simp only [Act.put, List.setIfInBounds_toArray, List.set_cons_zero, List.set_cons_succ]
        refine wpAnyH_ready (rs := [6]) (by kernel_rfl) (by simp) ?_
        refine AllReadyH.cons (o := { dst := some 21, op := Op.call { callee := Callee.value (Operand.func 31), args := #[Operand.tmp 20], argTypes := #[24] }, type := 24, pos := "l5_far.go:59", after := #[{ on := 5, ground := Ground.data }, { on := 5, ground := Ground.chain }], guard := none }) rfl (fun K hK => ?_) AllReadyH.nil
        go_simp
        refine (hullOf_c (fromL (l ++ [(x, y)])) _ _ _ w5 rfl (by omega) ho5.at (cell_later hHeld.2.2 C0.out)).mono ?_
        rw [po_tl HG.out HP.out]
        rintro e w6 ⟨v6, rfl, ho6, hb6⟩
        replace ho6 := ho6.mono hHeld.2.2.size
        obtain ⟨a6, p6, hv6⟩ := ho6.shape
        subst hv6
        go_wp2_with fail
        refine hK.out _ _ (keep2 hb6 hHeld) (fun hHeld => ?_)
        clear hK K
        try simp only [Act.put, List.setIfInBounds_toArray, List.set_cons_zero, List.set_cons_succ]
        refine wpAnyH_take (i := 7) (oi := { dst := some 6, op := Op.assign (Operand.tmp 21), type := 24, pos := "l5_far.go:59", after := #[{ on := 6, ground := Ground.data }, { on := 6, ground := Ground.chain }, { on := 0, ground := Ground.phase }, { on := 1, ground := Ground.phase }, { on := 2, ground := Ground.phase }, { on := 3, ground := Ground.phase }, { on := 4, ground := Ground.phase }, { on := 5, ground := Ground.phase }, { on := 6, ground := Ground.phase }], guard := none }) (v := ?v5x7) rfl (by kernel_rfl) (by kernel_rfl) (by kernel_rfl) (fun _ _ _ h => h) (Or.inl ⟨by rfl, ?hy5x7⟩) (by with_reducible assumption) ?rest5x7
        case hy5x7 => (intro w hSw; (try dsimp only at hSw); go_simp; try with_reducible rfl)
        case' rest5x7 => (try simp only [Act.put, List.setIfInBounds_toArray, List.set_cons_zero, List.set_cons_succ])
        refine wpAnyH_done (by kernel_rfl) ?_ _
        have HO := hid ho6
        have HB := hid hHeld.2.2
        clear ho6 hHeld
        obtain ⟨H, hH⟩ : ∃ H, poH l x y = H := ⟨_, rfl⟩
        have HH := hid hH
        rw [hH] at HO ⊢
        clear hH
        by_cases h6 : H.length ≤ 60
        · have hd : ¬ (60 : Int) < (H.length : Int) := by omega
          have HZ := hid (show poOk l x y = true by unfold poOk; rw [HG.out, HP.out, HH.out, decide_eq_true h6]; rfl)
          go_wp2
          go_ret2
          exact ⟨_, ret_v2 rfl HZ.out.symm, by unfold poL; rw [HZ.out, if_pos rfl, HH.out]; exact HO.out, HB.out⟩
        · have hd : (60 : Int) < (H.length : Int) := by omega
          have HZ := hid (show poOk l x y = false by unfold poOk; rw [HG.out, HP.out, HH.out, decide_eq_false h6]; rfl)
          go_wp2
          go_ret2
          exact ⟨_, ret_v2 rfl HZ.out.symm, by unfold poL; rw [HZ.out]; exact OwnC.nil _ _, HB.out⟩
      · go_simp
        refine hK.out _ _ (keep2 (show Below wd.heap.size wd (wd.alloc (.cells #[.int .i64 x, .int .i64 y] 26)) by go_grown) hHeld) (fun hHeld => ?_)
        clear hK K
        have hns := one_src wd x y _ rfl
        have hbe : Below wd.heap.size wd (wd.alloc (.cells #[.int .i64 x, .int .i64 y] 26)) := by go_grown
        generalize wd.alloc (.cells #[.int .i64 x, .int .i64 y] 26) = w3 at hns hbe hHeld ⊢
        try simp only [Act.put, List.setIfInBounds_toArray, List.set_cons_zero, List.set_cons_succ]
        refine wpAnyH_ready (rs := [1]) (by kernel_rfl) (by simp) ?_
        refine AllReadyH.cons (o := { dst := some 16, op := Op.call { callee := Callee.value (Operand.func 33), args := #[Operand.tmp 15], argTypes := #[24] }, type := 24, pos := "l5_far.go:59", after := #[{ on := 0, ground := Ground.data }], guard := none }) rfl (fun K hK => ?_) AllReadyH.nil
        go_simp
        refine (clone_e l _ _ _ w3 rfl (by omega) HFt.out ((HA.out.later hHeld.2.2).mono hHeld.2.2.size)).mono ?_
        rintro e w2 ⟨v1, rfl, ho1, hb2⟩
        replace ho1 := (ho1).mono (held_lt (by with_reducible assumption) : w.heap.size < w3.heap.size)
        obtain ⟨a1, p1, hv1⟩ := ho1.shape
        subst hv1
        go_wp2_with fail
        refine hK.out _ _ (keep2 hb2 hHeld) (fun hHeld => ?_)
        clear hK K
        try simp only [Act.put, List.setIfInBounds_toArray, List.set_cons_zero, List.set_cons_succ]
        replace hns := fun j u hu => cell_later hb2 (hns j u hu)
        refine wpAnyH_ready (rs := [4]) (by kernel_rfl) (by simp) ?_
        refine AllReadyH.cons (o := { dst := some 19, op := Op.call { callee := Callee.builtin Builtin.append, args := #[Operand.tmp 16, Operand.tmp 18], argTypes := #[24, 24] }, type := 24, pos := "l5_far.go:59", after := #[{ on := 1, ground := Ground.data }, { on := 3, ground := Ground.data }, { on := 1, ground := Ground.chain }], guard := none }) rfl (fun K hK => ?_) AllReadyH.nil
        rw [if_pos (by rfl)]
        refine wp_append_cut (.tmp 16) (.tmp 18) 24 rfl (w.heap.size + 1) Tryz.underlying24 hi hz0 hz1 hz2 (by rfl) _ l [(x, y)] rfl ho1 _ _ _ rfl rfl hns (by simp) (by simp; omega) (held_lt (by with_reducible assumption)) ?_
        intro g cp w4 hO4 hg4 _
        have hB4 := OwnC.grownBelow ho1 hg4 (held_lt (by with_reducible assumption))
        refine hK.out _ _ ⟨(hB4.cell (p := ⟨w.heap.size, 0, none⟩) (by show w.heap.size < w.heap.size + 1; omega)).trans hHeld.1, (hB4.cell (p := ⟨w.heap.size, 1, none⟩) (by show w.heap.size < w.heap.size + 1; omega)).trans hHeld.2.1, hHeld.2.2.trans (hB4.mono (Nat.le_succ _))⟩ (fun hHeld => ?_)
        clear hK K
        obtain ⟨ln, hln⟩ : ∃ ln, l.length + [(x, y)].length = ln := ⟨_, rfl⟩
        rw [hln] at hO4 ⊢
        try simp only [Act.put, List.setIfInBounds_toArray, List.set_cons_zero, List.set_cons_succ]
        refine wpAnyH_ready (rs := [5]) (by kernel_rfl) (by simp) ?_
        refine AllReadyH.cons (o := { dst := some 20, op := Op.call { callee := Callee.value (Operand.func 32), args := #[Operand.tmp 19], argTypes := #[24] }, type := 62, pos := "l5_far.go:59", after := #[{ on := 4, ground := Ground.data }, { on := 4, ground := Ground.chain }], guard := none }) rfl (fun K hK => ?_) AllReadyH.nil
        go_simp
        refine (sortedFrom_c (l ++ [(x, y)]) _ _ _ w4 (by rw [List.length_append]; exact hln) (by have h := hln; simp at h; omega) hO4.at).mono ?_
        rintro e w5 ⟨v5, rfl, ho5, hb5⟩
        obtain ⟨a5, p5, hv5⟩ := ho5.shape
        subst hv5
        go_wp2_with fail
        refine hK.out _ _ (keep2 hb5 hHeld) (fun hHeld => ?_)
        clear hK K
        try simp only [Act.put, List.setIfInBounds_toArray, List.set_cons_zero, List.set_cons_succ]
        refine wpAnyH_ready (rs := [6]) (by kernel_rfl) (by simp) ?_
        refine AllReadyH.cons (o := { dst := some 21, op := Op.call { callee := Callee.value (Operand.func 31), args := #[Operand.tmp 20], argTypes := #[24] }, type := 24, pos := "l5_far.go:59", after := #[{ on := 5, ground := Ground.data }, { on := 5, ground := Ground.chain }], guard := none }) rfl (fun K hK => ?_) AllReadyH.nil
        go_simp
        refine (hullOf_c (fromL (l ++ [(x, y)])) _ _ _ w5 rfl (by omega) ho5.at (cell_later hHeld.2.2 C0.out)).mono ?_
        rw [po_tl HG.out HP.out]
        rintro e w6 ⟨v6, rfl, ho6, hb6⟩
        replace ho6 := ho6.mono hHeld.2.2.size
        obtain ⟨a6, p6, hv6⟩ := ho6.shape
        subst hv6
        go_wp2_with fail
        refine hK.out _ _ (keep2 hb6 hHeld) (fun hHeld => ?_)
        clear hK K
        try simp only [Act.put, List.setIfInBounds_toArray, List.set_cons_zero, List.set_cons_succ]
        refine wpAnyH_take (i := 7) (oi := { dst := some 6, op := Op.assign (Operand.tmp 21), type := 24, pos := "l5_far.go:59", after := #[{ on := 6, ground := Ground.data }, { on := 6, ground := Ground.chain }, { on := 0, ground := Ground.phase }, { on := 1, ground := Ground.phase }, { on := 2, ground := Ground.phase }, { on := 3, ground := Ground.phase }, { on := 4, ground := Ground.phase }, { on := 5, ground := Ground.phase }, { on := 6, ground := Ground.phase }], guard := none }) (v := ?v6x7) rfl (by kernel_rfl) (by kernel_rfl) (by kernel_rfl) (fun _ _ _ h => h) (Or.inl ⟨by rfl, ?hy6x7⟩) (by with_reducible assumption) ?rest6x7
        case hy6x7 => (intro w hSw; (try dsimp only at hSw); go_simp; try with_reducible rfl)
        case' rest6x7 => (try simp only [Act.put, List.setIfInBounds_toArray, List.set_cons_zero, List.set_cons_succ])
        refine wpAnyH_done (by kernel_rfl) ?_ _
        have HO := hid ho6
        have HB := hid hHeld.2.2
        clear ho6 hHeld
        obtain ⟨H, hH⟩ : ∃ H, poH l x y = H := ⟨_, rfl⟩
        have HH := hid hH
        rw [hH] at HO ⊢
        clear hH
        by_cases h6 : H.length ≤ 60
        · have hd : ¬ (60 : Int) < (H.length : Int) := by omega
          have HZ := hid (show poOk l x y = true by unfold poOk; rw [HG.out, HP.out, HH.out, decide_eq_true h6]; rfl)
          go_wp2
          go_ret2
          exact ⟨_, ret_v2 rfl HZ.out.symm, by unfold poL; rw [HZ.out, if_pos rfl, HH.out]; exact HO.out, HB.out⟩
        · have hd : (60 : Int) < (H.length : Int) := by omega
          have HZ := hid (show poOk l x y = false by unfold poOk; rw [HG.out, HP.out, HH.out, decide_eq_false h6]; rfl)
          go_wp2
          go_ret2
          exact ⟨_, ret_v2 rfl HZ.out.symm, by unfold poL; rw [HZ.out]; exact OwnC.nil _ _, HB.out⟩
end Go.Proofs.YtegmlemejmahiaaGreatDoor
