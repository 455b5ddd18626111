/-
  Hulls of sets, in the specification and in the program (contracts for the walks).
  Conditions: as each theorem states them.
-/
import Derived.Test.YtipiamhnngmjmaaDoorB2
namespace Go.Proofs.YtipiamhnngmjmaaDoor
open Go.RowKit Go.Shelf
set_option linter.unusedVariables false
set_option maxRecDepth 8000
def hulL (l : List (Int × Int)) : List (Int × Int) := if goodL l then hullB slB l else []
theorem hulL_len (l : List (Int × Int)) (h : l.length ≤ 1048576) : (hulL l).length ≤ 1048576 := by
  unfold hulL
  split
  · rename_i hG
    have h1 := goodL_few hG
    have h2 := hullB_len (t := slB) l
    omega
  · simp
theorem chainB_short {t : Int × Int → Int × Int → Int × Int → Bool} {l : List (Int × Int)} (h : l.length < 2) : chainB t l = l := by
  match l, h with
  | [], _ => rfl
  | [p], _ => rfl
theorem cells_at {N b off : Nat} {l : List (Int × Int)} {w : World} (hA : At N (some ⟨b, off, none⟩) l w) : ∀ j u, (cells l)[j]? = some u → w.cell? ((⟨b, off, none⟩ : Addr).add j) = some u := by
  intro j u hu
  have := cells_pre hA (k := l.length) (ao := some ⟨b, off, none⟩) (fun _ => rfl) _ rfl j u
  rw [List.take_length] at this
  exact this hu
theorem At.dropLast {N : Nat} {a : Option Addr} {l : List (Int × Int)} {w : World} (h : At N a l w) : At N a l.dropLast w := fun i hi => by
  rw [List.length_dropLast] at hi
  obtain ⟨b, off, e, hb, h0, h1⟩ := h i (by omega)
  have hil : i < l.length := by omega
  refine ⟨b, off, e, hb, ?_, ?_⟩
  · rw [h0]; simp [px, hi, hil]
  · rw [h1]; simp [py, hi, hil]
theorem OwnC.some {N n cap : Nat} {a : Option Addr} {l : List (Int × Int)} {w : World} (h : OwnC N (.slice a n cap) l w) (hn : 0 < l.length) : ∃ g, a = some ⟨g, 0, none⟩ := by
  rcases h with ⟨rfl, e⟩ | ⟨g, c, M, f, e, _⟩
  · simp at hn
  · simp at e; exact ⟨g, e.1⟩
set_option maxHeartbeats 2000000 in
theorem l3Hull_c (l : List (Int × Int)) (a : Option Addr) (len cap : Nat) (w : World) (hl : l.length = len) (h1 : len ≤ 500000) (hF : Fit a len cap) (hA : At w.heap.size a l w) :
    Calls Tryd.prog 82 #[.slice a len cap] w fun e w' => ∃ v, e = .returned v ∧ OwnC w.heap.size v (hullB slB l) w' ∧ Below w.heap.size w w' := by
  subst hl
  have HA := hid hA
  have HF := hid hF
  clear hA hF
  obtain ⟨i0, hi, hz0, hz1, hz2⟩ := info_parts info_pt
  by_cases h2 : l.length < 2
  · have e2 : hullB slB l = l := by unfold hullB; rw [if_pos h2]
    rw [e2]
    clear e2
    go_enter Tryd.func82, Tryd.ntmps82
    go_wp2_with (go_at_call 100; refine (l2Own_c l _ _ _ w rfl (by omega) HF.out HA.out).mono ?_; rintro e w1 ⟨v1, rfl, ho1, hb1⟩)
    go_ret
    exact ⟨_, rfl, ho1.cut, hb1⟩
  · have e2 : hullB slB l = (chainB slB l).dropLast ++ (chainB slB l.reverse).dropLast := by unfold hullB; rw [if_neg h2]
    rw [e2]
    clear e2
    have k1 := chainB_len (t := slB) l
    have k2 := chainB_len (t := slB) l.reverse
    rw [List.length_reverse] at k2
    have k3 := chainB_two (t := slB) (l := l) (by omega)
    have k4 := chainB_two (t := slB) (l := l.reverse) (by rw [List.length_reverse]; omega)
    obtain ⟨lo, hlo⟩ : ∃ lo, chainB slB l = lo := ⟨_, rfl⟩
    obtain ⟨up, hup⟩ : ∃ up, chainB slB l.reverse = up := ⟨_, rfl⟩
    rw [hlo] at k1 k3 ⊢
    rw [hup] at k2 k4 ⊢
    have tk1 : True := trivial
    go_enter Tryd.func82, Tryd.ntmps82
    go_upto_region 5 with (first
      | (go_at_call 101; clear tk1; refine (l3Half_c l _ _ _ w rfl (by omega) HA.out).mono ?_; rw [hlo]; rintro e w1 ⟨v1, rfl, ho1, hb1⟩; obtain ⟨a1, p1, hv1⟩ := ho1.shape; subst hv1)
      | (go_at_call 102; refine (l3Back_c l _ _ _ w1 rfl (by omega) ((HA.out.later hb1).mono hb1.size)).mono ?_; rintro e w2 ⟨v2, rfl, ho2, hb2⟩; obtain ⟨a2, p2, hv2⟩ := ho2.shape; rw [List.length_reverse] at hv2; subst hv2; have hb12 := grew hb1 hb2)
      | (go_at_call 101; refine (l3Half_c l.reverse _ _ _ w2 List.length_reverse (by omega) ho2.at).mono ?_; rw [hup]; rintro e w3 ⟨v3, rfl, ho3, hb3⟩; obtain ⟨a3, p3, hv3⟩ := ho3.shape; subst hv3; have hbw3 := grew hb12 hb3))
    have hw3 := hbw3.size
    have ho13 := ho1.later (grew hb2 hb3)
    obtain ⟨g1, rfl⟩ := ho1.some (by omega)
    obtain ⟨g3, rfl⟩ := ho3.some (by omega)
    have hp1 : lo.length ≤ p1 := by rcases ho1.fit with ⟨_, _, h0⟩ | ⟨_, h1, _⟩ <;> omega
    have hp3 : up.length ≤ p3 := by rcases ho3.fit with ⟨_, _, h0⟩ | ⟨_, h1, _⟩ <;> omega
    have AT1 : Hid (∀ wd, Below w3.heap.size w3 wd → At wd.heap.size (some ⟨g1, 0, none⟩) lo.dropLast wd) := fun wd hb => ((ho13.at.dropLast).later hb).mono hb.size
    have AT2 : Hid (∀ wd, Below w3.heap.size w3 wd → At wd.heap.size (some ⟨g3, 0, none⟩) up.dropLast wd) := fun wd hb => ((ho3.at.dropLast).later hb).mono hb.size
    have FL : Hid (Fit (some ⟨g1, 0, none⟩) (lo.length - 1) p1) := by
      rcases ho1.fit with ⟨h0, _, _⟩ | ⟨_, h2, h3⟩
      · cases h0
      · exact .inr ⟨⟨_, _, rfl⟩, by omega, h3⟩
    have x1 : IntKind.i64.wrap ((lo.length : Int) - 1) = ((lo.length - 1 : Nat) : Int) := by rw [IntKind.wrap_i64]; omega
    have x3 : IntKind.i64.wrap ((up.length : Int) - 1) = ((up.length - 1 : Nat) : Int) := by rw [IntKind.wrap_i64]; omega
    have y1 : ((lo.length - 1 : Nat) : Int) ≤ (p1 : Int) := by omega
    have y3 : ((up.length - 1 : Nat) : Int) ≤ (p3 : Int) := by omega
    clear ho1 ho3 ho13
    refine wp_region_held_drew (S := (fun _ => True)) (by kernel_rfl) ?_ (fun hHeld => ?_)
    · trivial
    have hbd : Below w3.heap.size w3 w3.drew := (Below.refl _ _).drew
    generalize w3.drew = wd at hbd ⊢
    have LA := AT1.out wd hbd
    have UP := AT2.out wd hbd
    have hwd : w.heap.size ≤ wd.heap.size := Nat.le_trans hw3 hbd.size
    refine wpAnyH_take (i := 0) (oi := { dst := some 15, op := Op.move (Operand.tmp 3), type := 33, pos := "l3_hull.go:45", after := #[], guard := none }) (v := ?v1rx0) rfl (by kernel_rfl) (by kernel_rfl) (by kernel_rfl) (fun _ _ _ h => h) (Or.inl ⟨by rfl, ?hy1rx0⟩) trivial ?rest1rx0
    case hy1rx0 => (intro wS hSw; (try dsimp only at hSw);  clear hSw; go_simp; try with_reducible rfl)
    case' rest1rx0 => (try simp only [Act.put, List.setIfInBounds_toArray, List.set_cons_zero, List.set_cons_succ])
    refine wpAnyH_take (i := 1) (oi := { dst := some 16, op := Op.move (Operand.tmp 3), type := 33, pos := "l3_hull.go:45", after := #[], guard := none }) (v := ?v1rx1) rfl (by kernel_rfl) (by kernel_rfl) (by kernel_rfl) (fun _ _ _ h => h) (Or.inl ⟨by rfl, ?hy1rx1⟩) trivial ?rest1rx1
    case hy1rx1 => (intro wS hSw; (try dsimp only at hSw);  clear hSw; go_simp; try with_reducible rfl)
    case' rest1rx1 => (try simp only [Act.put, List.setIfInBounds_toArray, List.set_cons_zero, List.set_cons_succ])
    refine wpAnyH_take (i := 2) (oi := { dst := some 17, op := Op.call { callee := Callee.builtin Builtin.len, args := #[Operand.tmp 16], argTypes := #[33] }, type := 3, pos := "l3_hull.go:45", after := #[{ on := 1, ground := Ground.data }], guard := none }) (v := ?v1rx2) rfl (by kernel_rfl) (by kernel_rfl) (by kernel_rfl) (fun _ _ _ h => h) (Or.inl ⟨by rfl, ?hy1rx2⟩) trivial ?rest1rx2
    case hy1rx2 => (intro wS hSw; (try dsimp only at hSw);  clear hSw; go_simp; try with_reducible rfl)
    case' rest1rx2 => (try simp only [Act.put, List.setIfInBounds_toArray, List.set_cons_zero, List.set_cons_succ])
    refine wpAnyH_take (i := 3) (oi := { dst := some 18, op := Op.binOp BinOp.sub 3 (Operand.tmp 17) (Operand.const (Value.int IntKind.i64 1)) 3, type := 3, pos := "l3_hull.go:45", after := #[{ on := 2, ground := Ground.data }], guard := none }) (v := ?v1rx3) rfl (by kernel_rfl) (by kernel_rfl) (by kernel_rfl) (fun _ _ _ h => h) (Or.inl ⟨by rfl, ?hy1rx3⟩) trivial ?rest1rx3
    case hy1rx3 => (intro wS hSw; (try dsimp only at hSw);  clear hSw; go_simp; try with_reducible rfl)
    case' rest1rx3 => (try simp only [Act.put, List.setIfInBounds_toArray, List.set_cons_zero, List.set_cons_succ])
    refine wpAnyH_take (i := 4) (oi := { dst := some 19, op := Op.slice 33 (Operand.tmp 15) none (some (Operand.tmp 18)) none, type := 33, pos := "l3_hull.go:45", after := #[{ on := 0, ground := Ground.data }, { on := 3, ground := Ground.data }], guard := none }) (v := ?v1rx4) rfl (by kernel_rfl) (by kernel_rfl) (by kernel_rfl) (fun _ _ _ h => h) (Or.inl ⟨by rfl, ?hy1rx4⟩) trivial ?rest1rx4
    case hy1rx4 => (intro wS hSw; (try dsimp only at hSw);  clear hSw; go_simp; try with_reducible rfl)
    case' rest1rx4 => (try simp only [Act.put, List.setIfInBounds_toArray, List.set_cons_zero, List.set_cons_succ])
    refine wpAnyH_take (i := 6) (oi := { dst := some 21, op := Op.move (Operand.tmp 4), type := 33, pos := "l3_hull.go:45", after := #[], guard := none }) (v := ?v1rx6) rfl (by kernel_rfl) (by kernel_rfl) (by kernel_rfl) (fun _ _ _ h => h) (Or.inl ⟨by rfl, ?hy1rx6⟩) trivial ?rest1rx6
    case hy1rx6 => (intro wS hSw; (try dsimp only at hSw);  clear hSw; go_simp; try with_reducible rfl)
    case' rest1rx6 => (try simp only [Act.put, List.setIfInBounds_toArray, List.set_cons_zero, List.set_cons_succ])
    refine wpAnyH_take (i := 7) (oi := { dst := some 22, op := Op.move (Operand.tmp 4), type := 33, pos := "l3_hull.go:45", after := #[], guard := none }) (v := ?v1rx7) rfl (by kernel_rfl) (by kernel_rfl) (by kernel_rfl) (fun _ _ _ h => h) (Or.inl ⟨by rfl, ?hy1rx7⟩) trivial ?rest1rx7
    case hy1rx7 => (intro wS hSw; (try dsimp only at hSw);  clear hSw; go_simp; try with_reducible rfl)
    case' rest1rx7 => (try simp only [Act.put, List.setIfInBounds_toArray, List.set_cons_zero, List.set_cons_succ])
    refine wpAnyH_take (i := 8) (oi := { dst := some 23, op := Op.call { callee := Callee.builtin Builtin.len, args := #[Operand.tmp 22], argTypes := #[33] }, type := 3, pos := "l3_hull.go:45", after := #[{ on := 7, ground := Ground.data }], guard := none }) (v := ?v1rx8) rfl (by kernel_rfl) (by kernel_rfl) (by kernel_rfl) (fun _ _ _ h => h) (Or.inl ⟨by rfl, ?hy1rx8⟩) trivial ?rest1rx8
    case hy1rx8 => (intro wS hSw; (try dsimp only at hSw);  clear hSw; go_simp; try with_reducible rfl)
    case' rest1rx8 => (try simp only [Act.put, List.setIfInBounds_toArray, List.set_cons_zero, List.set_cons_succ])
    refine wpAnyH_take (i := 9) (oi := { dst := some 24, op := Op.binOp BinOp.sub 3 (Operand.tmp 23) (Operand.const (Value.int IntKind.i64 1)) 3, type := 3, pos := "l3_hull.go:45", after := #[{ on := 8, ground := Ground.data }], guard := none }) (v := ?v1rx9) rfl (by kernel_rfl) (by kernel_rfl) (by kernel_rfl) (fun _ _ _ h => h) (Or.inl ⟨by rfl, ?hy1rx9⟩) trivial ?rest1rx9
    case hy1rx9 => (intro wS hSw; (try dsimp only at hSw);  clear hSw; go_simp; try with_reducible rfl)
    case' rest1rx9 => (try simp only [Act.put, List.setIfInBounds_toArray, List.set_cons_zero, List.set_cons_succ])
    refine wpAnyH_take (i := 10) (oi := { dst := some 25, op := Op.slice 33 (Operand.tmp 21) none (some (Operand.tmp 24)) none, type := 33, pos := "l3_hull.go:45", after := #[{ on := 6, ground := Ground.data }, { on := 9, ground := Ground.data }], guard := none }) (v := ?v1rx10) rfl (by kernel_rfl) (by kernel_rfl) (by kernel_rfl) (fun _ _ _ h => h) (Or.inl ⟨by rfl, ?hy1rx10⟩) trivial ?rest1rx10
    case hy1rx10 => (intro wS hSw; (try dsimp only at hSw);  clear hSw; go_simp; try with_reducible rfl)
    case' rest1rx10 => (try simp only [Act.put, List.setIfInBounds_toArray, List.set_cons_zero, List.set_cons_succ])
    refine wpAnyH_ready (rs := [5]) (by kernel_rfl) (by simp) ?_
    refine AllReadyH.cons (o := { dst := some 20, op := Op.call { callee := Callee.value (Operand.func 100), args := #[Operand.tmp 19], argTypes := #[33] }, type := 33, pos := "l3_hull.go:45", after := #[{ on := 4, ground := Ground.data }], guard := none }) rfl (fun K hK => ?_) AllReadyH.nil
    go_simp
    refine (l2Own_c lo.dropLast _ _ _ wd (by rw [List.length_dropLast]) (by omega) FL.out LA).mono ?_
    rintro e w5 ⟨v5, rfl, ho5, hb5⟩
    obtain ⟨a5, p5, hv5⟩ := ho5.shape
    rw [List.length_dropLast] at hv5
    subst hv5
    go_wp2_with fail
    refine hK.out _ _ trivial (fun _ => ?_)
    clear hK K
    try simp only [Act.put, List.setIfInBounds_toArray, List.set_cons_zero, List.set_cons_succ]
    refine wpAnyH_ready (rs := [11]) (by kernel_rfl) (by simp) ?_
    refine AllReadyH.cons (o := { dst := some 26, op := Op.call { callee := Callee.builtin Builtin.append, args := #[Operand.tmp 20, Operand.tmp 25], argTypes := #[33, 33] }, type := 33, pos := "l3_hull.go:45", after := #[{ on := 5, ground := Ground.data }, { on := 10, ground := Ground.data }, { on := 5, ground := Ground.chain }], guard := none }) rfl (fun K hK => ?_) AllReadyH.nil
    rw [if_pos (by rfl)]
    refine wp_append_cut (.tmp 20) (.tmp 25) 33 rfl w.heap.size Tryd.underlying33 hi hz0 hz1 hz2 (by rfl) _ lo.dropLast up.dropLast rfl (ho5.cut.mono hwd) _ _ _ rfl (List.length_dropLast) (fun j u hu => cells_at (UP.later hb5) j u hu) (by rw [List.length_dropLast]; omega) (by rw [List.length_dropLast, List.length_dropLast]; omega) (by have := hb5.size; omega) ?_
    intro g cp w6 hO6 hg6 _
    refine hK.out _ _ trivial (fun _ => ?_)
    clear hK K
    obtain ⟨ln, hln⟩ : ∃ ln, lo.dropLast.length + up.dropLast.length = ln := ⟨_, rfl⟩
    rw [hln] at hO6 ⊢
    have hB6 := OwnC.grownBelow (ho5.cut.mono hwd) hg6 (by have := hb5.size; omega)
    try simp only [Act.put, List.setIfInBounds_toArray, List.set_cons_zero, List.set_cons_succ]
    refine wpAnyH_take (i := 12) (oi := { dst := some 2, op := Op.assign (Operand.tmp 26), type := 33, pos := "l3_hull.go:45", after := #[{ on := 11, ground := Ground.data }, { on := 11, ground := Ground.chain }, { on := 0, ground := Ground.phase }, { on := 1, ground := Ground.phase }, { on := 2, ground := Ground.phase }, { on := 3, ground := Ground.phase }, { on := 4, ground := Ground.phase }, { on := 5, ground := Ground.phase }, { on := 6, ground := Ground.phase }, { on := 7, ground := Ground.phase }, { on := 8, ground := Ground.phase }, { on := 9, ground := Ground.phase }, { on := 10, ground := Ground.phase }, { on := 11, ground := Ground.phase }], guard := none }) (v := ?v1rx12) rfl (by kernel_rfl) (by kernel_rfl) (by kernel_rfl) (fun _ _ _ h => h) (Or.inl ⟨by rfl, ?hy1rx12⟩) trivial ?rest1rx12
    case hy1rx12 => (intro wS hSw; (try dsimp only at hSw);  clear hSw; go_simp; try with_reducible rfl)
    case' rest1rx12 => (try simp only [Act.put, List.setIfInBounds_toArray, List.set_cons_zero, List.set_cons_succ])
    refine wpAnyH_done (by kernel_rfl) ?_ _
    go_wp2
    go_ret
    exact ⟨_, rfl, hO6, (grew (grew hbw3 hbd) hb5).trans hB6⟩
end Go.Proofs.YtipiamhnngmjmaaDoor
