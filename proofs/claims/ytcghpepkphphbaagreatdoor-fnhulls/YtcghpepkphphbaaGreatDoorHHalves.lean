/-
  Hulls by halves, in the specification and in the program (contracts for the walks).
  Conditions: as each theorem states them.
-/
import Derived.Test.YtcghpepkphphbaaGreatDoorHHalP
namespace Go.Proofs.YtcghpepkphphbaaGreatDoor
open Go.RowKit Go.Shelf
set_option linter.unusedVariables false
set_option maxRecDepth 8000
set_option maxHeartbeats 400000 in
theorem l3Halves_c : ∀ (n : Nat) (l : List (Int × Int)) (a : Option Addr) (len cap : Nat) (w : World) (hl : l.length = len) (hn : len ≤ n) (h1 : len ≤ 60) (hF : Fit a len cap) (hA : At w.heap.size a l w),
    Calls Tryz.prog 32 #[.slice a len cap] w fun e w' => ∃ v, e = .returned v ∧ OwnC w.heap.size v (halvesB slB n l) w' ∧ Below w.heap.size w w' := by
  intro n
  induction n with
  | zero =>
    intro l a len cap w hl hn h1 hF hA
    subst hl
    have e2 : halvesB slB 0 l = l := rfl
    rw [e2]
    have hlt : l.length < 2 := by omega
    have HA := hid hA
    have HF := hid hF
    clear hA hF hn
    go_enter Tryz.func32, Tryz.ntmps32
    go_wp2_with (go_at_call 28; refine (l2Own_c l _ _ _ w rfl (by omega) HF.out HA.out).mono ?_; rintro e w1 ⟨v1, rfl, ho1, hb1⟩)
    go_ret
    exact ⟨_, rfl, ho1.cut, hb1⟩
  | succ n ih =>
    intro l a len cap w hl hn h1 hF hA
    subst hl
    have HA := hid hA
    have HF := hid hF
    clear hA hF
    by_cases h2 : l.length < 2
    · have e2 : halvesB slB (n + 1) l = l := halvesB_short h2
      rw [e2]
      clear hn
      go_enter Tryz.func32, Tryz.ntmps32
      go_wp2_with (go_at_call 28; refine (l2Own_c l _ _ _ w rfl (by omega) HF.out HA.out).mono ?_; rintro e w1 ⟨v1, rfl, ho1, hb1⟩)
      go_ret
      exact ⟨_, rfl, ho1.cut, hb1⟩
    · rw [halvesB_step h2]
      obtain ⟨b, off, rfl, hbN, _, _⟩ := HA.out 0 (by omega)
      obtain ⟨hlc, hcm⟩ : l.length ≤ cap ∧ cap ≤ maxLen := by
        rcases HF.out with ⟨h0, _, _⟩ | ⟨_, h3, h4⟩
        · cases h0
        · exact ⟨h3, h4⟩
      obtain ⟨k, hk⟩ : ∃ k, l.length / 2 = k := ⟨_, rfl⟩
      rw [hk]
      have IH1 := hid (ih (l.take k) (some ⟨b, off, none⟩) k cap)
      have IH2 := hid (ih (l.drop k) (some ⟨b, off + k * 2, none⟩) (l.length - k) (cap - k))
      have L1 := halvesB_len (t := slB) n (l.take k)
      have L2 := halvesB_len (t := slB) n (l.drop k)
      have L3 := halvesB_ne (t := slB) n (l.drop k) (fun e => by have := congrArg List.length e; rw [List.length_drop, List.length_nil] at this; omega)
      have L4 := Nat.mul_le_mul h1 h1
      rw [List.length_take, Nat.min_eq_left (by omega)] at L1
      rw [List.length_drop] at L2
      have L5 := Nat.mul_le_mul (show k ≤ 60 by omega) (show k ≤ 60 by omega)
      have L6 := Nat.mul_le_mul (show l.length - k ≤ 60 by omega) (show l.length - k ≤ 60 by omega)
      obtain ⟨A1, hA1⟩ : ∃ A1, halvesB slB n (l.take k) = A1 := ⟨_, rfl⟩
      obtain ⟨A2, hA2⟩ : ∃ A2, halvesB slB n (l.drop k) = A2 := ⟨_, rfl⟩
      rw [hA1] at IH1 L1 ⊢
      rw [hA2] at IH2 L2 L3 ⊢
      have hA1' : A1.length ≤ 3600 := by omega
      have hA2' : A2.length ≤ 3600 := by omega
      have hA3' : 0 < A2.length := List.length_pos_iff.2 L3
      have F1 := fromL_few (A1 ++ A2)
      rw [List.length_append] at F1
      have hx1 : (0 : Int) ≤ (k : Int) := by omega
      have hx2 : (k : Int) ≤ (l.length : Int) := by omega
      have hx3 : (k : Int) ≤ (cap : Int) := by omega
      have hx4 : (l.length : Int) ≤ (cap : Int) := by omega
      have hne : ¬ cap = k := by omega
      have M1 : (l.take k).length = k := by rw [List.length_take]; omega
      have M2 := hid M1
      clear M1
      have K1 := hid (⟨by omega, by omega⟩ : k ≤ n ∧ k ≤ 60)
      have K2 := hid (⟨by omega, by omega⟩ : l.length - k ≤ n ∧ l.length - k ≤ 60)
      have K3 : Hid (Fit (some ⟨b, off, none⟩) k cap) := .inr ⟨⟨_, _, rfl⟩, by omega, hcm⟩
      have K4 : Hid (Fit (some ⟨b, off + k * 2, none⟩) (l.length - k) (cap - k)) := .inr ⟨⟨_, _, rfl⟩, by omega, by omega⟩
      have hq : (l.length : Int).tdiv 2 = (k : Int) := by rw [Int.tdiv_eq_ediv_of_nonneg (by omega)]; omega
      have hw : wrap64 (k : Int) = (k : Int) := by unfold wrap64; omega
      have HK := hid hk
      clear L1 L2 L3 L4 L5 L6 ih hn h1 hk hA1 hA2
      obtain ⟨i0, hi, hz0, hz1, hz2⟩ := info_parts info_pt
      go_enter Tryz.func32, Tryz.ntmps32
      go_upto_region 4 with fail
      rw [hw]
      refine wp_region_held_drew (S := (fun _ => True)) (by kernel_rfl) ?_ (fun hHeld => ?_)
      · trivial
      have hbd : Below w.heap.size w w.drew := (Below.refl _ _).drew
      generalize w.drew = wd at hbd ⊢
      refine wpAnyH_take (i := 0) (oi := { dst := some 12, op := Op.move (Operand.tmp 0), type := 24, pos := "l3_hull.go:113", after := #[], guard := none }) (v := ?v1rx0) rfl (by kernel_rfl) (by kernel_rfl) (by kernel_rfl) (fun _ _ _ h => h) (Or.inl ⟨by rfl, ?hy1rx0⟩) trivial ?rest1rx0
      case hy1rx0 => (intro w hSw; (try dsimp only at hSw);  clear hSw; go_simp; try with_reducible rfl)
      case' rest1rx0 => (try simp only [Act.put, List.setIfInBounds_toArray, List.set_cons_zero, List.set_cons_succ])
      refine wpAnyH_take (i := 1) (oi := { dst := some 13, op := Op.move (Operand.tmp 3), type := 3, pos := "l3_hull.go:113", after := #[], guard := none }) (v := ?v1rx1) rfl (by kernel_rfl) (by kernel_rfl) (by kernel_rfl) (fun _ _ _ h => h) (Or.inl ⟨by rfl, ?hy1rx1⟩) trivial ?rest1rx1
      case hy1rx1 => (intro w hSw; (try dsimp only at hSw);  clear hSw; go_simp; try with_reducible rfl)
      case' rest1rx1 => (try simp only [Act.put, List.setIfInBounds_toArray, List.set_cons_zero, List.set_cons_succ])
      refine wpAnyH_take (i := 2) (oi := { dst := some 14, op := Op.slice 24 (Operand.tmp 12) none (some (Operand.tmp 13)) none, type := 24, pos := "l3_hull.go:113", after := #[{ on := 0, ground := Ground.data }, { on := 1, ground := Ground.data }], guard := none }) (v := ?v1rx2) rfl (by kernel_rfl) (by kernel_rfl) (by kernel_rfl) (fun _ _ _ h => h) (Or.inl ⟨by rfl, ?hy1rx2⟩) trivial ?rest1rx2
      case hy1rx2 => (intro w hSw; (try dsimp only at hSw);  clear hSw; go_simp; try with_reducible rfl)
      case' rest1rx2 => (try simp only [Act.put, List.setIfInBounds_toArray, List.set_cons_zero, List.set_cons_succ])
      refine wpAnyH_take (i := 4) (oi := { dst := some 16, op := Op.move (Operand.tmp 0), type := 24, pos := "l3_hull.go:113", after := #[], guard := none }) (v := ?v1rx4) rfl (by kernel_rfl) (by kernel_rfl) (by kernel_rfl) (fun _ _ _ h => h) (Or.inl ⟨by rfl, ?hy1rx4⟩) trivial ?rest1rx4
      case hy1rx4 => (intro w hSw; (try dsimp only at hSw);  clear hSw; go_simp; try with_reducible rfl)
      case' rest1rx4 => (try simp only [Act.put, List.setIfInBounds_toArray, List.set_cons_zero, List.set_cons_succ])
      refine wpAnyH_take (i := 5) (oi := { dst := some 17, op := Op.move (Operand.tmp 3), type := 3, pos := "l3_hull.go:113", after := #[], guard := none }) (v := ?v1rx5) rfl (by kernel_rfl) (by kernel_rfl) (by kernel_rfl) (fun _ _ _ h => h) (Or.inl ⟨by rfl, ?hy1rx5⟩) trivial ?rest1rx5
      case hy1rx5 => (intro w hSw; (try dsimp only at hSw);  clear hSw; go_simp; try with_reducible rfl)
      case' rest1rx5 => (try simp only [Act.put, List.setIfInBounds_toArray, List.set_cons_zero, List.set_cons_succ])
      refine wpAnyH_take (i := 6) (oi := { dst := some 18, op := Op.slice 24 (Operand.tmp 16) (some (Operand.tmp 17)) none none, type := 24, pos := "l3_hull.go:113", after := #[{ on := 4, ground := Ground.data }, { on := 5, ground := Ground.data }], guard := none }) (v := ?v1rx6) rfl (by kernel_rfl) (by kernel_rfl) (by kernel_rfl) (fun _ _ _ h => h) (Or.inl ⟨by rfl, ?hy1rx6⟩) trivial ?rest1rx6
      case hy1rx6 => (intro w hSw; (try dsimp only at hSw);  clear hSw; go_simp; try with_reducible rfl)
      case' rest1rx6 => (try simp only [Act.put, List.setIfInBounds_toArray, List.set_cons_zero, List.set_cons_succ])
      refine wpAnyH_ready (rs := [3]) (by kernel_rfl) (by simp) ?_
      refine AllReadyH.cons (o := { dst := some 15, op := Op.call { callee := Callee.value (Operand.func 32), args := #[Operand.tmp 14], argTypes := #[24] }, type := 24, pos := "l3_hull.go:113", after := #[{ on := 2, ground := Ground.data }], guard := none }) rfl (fun K hK => ?_) AllReadyH.nil
      go_simp
      refine (IH1.out wd M2.out K1.out.1 K1.out.2 K3.out (((HA.out.later hbd).mono hbd.size).take' k)).mono ?_
      rintro e w1 ⟨v1, rfl, ho1, hb1⟩
      obtain ⟨a1, p1, hv1⟩ := ho1.shape
      subst hv1
      have hbw1 := grew hbd hb1
      go_wp2_with fail
      refine hK.out _ _ trivial (fun _ => ?_)
      clear hK K
      try simp only [Act.put, List.setIfInBounds_toArray, List.set_cons_zero, List.set_cons_succ]
      refine wpAnyH_ready (rs := [7]) (by kernel_rfl) (by simp) ?_
      refine AllReadyH.cons (o := { dst := some 19, op := Op.call { callee := Callee.value (Operand.func 32), args := #[Operand.tmp 18], argTypes := #[24] }, type := 24, pos := "l3_hull.go:113", after := #[{ on := 6, ground := Ground.data }, { on := 3, ground := Ground.chain }], guard := none }) rfl (fun K hK => ?_) AllReadyH.nil
      go_simp
      refine (IH2.out w1 (by rw [List.length_drop]) K2.out.1 K2.out.2 K4.out (((HA.out.later hbw1).mono hbw1.size).drop k)).mono ?_
      rintro e w2 ⟨v2, rfl, ho2, hb2⟩
      obtain ⟨a2, p2, hv2⟩ := ho2.shape
      subst hv2
      obtain ⟨g2, rfl⟩ := ho2.some hA3'
      have hbw2 := grew hbw1 hb2
      have hsz2 := hbw2.size
      go_wp2_with fail
      refine hK.out _ _ trivial (fun _ => ?_)
      clear hK K
      try simp only [Act.put, List.setIfInBounds_toArray, List.set_cons_zero, List.set_cons_succ]
      refine wpAnyH_ready (rs := [8]) (by kernel_rfl) (by simp) ?_
      refine AllReadyH.cons (o := { dst := some 20, op := Op.call { callee := Callee.builtin Builtin.append, args := #[Operand.tmp 15, Operand.tmp 19], argTypes := #[24, 24] }, type := 24, pos := "l3_hull.go:113", after := #[{ on := 3, ground := Ground.data }, { on := 7, ground := Ground.data }, { on := 7, ground := Ground.chain }], guard := none }) rfl (fun K hK => ?_) AllReadyH.nil
      rw [if_pos (by rfl)]
      refine wp_append_cut (.tmp 15) (.tmp 19) 24 rfl w.heap.size Tryz.underlying24 hi hz0 hz1 hz2 (by rfl) _ A1 A2 rfl ((ho1.later hb2).mono hbd.size) _ _ _ rfl rfl (fun j u hu => cells_at ho2.at j u hu) hA3' (by omega) hsz2 ?_
      intro g cp w3 hO3 hg3 _
      refine hK.out _ _ trivial (fun _ => ?_)
      clear hK K
      obtain ⟨ln, hln⟩ : ∃ ln, A1.length + A2.length = ln := ⟨_, rfl⟩
      have hB3 := hbw2.trans (OwnC.grownBelow ((ho1.later hb2).mono hbd.size) hg3 hsz2)
      rw [hln] at hO3 ⊢
      have hsz3 := hB3.size
      try simp only [Act.put, List.setIfInBounds_toArray, List.set_cons_zero, List.set_cons_succ]
      refine wpAnyH_ready (rs := [9]) (by kernel_rfl) (by simp) ?_
      refine AllReadyH.cons (o := { dst := some 21, op := Op.call { callee := Callee.value (Operand.func 44), args := #[Operand.tmp 20], argTypes := #[24] }, type := 24, pos := "l3_hull.go:113", after := #[{ on := 8, ground := Ground.data }, { on := 8, ground := Ground.chain }], guard := none }) rfl (fun K hK => ?_) AllReadyH.nil
      go_simp
      refine (l2From_c (A1 ++ A2) _ _ _ w3 (by rw [List.length_append]; exact hln) (by omega) hO3.at).mono ?_
      rintro e w5 ⟨v5, rfl, ho5, hb5⟩
      obtain ⟨a5, p5, hv5⟩ := ho5.shape
      subst hv5
      have hbw5 := grew hB3 hb5
      have hsz5 := hbw5.size
      go_wp2_with fail
      refine hK.out _ _ trivial (fun _ => ?_)
      clear hK K
      try simp only [Act.put, List.setIfInBounds_toArray, List.set_cons_zero, List.set_cons_succ]
      refine wpAnyH_ready (rs := [10]) (by kernel_rfl) (by simp) ?_
      refine AllReadyH.cons (o := { dst := some 22, op := Op.call { callee := Callee.value (Operand.func 26), args := #[Operand.tmp 21], argTypes := #[24] }, type := 24, pos := "l3_hull.go:113", after := #[{ on := 9, ground := Ground.data }, { on := 9, ground := Ground.chain }], guard := none }) rfl (fun K hK => ?_) AllReadyH.nil
      go_simp
      refine (l3Hull_c (fromL (A1 ++ A2)) _ _ _ w5 rfl (by omega) ho5.fit ho5.at).mono ?_
      rintro e w6 ⟨v6, rfl, ho6, hb6⟩
      obtain ⟨a6, p6, hv6⟩ := ho6.shape
      subst hv6
      go_wp2_with fail
      refine hK.out _ _ trivial (fun _ => ?_)
      clear hK K
      try simp only [Act.put, List.setIfInBounds_toArray, List.set_cons_zero, List.set_cons_succ]
      refine wpAnyH_take (i := 11) (oi := { dst := some 2, op := Op.assign (Operand.tmp 22), type := 24, pos := "l3_hull.go:113", after := #[{ on := 10, ground := Ground.data }, { on := 10, ground := Ground.chain }, { on := 0, ground := Ground.phase }, { on := 1, ground := Ground.phase }, { on := 2, ground := Ground.phase }, { on := 3, ground := Ground.phase }, { on := 4, ground := Ground.phase }, { on := 5, ground := Ground.phase }, { on := 6, ground := Ground.phase }, { on := 7, ground := Ground.phase }, { on := 8, ground := Ground.phase }, { on := 9, ground := Ground.phase }, { on := 10, ground := Ground.phase }], guard := none }) (v := ?v1rx11) rfl (by kernel_rfl) (by kernel_rfl) (by kernel_rfl) (fun _ _ _ h => h) (Or.inl ⟨by rfl, ?hy1rx11⟩) trivial ?rest1rx11
      case hy1rx11 => (intro w hSw; (try dsimp only at hSw);  clear hSw; go_simp; try with_reducible rfl)
      case' rest1rx11 => (try simp only [Act.put, List.setIfInBounds_toArray, List.set_cons_zero, List.set_cons_succ])
      refine wpAnyH_done (by kernel_rfl) ?_ _
      go_wp2
      go_ret
      exact ⟨_, rfl, ho6.mono hsz5, grew hbw5 hb6⟩
set_option maxHeartbeats 1000000 in
theorem byHalves_c : ∀ (n : Nat) (l : List (Int × Int)) (a : Option Addr) (len cap : Nat) (w : World) (hl : l.length = len) (hn : len ≤ n) (h1 : len ≤ 60) (hF : Fit a len cap) (hA : At w.heap.size a l w) (c0 : w.cell? ⟨0, 0, none⟩ = some (.int .i64 1000000)),
    Calls Tryz.prog 31 #[.slice a len cap] w fun e w' => ∃ v, e = .returned v ∧ OwnC w.heap.size v (halvesB tlB n l) w' ∧ Below w.heap.size w w' := by
  intro n
  induction n with
  | zero =>
    intro l a len cap w hl hn h1 hF hA c0
    subst hl
    have hlt : l.length < 2 := by omega
    have e2 : halvesB tlB 0 l = hullB tlB l := by unfold hullB; rw [if_pos hlt]; rfl
    rw [e2]
    have HA := hid hA
    have C0 := hid c0
    clear hA hF hn c0
    go_enter Tryz.func31, Tryz.ntmps31
    go_wp2_with (go_at_call 24; refine (hullOf_c l _ _ _ w rfl (by omega) HA.out C0.out).mono ?_; rintro e w1 ⟨v1, rfl, ho1, hb1⟩)
    go_ret
    exact ⟨_, rfl, ho1, hb1⟩
  | succ n ih =>
    intro l a len cap w hl hn h1 hF hA c0
    subst hl
    have HA := hid hA
    have HF := hid hF
    have C0 := hid c0
    clear hA hF c0
    by_cases h2 : l.length < 2
    · have e2 : halvesB tlB (n + 1) l = hullB tlB l := by rw [halvesB_short h2]; unfold hullB; rw [if_pos h2]
      rw [e2]
      clear hn
      go_enter Tryz.func31, Tryz.ntmps31
      go_wp2_with (go_at_call 24; refine (hullOf_c l _ _ _ w rfl (by omega) HA.out C0.out).mono ?_; rintro e w1 ⟨v1, rfl, ho1, hb1⟩)
      go_ret
      exact ⟨_, rfl, ho1, hb1⟩
    · rw [halvesB_step h2]
      obtain ⟨b, off, rfl, hbN, _, _⟩ := HA.out 0 (by omega)
      obtain ⟨hlc, hcm⟩ : l.length ≤ cap ∧ cap ≤ maxLen := by
        rcases HF.out with ⟨h0, _, _⟩ | ⟨_, h3, h4⟩
        · cases h0
        · exact ⟨h3, h4⟩
      obtain ⟨k, hk⟩ : ∃ k, l.length / 2 = k := ⟨_, rfl⟩
      rw [hk]
      have IH1 := hid (ih (l.take k) (some ⟨b, off, none⟩) k k)
      have IH2 := hid (ih (l.drop k) (some ⟨b, off + k * 2, none⟩) (l.length - k) (l.length - k))
      have L1 := halvesB_len (t := tlB) n (l.take k)
      have L2 := halvesB_len (t := tlB) n (l.drop k)
      have L3 := halvesB_ne (t := tlB) n (l.drop k) (fun e => by have := congrArg List.length e; rw [List.length_drop, List.length_nil] at this; omega)
      rw [List.length_take, Nat.min_eq_left (by omega)] at L1
      rw [List.length_drop] at L2
      have L5 := Nat.mul_le_mul (show k ≤ 60 by omega) (show k ≤ 60 by omega)
      have L6 := Nat.mul_le_mul (show l.length - k ≤ 60 by omega) (show l.length - k ≤ 60 by omega)
      obtain ⟨A1, hA1⟩ : ∃ A1, halvesB tlB n (l.take k) = A1 := ⟨_, rfl⟩
      obtain ⟨A2, hA2⟩ : ∃ A2, halvesB tlB n (l.drop k) = A2 := ⟨_, rfl⟩
      rw [hA1] at IH1 L1 ⊢
      rw [hA2] at IH2 L2 L3 ⊢
      have hA1' : A1.length ≤ 3600 := by omega
      have hA2' : A2.length ≤ 3600 := by omega
      have hA3' : 0 < A2.length := List.length_pos_iff.2 L3
      have F1 := fromL_few (A1 ++ A2)
      rw [List.length_append] at F1
      have hx1 : (0 : Int) ≤ (k : Int) := by omega
      have hx2 : (k : Int) ≤ (l.length : Int) := by omega
      have hx3 : (k : Int) ≤ (cap : Int) := by omega
      have hx4 : (l.length : Int) ≤ (cap : Int) := by omega
      have hne : ¬ l.length = k := by omega
      have M1 : (l.take k).length = k := by rw [List.length_take]; omega
      have M2 := hid M1
      clear M1
      have K1 := hid (⟨by omega, by omega⟩ : k ≤ n ∧ k ≤ 60)
      have K2 := hid (⟨by omega, by omega⟩ : l.length - k ≤ n ∧ l.length - k ≤ 60)
      have K3 : Hid (Fit (some ⟨b, off, none⟩) k k) := .inr ⟨⟨_, _, rfl⟩, Nat.le_refl _, by unfold maxLen; omega⟩
      have K4 : Hid (Fit (some ⟨b, off + k * 2, none⟩) (l.length - k) (l.length - k)) := .inr ⟨⟨_, _, rfl⟩, Nat.le_refl _, by unfold maxLen; omega⟩
      have K5 : Hid ((fromL (A1 ++ A2)).length ≤ 500000 ∧ A1.length + A2.length ≤ 1048576) := ⟨by omega, by omega⟩
      have hw : wrap64 (k : Int) = (k : Int) := by unfold wrap64; omega
      have hq : (l.length : Int).tdiv 2 = (k : Int) := by rw [Int.tdiv_eq_ediv_of_nonneg (by omega)]; omega
      clear L1 L2 L3 L5 L6 ih hn h1 hk hA1 hA2 F1
      obtain ⟨i0, hi, hz0, hz1, hz2⟩ := info_parts info_pt
      have tk1 : True := trivial
      go_enter Tryz.func31, Tryz.ntmps31
      go_upto_region 4 with fail
      rw [hw]
      clear hq
      go_wp2_with (first
        | (go_at_call 31; clear tk1; refine (IH1.out w M2.out K1.out.1 K1.out.2 K3.out (HA.out.take' k) C0.out).mono ?_; rintro e w1 ⟨v1, rfl, ho1, hb1⟩; obtain ⟨a1, p1, hv1⟩ := ho1.shape; subst hv1)
        | (go_at_call 31; refine (IH2.out w1 (by rw [List.length_drop]) K2.out.1 K2.out.2 K4.out (((HA.out.later hb1).mono hb1.size).drop k) (cell_later hb1 C0.out)).mono ?_; rintro e w2 ⟨v2, rfl, ho2, hb2⟩; obtain ⟨a2, p2, hv2⟩ := ho2.shape; subst hv2; obtain ⟨g2, rfl⟩ := ho2.some hA3'; have hbw2 := grew hb1 hb2; have hsz2 := hbw2.size)
        | (at_builtin; refine wpList_append_cut rfl (.tmp 18) (.tmp 26) 24 rfl w.heap.size Tryz.underlying24 hi hz0 hz1 hz2 (by rfl) _ A1 A2 rfl (ho1.later hb2) _ _ _ rfl rfl (fun j u hu => cells_at ho2.at j u hu) hA3' K5.out.2 hsz2 ?_; intro g cp w3 hO3 hg3 _; obtain ⟨ln, hln⟩ : ∃ ln, A1.length + A2.length = ln := ⟨_, rfl⟩; have hB3 := hbw2.trans (OwnC.grownBelow (ho1.later hb2) hg3 hsz2); rw [hln] at hO3 ⊢; have HLN := hid hln; clear hln; have hsz3 := hB3.size)
        | (go_at_call 35; refine (sortedFrom_c (A1 ++ A2) _ _ _ w3 (by rw [List.length_append]; exact HLN.out) (by rw [← HLN.out]; exact K5.out.2) hO3.at).mono ?_; rintro e w5 ⟨v5, rfl, ho5, hb5⟩; obtain ⟨a5, p5, hv5⟩ := ho5.shape; subst hv5; have hbw5 := grew hB3 hb5; have hsz5 := hbw5.size)
        | (go_at_call 24; refine (hullOf_c (fromL (A1 ++ A2)) _ _ _ w5 rfl K5.out.1 ho5.at (cell_later hbw5 C0.out)).mono ?_; rintro e w6 ⟨v6, rfl, ho6, hb6⟩))
      go_ret
      exact ⟨_, rfl, ho6.mono hsz5, grew hbw5 hb6⟩
set_option maxHeartbeats 1000000 in
theorem halvesSpec_c (l : List (Int × Int)) (a : Option Addr) (len cap : Nat) (w : World) (hl : l.length = len) (h1 : len ≤ 1048576) (hF : Fit a len cap) (hA : At w.heap.size a l w) :
    Calls Tryz.prog 11 #[.slice a len cap] w fun e w' => ∃ v, e = .returned (.tuple #[v, .bool (goodL l)]) ∧ OwnC w.heap.size v (halL l) w' ∧ Below w.heap.size w w' := by
  subst hl
  have HA := hid hA
  have HF := hid hF
  clear hA hF
  cases hG : goodL l
  · have e2 : halL l = [] := by rw [halL, hG]; rfl
    rw [e2]
    clear e2
    go_enter Tryz.func11, Tryz.ntmps11
    go_wp2_with (go_at_call 25; refine (l2Good_c l _ _ _ _ rfl h1 HA.out).mono ?_; rintro e w1 ⟨rfl, hb1⟩)
    go_ret2
    exact ⟨_, rfl, OwnC.nil _ _, hb1⟩
  · have e2 : halL l = halvesB slB l.length l := by rw [halL, hG]; rfl
    rw [e2]
    clear e2
    have hfew := goodL_few hG
    go_enter Tryz.func11, Tryz.ntmps11
    go_wp2_with (first
      | (go_at_call 25; refine (l2Good_c l _ _ _ _ rfl h1 HA.out).mono ?_; rintro e w1 ⟨rfl, hb1⟩)
      | (go_at_call 32; refine (l3Halves_c l.length l _ _ _ w1 rfl (Nat.le_refl _) hfew HF.out ((HA.out.later hb1).mono hb1.size)).mono ?_; rintro e w2 ⟨v2, rfl, ho2, hb2⟩))
    go_ret2
    exact ⟨_, rfl, ho2.mono hb1.size, grew hb1 hb2⟩
set_option maxHeartbeats 1000000 in
theorem halvesImpl_c (l : List (Int × Int)) (a : Option Addr) (len cap : Nat) (w : World) (hl : l.length = len) (h1 : len ≤ 1048576) (hF : Fit a len cap) (hA : At w.heap.size a l w) (c0 : w.cell? ⟨0, 0, none⟩ = some (.int .i64 1000000)) :
    Calls Tryz.prog 10 #[.slice a len cap] w fun e w' => ∃ v, e = .returned (.tuple #[v, .bool (goodL l)]) ∧ OwnC w.heap.size v (halL l) w' ∧ Below w.heap.size w w' := by
  subst hl
  have HA := hid hA
  have HF := hid hF
  have C0 := hid c0
  clear hA hF c0
  cases hG : goodL l
  · have e2 : halL l = [] := by rw [halL, hG]; rfl
    rw [e2]
    clear e2
    go_enter Tryz.func10, Tryz.ntmps10
    go_wp2_with (go_at_call 23; refine (goodSetImpl_c l _ _ _ _ rfl h1 HA.out C0.out).mono ?_; rintro e w1 ⟨rfl, hb1⟩)
    go_ret2
    exact ⟨_, rfl, OwnC.nil _ _, hb1⟩
  · have e2 : halL l = halvesB tlB l.length l := by rw [halL, hG]; exact (halves_eq _ _ (goodL_all hG)).symm
    rw [e2]
    clear e2
    have hfew := goodL_few hG
    go_enter Tryz.func10, Tryz.ntmps10
    go_wp2_with (first
      | (go_at_call 23; refine (goodSetImpl_c l _ _ _ _ rfl h1 HA.out C0.out).mono ?_; rintro e w1 ⟨rfl, hb1⟩)
      | (go_at_call 31; refine (byHalves_c l.length l _ _ _ w1 rfl (Nat.le_refl _) hfew HF.out ((HA.out.later hb1).mono hb1.size) (cell_later hb1 C0.out)).mono ?_; rintro e w2 ⟨v2, rfl, ho2, hb2⟩))
    go_ret2
    exact ⟨_, rfl, ho2.mono hb1.size, grew hb1 hb2⟩
end Go.Proofs.YtcghpepkphphbaaGreatDoor
