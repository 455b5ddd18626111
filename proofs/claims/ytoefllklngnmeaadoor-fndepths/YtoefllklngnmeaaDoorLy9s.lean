/-
  Layers, the specification's (contracts for the walks).
  Conditions: as each theorem states them.
-/
import Derived.Test.YtoefllklngnmeaaDoorLy9o
namespace Go.Proofs.YtoefllklngnmeaaDoor
open Go.RowKit Go.Shelf
set_option linter.unusedVariables false
set_option maxRecDepth 8000
/-- Two slices do not lie in one block. -/
def Apart (v u : Value) : Prop := ∀ g, v.ownBlock = some g → u.ownBlock ≠ some g
theorem Apart.swap {v u : Value} (h : Apart v u) : Apart u v := fun g e k => h g k e
theorem Apart.ne {v u : Value} (h : Apart v u) : u.ownBlock = none ∨ u.ownBlock ≠ v.ownBlock := by
  cases hx : u.ownBlock with
  | none => exact .inl rfl
  | some b => exact .inr (fun e => h b e.symm hx)
theorem Apart.new {N g n c : Nat} {v u : Value} {l : List (Int × Int)} {w : World} (h : Apart v u) (hu : OwnC N u l w) (hg : v.ownBlock = some g ∨ g = w.heap.size) : Apart (.slice (some ⟨g, 0, none⟩) n c) u := fun b e k => by
  simp [Value.ownBlock] at e
  subst e
  rcases hg with e | e
  · exact h _ e k
  · have := (hu.lt k).2; omega
theorem filt_in {s : List (Int × Int)} (f : Int × Int → Bool) (k : Nat) : ((s.take k).filter f).length ≤ k := Nat.le_trans (List.length_filter_le _ _) (by rw [List.length_take]; omega)
theorem hullB_len9 (l : List (Int × Int)) (h : l.length ≤ 500000) : (hullB slB l).length ≤ 1048576 := by
  unfold hullB
  split
  · omega
  · have h1 := chainB_len (t := slB) l
    have h2 := chainB_len (t := slB) l.reverse
    rw [List.length_reverse] at h2
    rw [List.length_append, List.length_dropLast, List.length_dropLast]
    omega
set_option maxHeartbeats 8000000 in
theorem l9Rim_c (l : List (Int × Int)) (a : Option Addr) (len cap : Nat) (w : World) (hl : l.length = len) (h1 : len ≤ 500000) (hF : Fit a len cap) (hA : At w.heap.size a l w) :
    Calls Tryd.prog 50 #[.slice a len cap] w fun e w' => ∃ v u, e = .returned (.tuple #[v, u]) ∧ OwnC w.heap.size v (rimL l) w' ∧ OwnC w.heap.size u (rstL l) w' ∧ Below w.heap.size w w' := by
  subst hl
  have HA := hid hA
  clear hA
  obtain ⟨i0, hi, hz0, hz1, hz2⟩ := info_parts info_pt
  have HHL : Hid ((hullB slB l).length ≤ 1048576) := hullB_len9 l (by omega)
  go_enter Tryd.func50, Tryd.ntmps50
  go_wp2_with (go_at_call 70; refine (l3Hull_c l _ _ _ w rfl h1 hF HA.out).mono ?_; rintro e w2 ⟨v2, rfl, hO2, hb2⟩; obtain ⟨a2, p2, hv2⟩ := hO2.shape; subst hv2)
  have HH2 := hid hO2.at
  have HB2 := hid hb2
  have hsz2 := hb2.size
  clear hO2 hb2
  go_loopw [5, 6, 13] (fun o r i wr => ∃ k : Nat, k ≤ l.length ∧ i = .int .i64 k ∧ OwnC w2.heap.size o ((l.take k).filter (rimOn l)) wr ∧ OwnC w2.heap.size r ((l.take k).filter (fun p => !rimOn l p)) wr ∧ Apart o r ∧ Below w2.heap.size w2 wr) (fun _ _ i _ => l.length - (intOf i).toNat)
  case atStart => exact ⟨0, Nat.zero_le _, rfl, OwnC.nil _ _, OwnC.nil _ _, fun g e => by simp [Value.ownBlock] at e, Below.refl _ _⟩
  case round =>
    obtain ⟨k, hk, rfl, hO, hU, hap, hbw⟩ := hrel
    have hszr := hbw.size
    by_cases hkl : k < l.length
    · have HF := hid (filt_take (s := l) (f := rimOn l) hkl)
      have HFN := hid (filt_take (s := l) (f := fun p => !rimOn l p) hkl)
      have hl1 := filt_in (s := l) (rimOn l) k
      have hl2 := filt_in (s := l) (fun p => !rimOn l p) k
      obtain ⟨bb, off, rfl, hbN, g0, g1⟩ := HA.out k hkl
      have hb0w := HB2.out.trans (hbw.mono HB2.out.size)
      have q0 := cell_later hb0w g0
      have q1 := cell_later hb0w g1
      have hbbl : bb < wr.heap.size := by omega
      have HA2 := hid ((HH2.out.later hbw).mono hbw.size)
      have HBW := hid hbw
      clear g0 g1 hb0w hbw
      obtain ⟨ux, hx⟩ : ∃ u, px l k = u := ⟨_, rfl⟩
      obtain ⟨uy, hy⟩ : ∃ u, py l k = u := ⟨_, rfl⟩
      rw [hx, hy] at HF HFN
      rw [hx] at q0
      rw [hy] at q1
      clear hx hy
      have hi0 : (0 : Int) ≤ (k : Int) := by omega
      have hi1 : (k : Int) < (l.length : Int) := by omega
      obtain ⟨R, hR⟩ : ∃ R, (l.take k).filter (rimOn l) = R := ⟨_, rfl⟩
      obtain ⟨S, hS⟩ : ∃ R, (l.take k).filter (fun p => !rimOn l p) = R := ⟨_, rfl⟩
      rw [hR] at hO HF hl1
      rw [hS] at hU HFN hl2
      clear hR hS
      have hlR : R.length + 1 ≤ 1048576 := by omega
      have hlS : S.length + 1 ≤ 1048576 := by omega
      have HV := hid hO
      have HU := hid hU
      have HAP := hid hap
      have hbX : Below wr.heap.size wr (wr.alloc (.cells #[.int .i64 ux, .int .i64 uy] 30)) := by go_grown
      have HBX := hid hbX
      have K0 := hid (box0 wr ux uy 30)
      have K1 := hid (box1 wr ux uy 30)
      obtain ⟨a3, c3, hv3⟩ := hO.shape
      subst hv3
      obtain ⟨a4, c4, hv4⟩ := hU.shape
      subst hv4
      clear hO hU hap hl1 hl2
      obtain ⟨wv, hwv⟩ : ∃ z, whS (hullB slB l) (ux, uy) = z := ⟨_, rfl⟩
      have HWV := hid hwv
      clear hwv
      by_cases hW : wv = 1
      · have HRIM := hid (show rimOn l (ux, uy) = true by unfold rimOn; rw [HWV.out]; exact decide_eq_true hW)
        go_wp2_with (first
          | (go_at_call 71; refine (l4Where_c (hullB slB l) ux uy _ _ _ _ rfl HHL.out ((HA2.out.later HBX.out).mono HBX.out.size)).mono ?_; rw [HWV.out]; rintro e w3 ⟨rfl, hb⟩; have k0 := cell_later hb K0.out; have k1 := cell_later hb K1.out; have HB3 := hid (grew HBX.out hb); have HBR := hid (hbX.trans (hb.mono hbX.size)); have hs3 := HBR.out.size; have HV3 := hid (HV.out.later HBR.out); have HU3 := hid (HU.out.later HBR.out); clear hb q0 q1)
          | (at_builtin; refine wpList_append_cut rfl _ _ 28 rfl w2.heap.size Tryd.underlying28 hi hz0 hz1 hz2 (by rfl) (.slice a3 R.length c3) R [(ux, uy)] rfl (HV3.out.later (by go_grown)) _ _ _ rfl rfl (fun j u hu => one_src _ ux uy _ rfl j u hu) (by simp) (by simpa using hlR) (by simp; omega) ?_; intro g cp w4 hO4 hg4 hl4; obtain ⟨ln, hln⟩ : ∃ ln, R.length + [(ux, uy)].length = ln := ⟨_, rfl⟩; rw [hln] at hO4 ⊢; clear hln; have HO4 := hid hO4; have HG4 := hid hg4; have HL4 := hid hl4; clear hO4 hg4 hl4))
        have hbA : Below w3.heap.size w3 (w3.alloc (.cells #[.int .i64 ux, .int .i64 uy] 30)) := by go_grown
        go_roundw
        case rel =>
          refine ⟨k + 1, by omega, by go_num, by rw [HF.out, if_pos HRIM.out]; exact HO4.out, ?_, ?_, ?_⟩
          · rw [HFN.out, HRIM.out]
            simp only [Bool.not_true, Bool.false_eq_true, if_false, List.append_nil]
            exact (HU3.out.later hbA).grown HG4.out HAP.out.ne
          · exact HAP.out.new (HU3.out.later hbA) HL4.out
          · exact ((HBW.out.trans (HBR.out.mono HBW.out.size)).trans (hbA.mono (by omega))).grown HG4.out (by simp; omega) (fun j hj => (HV3.out.lt hj).1)
        case measure => simp [intOf]; omega
      · have HRIM := hid (show rimOn l (ux, uy) = false by unfold rimOn; rw [HWV.out]; exact decide_eq_false hW)
        go_wp2_with (first
          | (go_at_call 71; refine (l4Where_c (hullB slB l) ux uy _ _ _ _ rfl HHL.out ((HA2.out.later HBX.out).mono HBX.out.size)).mono ?_; rw [HWV.out]; rintro e w3 ⟨rfl, hb⟩; have k0 := cell_later hb K0.out; have k1 := cell_later hb K1.out; have HB3 := hid (grew HBX.out hb); have HBR := hid (hbX.trans (hb.mono hbX.size)); have hs3 := HBR.out.size; have HV3 := hid (HV.out.later HBR.out); have HU3 := hid (HU.out.later HBR.out); clear hb q0 q1)
          | (at_builtin; refine wpList_append_cut rfl _ _ 28 rfl w2.heap.size Tryd.underlying28 hi hz0 hz1 hz2 (by rfl) (.slice a4 S.length c4) S [(ux, uy)] rfl (HU3.out.later (by go_grown)) _ _ _ rfl rfl (fun j u hu => one_src _ ux uy _ rfl j u hu) (by simp) (by simpa using hlS) (by simp; omega) ?_; intro g cp w4 hO4 hg4 hl4; obtain ⟨ln, hln⟩ : ∃ ln, S.length + [(ux, uy)].length = ln := ⟨_, rfl⟩; rw [hln] at hO4 ⊢; clear hln; have HO4 := hid hO4; have HG4 := hid hg4; have HL4 := hid hl4; clear hO4 hg4 hl4))
        have hbA : Below w3.heap.size w3 (w3.alloc (.cells #[.int .i64 ux, .int .i64 uy] 30)) := by go_grown
        go_roundw
        case rel =>
          refine ⟨k + 1, by omega, by go_num, ?_, ?_, ?_, ?_⟩
          · rw [HF.out, if_neg (by rw [HRIM.out]; decide), List.append_nil]
            exact (HV3.out.later hbA).grown HG4.out HAP.out.swap.ne
          · rw [HFN.out, HRIM.out]
            simp only [Bool.not_false, if_true]
            exact HO4.out
          · exact (HAP.out.swap.new (HV3.out.later hbA) HL4.out).swap
          · exact ((HBW.out.trans (HBR.out.mono HBW.out.size)).trans (hbA.mono (by omega))).grown HG4.out (by simp; omega) (fun j hj => (HU3.out.lt hj).1)
        case measure => simp [intOf]; omega
    · obtain rfl : k = l.length := by omega
      rw [List.take_length] at hO hU
      obtain ⟨a3, c3, hv3⟩ := hO.shape
      subst hv3
      obtain ⟨a4, c4, hv4⟩ := hU.shape
      subst hv4
      go_wp2
      go_ret2
      exact ⟨_, _, rfl, hO.mono HB2.out.size, hU.mono HB2.out.size, HB2.out.trans (hbw.mono HB2.out.size)⟩
theorem own_far {N : Nat} {v u : Value} {l : List (Int × Int)} {w : World} (h : OwnC N u l w) (hv : ∀ b, v.ownBlock = some b → b < N) : u.ownBlock = none ∨ u.ownBlock ≠ v.ownBlock := by
  cases hx : u.ownBlock with
  | none => exact .inl rfl
  | some b => exact .inr (fun e => by have := (h.lt hx).1; have := hv b e.symm; omega)
theorem fit_at {N n cap : Nat} {a : Option Addr} {l : List (Int × Int)} {w : World} (h : OwnC N (.slice a n cap) l w) : Fit a n cap := h.fit
set_option maxHeartbeats 8000000 in
theorem l9Layers_c (l : List (Int × Int)) (a : Option Addr) (len cap : Nat) (w : World) (hl : l.length = len) (hG : goodL l = true) (hF : Fit a len cap) (hA : At w.heap.size a l w) :
    Calls Tryd.prog 44 #[.slice a len cap] w fun e w' => ∃ v vs, e = .returned v ∧ OwnSS w.heap.size v (layL l) vs w' ∧ Below w.heap.size w w' := by
  subst hl
  have HA := hid hA
  have HG := hid hG
  have h60 := goodL_few hG
  have HF := hid hF
  clear hA hG hF
  obtain ⟨is, hsi, hs0, hs1, hs2⟩ := info_parts info_sl
  go_enter Tryd.func44, Tryd.ntmps44
  go_wp2
  go_loopw [0, 3] (fun s o wr => ∃ (cur : List (Int × Int)) (L : List (List (Int × Int))) (vs : List Value) (ai : Option Addr) (ci : Nat), s = .slice ai cur.length ci ∧ At wr.heap.size ai cur wr ∧ Fit ai cur.length ci ∧ goodL cur = true ∧ OwnSS w.heap.size o L vs wr ∧ L ++ layL cur = layL l ∧ L.length + cur.length ≤ l.length ∧ Below w.heap.size w wr) (fun s _ _ => sliceLen s)
  case atStart => exact ⟨l, [], [], a, cap, rfl, HA.out, HF.out, HG.out, OwnSS.nil _ _, rfl, by simp, Below.refl _ _⟩
  case round =>
    obtain ⟨cur, L, vs, ai, ci, rfl, hC, hFc, hGc, hO, hLL, hcnt, hbw⟩ := hrel
    by_cases h0 : 0 < cur.length
    · have HST := hid (layL_step hGc h0)
      have HLS := hid (rst_less hGc h0)
      have HRG := hid (rstL_good hGc)
      have hlen := hO.len
      have hvl : vs.length + 1 ≤ 1048576 := by omega
      have HO := hid hO
      have HLL := hid hLL
      have HC := hid hC
      have HBW := hid hbw
      have hszr := hbw.size
      have hcl : cur.length ≤ 500000 := by omega
      have hd : decide ((0 : Int) < (cur.length : Int)) = true := decide_eq_true (by omega)
      obtain ⟨a3, c3, hv3⟩ := hO.shape
      subst hv3
      clear hO hC hGc hLL hbw
      go_wp2_with (first
        | (go_at_call 50; refine (l9Rim_c cur _ _ _ wr rfl hcl hFc HC.out).mono ?_; rintro e w1 ⟨v1, u1, rfl, hv, hu, hb1⟩; obtain ⟨a5, c5, hv5⟩ := hv.shape; subst hv5; obtain ⟨a6, c6, hv6⟩ := hu.shape; subst hv6; have HB1 := hid hb1; have hw1 := hb1.size; have HV := hid hv; have HU := hid hu; have HO1 := hid (HO.out.later hb1); clear hv hu hb1)
        | (at_builtin; refine wpList_append_one rfl _ _ 34 rfl w.heap.size Tryd.underlying34 hsi hs0 hs1 hs2 (by rfl) (.slice a3 L.length c3) (.slice a5 (rimL cur).length c5) vs rfl (by rfl) (HO1.out.out.later (by go_grown)) ⟨w1.heap.size, 0, none⟩ 1 rfl (by simp [go_sem]) rfl hvl (by simp; omega) ?_; intro g cp w4 hO4 hg4 hl4; have HO4 := hid hO4; have HG4 := hid hg4; have HL4 := hid hl4; clear hO4 hg4 hl4))
      have hbA : Below w1.heap.size w1 (w1.alloc (.cells #[.slice a5 (rimL cur).length c5] 28)) := by go_grown
      refine ⟨⟨rstL cur, L ++ [rimL cur], vs ++ [.slice a5 (rimL cur).length c5], a6, c6, rfl, ?_, HU.out.fit, HRG.out, ?_, ?_, ?_, ?_⟩, HLS.out⟩
      · exact ((HU.out.later hbA).grown HG4.out (own_far HU.out (fun b e => (HO.out.out.lt e).2))).at
      · have := HO.out.push (grew HB1.out hbA) HBW.out.size (HV.out.later hbA) HO4.out HG4.out HL4.out
        rwa [hlen] at this
      · rw [List.append_assoc, ← HLL.out, HST.out]; rfl
      · have := HLS.out
        rw [List.length_append, List.length_singleton]; omega
      · exact (grew (grew HBW.out HB1.out) hbA).grown HG4.out (by have := HBW.out.size; simp; omega) (fun j hj => (HO.out.out.lt hj).1)
    · have hc0 : cur.length = 0 := by omega
      have HLL := hid hLL
      have HC0 := hid hc0
      have hd : decide ((0 : Int) < (cur.length : Int)) = false := decide_eq_false (by omega)
      clear hLL hc0
      obtain ⟨a3, c3, hv3⟩ := hO.shape
      subst hv3
      go_wp2
      go_ret
      exact ⟨_, vs, rfl, by have e := HLL.out; rw [layL_none HC0.out, List.append_nil] at e; rw [← e]; exact hO, hbw⟩
end Go.Proofs.YtoefllklngnmeaaDoor
