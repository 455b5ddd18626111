/-
  What is on the rim taken out of a map of points (contract for the walks).
  Conditions: as each theorem states them.
-/
import Derived.Test.YtoefllklngnmeaaDoorLy9m
import Derived.Test.YtoefllklngnmeaaDoorHHull
namespace Go.Proofs.YtoefllklngnmeaaDoor
open Go.RowKit Go.Shelf
set_option linter.unusedVariables false
set_option maxRecDepth 8000
theorem cell_grown {w w' : World} {b g i : Nat} {v : Value} (hg : w.grownBy w' (some b)) (h : w.cell? ⟨g, i, none⟩ = some v) (hne : g ≠ b) : w'.cell? ⟨g, i, none⟩ = some v :=
  (World.cell?_of_block (a := ⟨g, i, none⟩) (hg.block g (World.block_lt_of_cell? w _ h) (fun e => hne (by simpa using e)))).trans h
theorem cell_row {w w' : World} {row : Option Nat} {g i : Nat} {v : Value} (hg : w.grownBy w' row) (h : w.cell? ⟨g, i, none⟩ = some v) (hne : some g ≠ row) : w'.cell? ⟨g, i, none⟩ = some v :=
  (World.cell?_of_block (a := ⟨g, i, none⟩) (hg.block g (World.block_lt_of_cell? w _ h) hne)).trans h
theorem At.grownB {N b : Nat} {c : Option Addr} {l : List (Int × Int)} {w w' : World} (h : At N c l w) (hg : w.grownBy w' (some b)) (hne : ∀ bb off, c = some ⟨bb, off, none⟩ → bb ≠ b) : At N c l w' := fun i hi => by
  obtain ⟨bb, off, e, hN, g0, g1⟩ := h i hi
  exact ⟨bb, off, e, hN, cell_grown hg g0 (hne _ _ e), cell_grown hg g1 (hne _ _ e)⟩
theorem filt_take {s : List (Int × Int)} {f : Int × Int → Bool} {k : Nat} (hk : k < s.length) : (s.take (k + 1)).filter f = (s.take k).filter f ++ (if f (px s k, py s k) = true then [(px s k, py s k)] else []) := by
  rw [take_snocL hk, List.filter_append]
  simp only [List.filter_cons, List.filter_nil]
theorem drop_pt {s : List (Int × Int)} {k : Nat} (hk : k < s.length) : s.drop k = (px s k, py s k) :: s.drop (k + 1) := by
  have e : (px s k, py s k) = s[k] := by simp [px, py, hk]
  rw [e]; exact List.drop_eq_getElem_cons hk
theorem peel_list {s : List (Int × Int)} {f : Int × Int → Bool} (k : Nat) : ((s.take k).filter f ++ s.drop k).Sublist s := by
  have h := (List.filter_sublist (p := f) (l := s.take k)).append (List.Sublist.refl (s.drop k))
  rwa [List.take_append_drop] at h
set_option maxHeartbeats 8000000 in
theorem peel_c (b n : Nat) (s : List (Int × Int)) (D : DataW Unit) (w : World) (hP : PM w b n s D) (hG : goodL s = true) (hb0 : 0 < b) (c0 : w.cell? ⟨0, 0, none⟩ = some (.int .i64 1000000)) :
    Calls Tryd.prog 46 #[.map (some b)] w fun e w' => ∃ v D', e = .returned v ∧ OwnC w.heap.size v (rimL s) w' ∧ PM w' b n (rstL s) D' ∧ w.grownBy w' (some b) := by
  obtain ⟨i0, hi, hz0, hz1, hz2⟩ := info_parts info_pt
  have hbl := hP.lt
  have HP := hid hP
  have C0 := hid c0
  have h60 := goodL_few hG
  have HPW := hid ((good_iff s).1 hG).2.2
  have HAG := hid (goodL_all hG)
  have HND := hid (good_nodup hG)
  have HEQ := hid (hull_eq (goodL_all hG))
  have HHG : Hid (allG (hullB slB s)) := by
    by_cases h0 : 0 < s.length
    · exact (hull_head hG h0).2.2
    · have : s = [] := List.eq_nil_of_length_eq_zero (by omega)
      subst this
      intro p hp
      simp [hullB] at hp
  have HHL : Hid ((hullB slB s).length ≤ 1048576) := by
    have := hulL_len s (by omega)
    unfold hulL at this
    rw [if_pos hG] at this
    exact this
  clear hP c0
  go_enter Tryd.func46, Tryd.ntmps46
  go_wp2_with (first
    | (go_at_call 51; refine (mapOrder_c b n s D w HP.out HPW.out (by omega)).mono ?_; rintro e w1 ⟨v1, rfl, hO1, hb1⟩; obtain ⟨a1, p1, hv1⟩ := hO1.shape; subst hv1)
    | (go_at_call 56; refine (hullOf_c s _ _ _ w1 rfl (by omega) hO1.at (cell_later hb1 C0.out)).mono ?_; rw [HEQ.out]; rintro e w2 ⟨v2, rfl, hO2, hb2⟩; obtain ⟨a2, p2, hv2⟩ := hO2.shape; subst hv2))
  have hb12 := grew hb1 hb2
  have HA1 := hid ((hO1.at.later hb2).mono hb2.size)
  have HA2 := hid hO2.at
  have HN1 := hid (fun bb off e => Nat.ne_of_gt (Nat.lt_of_lt_of_le hbl (hO1.ge bb off e)))
  have HN2 := hid (fun bb off e => Nat.ne_of_gt (Nat.lt_of_lt_of_le hbl (Nat.le_trans hb1.size (hO2.ge bb off e))))
  have HB12 := hid hb12
  have hP2 := HP.out.later hb12 hbl
  have c2 := cell_later hb12 C0.out
  have C2 := hid c2
  have hbl2 : b < w2.heap.size := Nat.lt_of_lt_of_le hbl hb12.size
  clear hO1 hO2 hb1 hb2 hb12 c2
  go_loopw [5, 14] (fun o i wr => ∃ k : Nat, k ≤ s.length ∧ i = .int .i64 k ∧ OwnC w2.heap.size o ((s.take k).filter (rimOn s)) wr ∧ (∃ D', PM wr b n ((s.take k).filter (fun p => !rimOn s p) ++ s.drop k) D') ∧ w2.grownBy wr (some b)) (fun _ i _ => s.length - (intOf i).toNat)
  case atStart => exact ⟨0, Nat.zero_le _, rfl, OwnC.nil _ _, ⟨_, hP2⟩, grown_below (Below.refl _ _) _⟩
  case round =>
    clear hP2
    obtain ⟨k, hk, rfl, hO, ⟨D', hP⟩, hgr⟩ := hrel
    have HGR := hid hgr
    have hszr := hgr.size
    have hblr := hP.lt
    by_cases hkl : k < s.length
    · have HX := hid (HAG.out _ (pt_mem (l := s) hkl))
      have HF := hid (filt_take (s := s) (f := rimOn s) hkl)
      have HFN := hid (filt_take (s := s) (f := fun p => !rimOn s p) hkl)
      have HDR := hid (drop_pt hkl)
      have HSL := hid ((peel_list (s := s) (f := fun p => !rimOn s p) k).nodup HND.out)
      have HWE := hid (wh_eq HHG.out (HAG.out _ (pt_mem (l := s) hkl)))
      have hlen : ((s.take k).filter (rimOn s)).length + 1 ≤ 1048576 := by have := List.length_filter_le (rimOn s) (s.take k); rw [List.length_take] at this; omega
      change Hid (gp (px s k, py s k)) at HX
      change Hid (whI (hullB slB s) (px s k, py s k) = whS (hullB slB s) (px s k, py s k)) at HWE
      rw [HDR.out] at hP HSL
      obtain ⟨bb, off, rfl, hbN, g0, g1⟩ := HA1.out k hkl
      have hne := HN1.out bb off rfl
      have q0 := cell_grown hgr g0 hne
      have q1 := cell_grown hgr g1 hne
      have hbbl : bb < wr.heap.size := by omega
      have HC0 := hid (cell_grown hgr C2.out (by omega))
      have HA2r := hid ((HA2.out.grownB hgr HN2.out).mono hgr.size)
      clear g0 g1 hgr hne
      obtain ⟨ux, hx⟩ : ∃ u, px s k = u := ⟨_, rfl⟩
      obtain ⟨uy, hy⟩ : ∃ u, py s k = u := ⟨_, rfl⟩
      rw [hx, hy] at HX HF HFN HSL HWE hP
      rw [hx] at q0
      rw [hy] at q1
      clear hx hy
      have hi0 : (0 : Int) ≤ (k : Int) := by omega
      have hi1 : (k : Int) < (s.length : Int) := by omega
      obtain ⟨R, hR⟩ : ∃ R, (s.take k).filter (rimOn s) = R := ⟨_, rfl⟩
      rw [hR] at hO HF hlen
      clear hR
      have HO := hid hO
      have HP' := hid hP
      have hbX : Below wr.heap.size wr (wr.alloc (.cells #[.int .i64 ux, .int .i64 uy] 30)) := by go_grown
      have HBX := hid hbX
      have K0 := hid (box0 wr ux uy 30)
      have K1 := hid (box1 wr ux uy 30)
      obtain ⟨a3, c3, hv3⟩ := hO.shape
      subst hv3
      clear hO hP hbX
      obtain ⟨wv, hwv⟩ : ∃ z, whS (hullB slB s) (ux, uy) = z := ⟨_, rfl⟩
      have HWV := hid hwv
      rw [hwv] at HWE
      clear hwv
      by_cases hW : wv = 1
      · have HRIM := hid (show rimOn s (ux, uy) = true by unfold rimOn; rw [HWV.out]; exact decide_eq_true hW)
        go_wp2_with (first
          | (go_at_call 58; refine (whereImpl_c (hullB slB s) ux uy _ _ _ _ rfl HHL.out ((HA2r.out.later HBX.out).mono HBX.out.size) (cell_later HBX.out HC0.out)).mono ?_; rw [HWE.out]; rintro e w3 ⟨rfl, hb⟩; have k0 := cell_later hb K0.out; have k1 := cell_later hb K1.out; have HB3 := hid (grew HBX.out hb); have HO3 := hid (HO.out.later HB3.out); have hs3 := HB3.out.size; clear hb q0 q1)
          | (at_builtin; refine wpList_append_cut rfl _ _ 28 rfl w2.heap.size Tryd.underlying28 hi hz0 hz1 hz2 (by rfl) (.slice a3 R.length c3) R [(ux, uy)] rfl (HO3.out.later (by go_grown)) _ _ _ rfl rfl (fun j u hu => one_src _ ux uy _ rfl j u hu) (by simp) (by simpa using hlen) (by simp; omega) ?_; intro g cp w4 hO4 hg4 _; obtain ⟨ln, hln⟩ : ∃ ln, R.length + [(ux, uy)].length = ln := ⟨_, rfl⟩; rw [hln] at hO4 ⊢; clear hln; have HO4 := hid hO4; have HG4 := hid hg4; have k04 := cell_row hg4 (cell_later (show Below w3.heap.size w3 _ by go_grown) k0) (fun e => by have := (HO.out.lt e.symm).2; omega); have k14 := cell_row hg4 (cell_later (show Below w3.heap.size w3 _ by go_grown) k1) (fun e => by have := (HO.out.lt e.symm).2; omega); have HP4 := hid (((HP'.out.later HB3.out hblr).later (show Below w3.heap.size w3 _ by go_grown) (by omega)).kept hg4 (fun e => by have := (HO.out.lt e.symm).1; omega)); have hs4 := hg4.size; clear hO4 hg4 k0 k1)
          | (at_delete; refine wpList_delete_own _ rfl _ _ 62 30 rfl 80 lawPt Tryd.underlying62 unitElem b n _ rfl HP4.out.own _ _ rfl (keyOf_gp HX.out) ?_; intro w5 ho5 ht5))
        go_roundw
        case rel =>
          refine ⟨k + 1, by omega, by go_num, ?_, ⟨D'.del (klP (ux, uy)), ?_⟩, ?_⟩
          · rw [HF.out, if_pos HRIM.out]
            exact HO4.out.grown ht5.grown (.inr (fun e => by simp [Value.ownBlock] at e; have := (HO4.out.ge _ _ rfl); omega))
          · rw [HFN.out, HRIM.out]
            simp only [Bool.not_true, Bool.false_eq_true, if_false, List.append_nil]
            exact HP4.out.del HSL.out ho5
          · have e1 : w2.grownBy w3 (some b) := HGR.out.andThen (grown_below HB3.out none) (fun j hj => by cases hj)
            have e2 : w2.grownBy (w3.alloc (.cells #[.int .i64 ux, .int .i64 uy] 30)) (some b) := e1.andThen (World.grownBy_alloc _ _ none) (fun j hj => by cases hj)
            exact (e2.andThen HG4.out (fun j hj => .inl (HO.out.lt hj).1)).andThen ht5.grown (fun j hj => .inr hj)
        case measure => simp [intOf]; omega
      · have HRIM := hid (show rimOn s (ux, uy) = false by unfold rimOn; rw [HWV.out]; exact decide_eq_false hW)
        go_wp2_with (go_at_call 58; refine (whereImpl_c (hullB slB s) ux uy _ _ _ _ rfl HHL.out ((HA2r.out.later HBX.out).mono HBX.out.size) (cell_later HBX.out HC0.out)).mono ?_; rw [HWE.out]; rintro e w3 ⟨rfl, hb⟩; have HB3 := hid (grew HBX.out hb); clear hb q0 q1)
        go_roundw
        case rel =>
          refine ⟨k + 1, by omega, by go_num, ?_, ⟨D', ?_⟩, ?_⟩
          · rw [HF.out, if_neg (by rw [HRIM.out]; decide), List.append_nil]
            exact HO.out.later HB3.out
          · rw [HFN.out, HRIM.out]
            simp only [Bool.not_false, if_true, List.append_assoc, List.cons_append, List.nil_append]
            exact HP'.out.later HB3.out hblr
          · exact HGR.out.andThen (grown_below HB3.out none) (fun j hj => by cases hj)
        case measure => simp [intOf]; omega
    · obtain rfl : k = s.length := by omega
      rw [List.take_length] at hO hP
      rw [List.drop_length, List.append_nil] at hP
      obtain ⟨a3, c3, hv3⟩ := hO.shape
      subst hv3
      go_wp2
      go_ret
      exact ⟨_, D', rfl, hO.mono HB12.out.size, hP, (grown_below HB12.out (some b)).andThen hgr (fun j hj => .inr hj)⟩
end Go.Proofs.YtoefllklngnmeaaDoor
