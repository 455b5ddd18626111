/-
  The draws of lists of points (contracts for the walks).
  Conditions: as each theorem states them.
-/
import Derived.Test.YtipiamhnngmjmaaDoorPoints
import Derived.Test.YtipiamhnngmjmaaDoorB1
namespace Go.Proofs.YtipiamhnngmjmaaDoor
open Go.RowKit
set_option linter.unusedVariables false
set_option maxRecDepth 8000
theorem row_later {N : Nat} {v : Value} {l : List (Int × Int)} {w w' : World} (h : w.ownsRow N 26 2 v l.length (cells l)) (hb : Below w.heap.size w w') : w'.ownsRow N 26 2 v l.length (cells l) := row_of ((own_of h).later hb)
theorem Only.grown {b : Nat} {w u w' : World} {row : Option Nat} (h : Only b w u) (hg : u.grownBy w' row) (hr : ∀ k, row = some k → w.heap.size ≤ k) : Only b w w' :=
  ⟨hg.os.trans h.os, hg.tape.trans h.tape, hg.output.trans h.output, Nat.le_trans h.size hg.size, fun k hk hkb => (hg.block k (by have := h.size; omega) (fun e => by have := hr k e.symm; omega)).trans (h.block k hk hkb)⟩
theorem Own.only {N b : Nat} {v : Value} {l : List (Int × Int)} {u u' : World} (h : Own N v l u) (hO : Only b u u') (hb : b < N) : Own N v l u' := by
  rcases h with h | ⟨g, c, f, e, h1, h2, h3, ⟨cc, k1, k2, k3⟩, h5⟩
  · exact .inl h
  · have hlt : g < u.heap.size := by
      by_cases hg : g < u.heap.size
      · exact hg
      · rw [Array.getElem?_eq_none (by omega)] at k1; cases k1
    exact .inr ⟨g, c, f, e, h1, h2, h3, ⟨cc, (hO.block g hlt (by omega)).trans k1, k2, k3⟩, h5⟩
theorem row_only {N b : Nat} {v : Value} {l : List (Int × Int)} {u u' : World} (h : u.ownsRow N 26 2 v l.length (cells l)) (hO : Only b u u') (hb : b < N) : u'.ownsRow N 26 2 v l.length (cells l) := row_of ((own_of h).only hO hb)
theorem Rd.grown {N b m B : Nat} {w w' : World} {row : Option Nat} (h : Rd N b m w) (hg : w.grownBy w' row) (hr : ∀ k, row = some k → B ≤ k) (hB : b + 1 ≤ B) : Rd N b m w' :=
  h.below ((Below.refl _ _).grown hg (by have := h.lt; omega) (fun k hk => by have := hr k hk; omega))
set_option maxHeartbeats 2000000 in
theorem points_r (N b m : Nat) (w : World) (h : Rd N b m w) (hm : m ≤ 800000) :
    Calls Tryd.prog 112 #[.pointer (some ⟨b, 0, none⟩), .int .i64 12] w fun e w' => ∃ v, e = .returned v ∧ ∃ o, Own w.heap.size v o w' ∧ o.length ≤ 12 ∧ (∀ p ∈ o, goodB p.1 p.2 = true) ∧ Rd N b (m + 200) w' ∧ Only b w w' := by
  have hb := h.lt
  have H := hid h
  clear h
  obtain ⟨i0, hi, hz0, hz1, hz2⟩ := info_parts info_pt
  go_enter Tryd.func112, Tryd.ntmps112
  go_wp2_with (go_at_call 96; refine (pick_r 13 (by omega) (by omega) N b m _ H.out (by omega)).mono ?_; rintro e w1 ⟨n, rfl, hn0, hn1, hR1, hO1⟩; obtain ⟨n, rfl⟩ := Int.eq_ofNat_of_zero_le hn0)
  go_loopw [5, 6] (fun v sn wr => ∃ (k : Nat) (ln : List (Int × Int)), k + ln.length ≤ 12 ∧ sn = .int .i64 k ∧ wr.ownsRow w.heap.size 26 2 v ln.length (cells ln) ∧ Rd N b (m + 1 + 5 * ln.length) wr ∧ Only b w wr) (fun v sn _ => (intOf sn).toNat)
  case atStart => exact ⟨n, [], by simp; omega, rfl, World.ownsRow_nil _ _ _ _, hR1, hO1⟩
  case round =>
    obtain ⟨k, ln, hk, rfl, hown, hR, hO⟩ := hrel
    have HR := hid hR
    have HO := hid hO
    have hsr := hO.size
    clear hR hO
    by_cases hk0 : 0 < k
    · go_wp2_with (first
        | (go_at_call 114; refine (point_r N b _ _ HR.out (by omega)).mono ?_; rintro e w2 ⟨x, y, rfl, _, _, _, _, hR2, hO2⟩; have hown2 := row_only hown hO2 hb; have hs2 := hO2.size; have hs3 : w.heap.size ≤ w2.heap.size := by omega)
        | (at_builtin; refine wpList_append_own _ rfl (.tmp 21) (.tmp 24) 33 rfl w.heap.size 26 i0 _ 2 16 Tryd.underlying33 hi hz0 hz1 hz2 rfl (by decide) _ _ _ rfl (hown2.alloc _) _ 1 1 (cells [(x, y)]) rfl rfl (one_src w2 _ _ _ rfl) (cells_ones _) (by unfold maxLen; omega) (by omega) (by simp; omega) ?_; intro v9 w9 hown9 hgrow9 _))
      go_roundw
      case rel =>
        refine ⟨k - 1, ln ++ [(x, y)], by simp; omega, by congr 1; omega, ?_, ?_, ?_⟩
        · rw [List.length_append, cells_append]; exact hown9
        · rw [List.length_append]
          exact ((hR2.below (by go_grown)).grown hgrow9 (fun q hq => (hown2.lt q hq).1) hb).mono (by simp; omega)
        · exact ((HO.out.trans hO2).alloc _).grown hgrow9 (fun q hq => (hown2.lt q hq).1)
      case measure => simp [intOf]; omega
    · obtain rfl : k = 0 := by omega
      obtain ⟨av, cv, hv⟩ := (own_of hown).shape
      subst hv
      go_wp2_with (go_at_call 97; refine (one_r 6 (by omega) (by omega) N b _ _ HR.out (by omega)).mono ?_; rintro e w5 ⟨v5, rfl, hR5, hO5'⟩; have hown5 := row_only hown hO5' hb; have hO5 := HO.out.trans hO5'; clear hown HR HO)
      · obtain rfl : v5 = true := by assumption
        have hln0 : ln.length ≤ 12 := by omega
        clear hown5
        have tp1 : True := trivial
        have tp2 : True := trivial
        go_wp2_with (first
          | (go_at_call 114; refine (point_r N b _ _ hR5 (by omega)).mono ?_; rintro e w6 ⟨x, y, rfl, _, _, _, _, hR6, hO6⟩; have hb6 := hR6.lt; have P0 := box0 w6 x y 26; have P1 := box1 w6 x y 26)
          | (go_at_call 96; clear tp1; refine (pick_r 3 (by omega) (by omega) N b _ _ (hR6.below (by go_grown)) (by omega)).mono ?_; rintro e w7 ⟨d1, rfl, hd0, hd1, hR7, hO7⟩; have P2 := (hO7.cell (World.block_lt_of_cell? _ _ P0) (by show w6.heap.size ≠ b; omega)).trans P0; have P3 := (hO7.cell (World.block_lt_of_cell? _ _ P1) (by show w6.heap.size ≠ b; omega)).trans P1; have hs7 := hO7.size)
          | (go_at_call 96; clear tp2; refine (pick_r 3 (by omega) (by omega) N b _ _ hR7 (by omega)).mono ?_; rintro e w8 ⟨d2, rfl, he0, he1, hR8, hO8⟩; have P4 := (hO8.cell (World.block_lt_of_cell? _ _ P2) (by show w6.heap.size ≠ b; omega)).trans P2; have P5 := (hO8.cell (World.block_lt_of_cell? _ _ P3) (by show w6.heap.size ≠ b; omega)).trans P3; have hs8 := hO8.size; have hl6 : w6.heap.size < w8.heap.size := World.block_lt_of_cell? w8 _ P4; have hb8 := hR8.lt; have D0 := box0 w8 d1 (d2 - 1) 26; have D1 := box1 w8 d1 (d2 - 1) 26)
          | (go_at_call 96; refine (pick_r 6 (by omega) (by omega) N b _ _ (hR8.below (by go_grown)) (by omega)).mono ?_; rintro e wA ⟨n2, rfl, hf0, hf1, hR9, hO9⟩; obtain ⟨n2, rfl⟩ := Int.eq_ofNat_of_zero_le hf0)
          )
        have P6 := (hO9.cell (World.block_lt_of_cell? _ _ (cell_later (by go_grown) P4)) (by show w6.heap.size ≠ b; omega)).trans (cell_later (by go_grown) P4)
        have P7 := (hO9.cell (World.block_lt_of_cell? _ _ (cell_later (by go_grown) P5)) (by show w6.heap.size ≠ b; omega)).trans (cell_later (by go_grown) P5)
        have D2 := (hO9.cell (World.block_lt_of_cell? _ _ D0) (by show w8.heap.size ≠ b; omega)).trans D0
        have D3 := (hO9.cell (World.block_lt_of_cell? _ _ D1) (by show w8.heap.size ≠ b; omega)).trans D1
        have hO59 : Only b w wA := (((((hO5.trans hO6).alloc _).trans hO7).trans hO8).alloc _).trans hO9
        have HR9 := hid hR9
        have HO9 := hid hO59
        have hs9 := hO59.size
        have hl8 : w8.heap.size < wA.heap.size := World.block_lt_of_cell? wA _ D2
        clear hR5 hO5 hR6 hO6 hR7 hO7 hR8 hO8 hR9 hO9 hO59 P0 P1 P2 P3 P4 P5 D0 D1 hk hk0 hsr
        go_loopw [5, 9] (fun v sn wr => ∃ (k : Nat) (ln : List (Int × Int)), k + ln.length ≤ 5 ∧ sn = .int .i64 k ∧ wr.ownsRow wA.heap.size 26 2 v ln.length (cells ln) ∧ Below wA.heap.size wA wr) (fun v sn _ => (intOf sn).toNat)
        case atStart => exact ⟨n2, [], by simp; omega, rfl, World.ownsRow_nil _ _ _ _, Below.refl _ _⟩
        case round =>
          obtain ⟨k, ln2, hk, rfl, hown, hbr⟩ := hrel
          have hsr := hbr.size
          by_cases hk0 : 0 < k
          · have p0 := cell_later hbr P6
            have p1 := cell_later hbr P7
            have d0 := cell_later hbr D2
            have d1 := cell_later hbr D3
            go_wp2_with (at_builtin; refine wpList_append_own _ rfl (.tmp 42) (.tmp 58) 33 rfl wA.heap.size 26 i0 _ 2 16 Tryd.underlying33 hi hz0 hz1 hz2 rfl (by decide) _ _ _ rfl (hown.alloc _) _ 1 1 (cells [(_, _)]) rfl rfl (one_src wr _ _ _ rfl) (cells_ones _) (by unfold maxLen; omega) (by omega) (by simp; omega) ?_; intro v9 w9 hown9 hgrow9 _)
            go_roundw
            case rel =>
              obtain ⟨p, hp⟩ : ∃ p, w9.ownsRow wA.heap.size 26 2 v9 (ln2.length + 1) (cells ln2 ++ cells [p]) := ⟨_, hown9⟩
              refine ⟨k - 1, ln2 ++ [p], by simp; omega, by congr 1; omega, ?_, ?_⟩
              · rw [List.length_append, cells_append]; exact hp
              · exact grown_own hbr (by go_grown) hgrow9 hown
            case measure => simp [intOf]; omega
          · obtain rfl : k = 0 := by omega
            obtain ⟨av, cv, hv⟩ := (own_of hown).shape
            subst hv
            have hR5 : Rd N b (m + 100) wr := (HR9.out.below (hbr.mono (by omega))).mono (by omega)
            have hO5 : Only b w wr := HO9.out.trans (Only.ofBelow hbr)
            have hown5 := row_of ((own_of hown).mono hs9)
            have hln : ln2.length ≤ 12 := by omega
            clear hown hk hk0 hsr
            obtain ⟨w55, hw55⟩ : ∃ u, u = wr := ⟨_, rfl⟩
            subst hw55
            go_wp2
            have HO5 := hid (own_of hown5)
            have HA5 := hid (own_of hown5).at
            have HR5 := hid hR5
            have HY5 := hid hO5
            clear hown5 hR5 hO5
            go_loopw [10, 62] (fun v si wr => ∃ (k3 : Nat) (o : List (Int × Int)), (k3 ≤ ln2.length ∧ o.length ≤ k3) ∧ si = .int .i64 k3 ∧ wr.ownsRow w55.heap.size 26 2 v o.length (cells o) ∧ (∀ p ∈ o, goodB p.1 p.2 = true) ∧ Below w55.heap.size w55 wr) (fun v si _ => ln2.length - (intOf si).toNat)
            case atStart => exact ⟨0, [], ⟨Nat.zero_le _, Nat.le_refl _⟩, rfl, World.ownsRow_nil _ _ _ _, by simp, Below.refl _ _⟩
            case round =>
              obtain ⟨k3, o, hk3, rfl, hown3, hgd, hbr3⟩ := hrel
              have HG := hid hgd
              clear hgd
              have hsr3 := hbr3.size
              by_cases hkl : k3 < ln2.length
              · obtain ⟨bb, off, rfl, hbN, g0, g1⟩ := HA5.out k3 hkl
                have q0 := cell_later hbr3 g0
                have q1 := cell_later hbr3 g1
                clear g0 g1
                have hbb : bb < wr.heap.size := by omega
                cases hE : goodB (px ln2 k3) (py ln2 k3)
                · go_wp2_with (go_at_call 46; refine (goodSpec_e _ _ _).mono ?_; rintro e w8 ⟨rfl, hb8⟩)
                  go_roundw
                  case rel =>
                    have hb58 : Below wr.heap.size wr w8 := grew (by go_grown) hb8
                    first | exact ⟨k3 + 1, o, by omega, by go_num, row_later hown3 hb58, HG.out, grew hbr3 hb58⟩ | (refine ⟨_, _, _, _, _, _, _, _, _, _, _, _, _, ⟨k3 + 1, o, by omega, ?_, row_later hown3 hb58, HG.out, grew hbr3 hb58⟩, rfl⟩; go_num)
                  case measure => simp [intOf]; omega
                · have HB0 := hid (box0 wr (px ln2 k3) (py ln2 k3) 26)
                  have HB1 := hid (box1 wr (px ln2 k3) (py ln2 k3) 26)
                  go_wp2_with (first | (go_at_call 46; refine (goodSpec_e _ _ _).mono ?_; rintro e w8 ⟨rfl, hb8⟩; have c0 := cell_later hb8 HB0.out; have c1 := cell_later hb8 HB1.out; have hb58 : Below wr.heap.size wr w8 := grew (by go_grown) hb8; have hown8 := row_later hown3 hb58; have hlt8 : wr.heap.size < w8.heap.size := World.block_lt_of_cell? w8 _ c0; have hs8 : w55.heap.size ≤ w8.heap.size := by omega) | (at_builtin; refine wpList_append_own _ rfl (.tmp 68) (.tmp 70) 33 rfl w55.heap.size 26 i0 _ 2 16 Tryd.underlying33 hi hz0 hz1 hz2 rfl (by decide) _ _ _ rfl (hown8.alloc _) _ 1 1 (cells [(px ln2 k3, py ln2 k3)]) rfl rfl (one_src w8 _ _ _ rfl) (cells_ones _) (by unfold maxLen; omega) (by omega) (by simp; omega) ?_; intro v9 w9 hown9 hgrow9 _))
                  go_roundw
                  case rel =>
                    have hR9 : w9.ownsRow w55.heap.size 26 2 v9 (o ++ [(px ln2 k3, py ln2 k3)]).length (cells (o ++ [(px ln2 k3, py ln2 k3)])) := by
                      rw [List.length_append, cells_append]; exact hown9
                    have hG9 : ∀ p ∈ o ++ [(px ln2 k3, py ln2 k3)], goodB p.1 p.2 = true := by
                      intro p hp
                      rcases List.mem_append.1 hp with h | h
                      · exact HG.out p h
                      · obtain rfl := List.mem_singleton.1 h
                        exact hE
                    have hB9 : Below w55.heap.size w55 w9 := grown_own (grew hbr3 hb58) (by go_grown) hgrow9 hown8
                    first | exact ⟨k3 + 1, o ++ [(px ln2 k3, py ln2 k3)], ⟨by omega, by simp; omega⟩, by go_num, hR9, hG9, hB9⟩ | (refine ⟨_, _, _, _, _, _, _, _, _, _, _, _, _, ⟨k3 + 1, o ++ [(px ln2 k3, py ln2 k3)], ⟨by omega, by simp; omega⟩, ?_, hR9, hG9, hB9⟩, rfl⟩; go_num)
                  case measure => simp [intOf]; omega
              · go_wp2
                go_ret
                exact ⟨_, rfl, o, (own_of hown3).mono HY5.out.size, by omega, (by first | exact HG.out | exact fun a b h => HG.out (a, b) h), (HR5.out.below (hbr3.mono (by have := HY5.out.size; omega))).mono (by omega), HY5.out.trans (Only.ofBelow hbr3)⟩
      · obtain rfl : v5 = false := by assumption
        have hln : ln.length ≤ 12 := by omega
        clear hk hk0 hsr
        have HO5 := hid (own_of hown5)
        have HA5 := hid (own_of hown5).at
        have HR5 := hid hR5
        have HY5 := hid hO5
        clear hown5 hR5 hO5
        go_loopw [10, 62] (fun v si wr => ∃ (k3 : Nat) (o : List (Int × Int)), (k3 ≤ ln.length ∧ o.length ≤ k3) ∧ si = .int .i64 k3 ∧ wr.ownsRow w5.heap.size 26 2 v o.length (cells o) ∧ (∀ p ∈ o, goodB p.1 p.2 = true) ∧ Below w5.heap.size w5 wr) (fun v si _ => ln.length - (intOf si).toNat)
        case atStart => exact ⟨0, [], ⟨Nat.zero_le _, Nat.le_refl _⟩, rfl, World.ownsRow_nil _ _ _ _, by simp, Below.refl _ _⟩
        case round =>
          obtain ⟨k3, o, hk3, rfl, hown3, hgd, hbr3⟩ := hrel
          have HG := hid hgd
          clear hgd
          have hsr3 := hbr3.size
          by_cases hkl : k3 < ln.length
          · obtain ⟨bb, off, rfl, hbN, g0, g1⟩ := HA5.out k3 hkl
            have q0 := cell_later hbr3 g0
            have q1 := cell_later hbr3 g1
            clear g0 g1
            have hbb : bb < wr.heap.size := by omega
            cases hE : goodB (px ln k3) (py ln k3)
            · go_wp2_with (go_at_call 46; refine (goodSpec_e _ _ _).mono ?_; rintro e w8 ⟨rfl, hb8⟩)
              go_roundw
              case rel =>
                have hb58 : Below wr.heap.size wr w8 := grew (by go_grown) hb8
                first | exact ⟨k3 + 1, o, by omega, by go_num, row_later hown3 hb58, HG.out, grew hbr3 hb58⟩ | (refine ⟨_, _, _, _, _, _, _, _, _, _, _, _, _, ⟨k3 + 1, o, by omega, ?_, row_later hown3 hb58, HG.out, grew hbr3 hb58⟩, rfl⟩; go_num)
              case measure => simp [intOf]; omega
            · have HB0 := hid (box0 wr (px ln k3) (py ln k3) 26)
              have HB1 := hid (box1 wr (px ln k3) (py ln k3) 26)
              go_wp2_with (first | (go_at_call 46; refine (goodSpec_e _ _ _).mono ?_; rintro e w8 ⟨rfl, hb8⟩; have c0 := cell_later hb8 HB0.out; have c1 := cell_later hb8 HB1.out; have hb58 : Below wr.heap.size wr w8 := grew (by go_grown) hb8; have hown8 := row_later hown3 hb58; have hlt8 : wr.heap.size < w8.heap.size := World.block_lt_of_cell? w8 _ c0; have hs8 : w5.heap.size ≤ w8.heap.size := by omega) | (at_builtin; refine wpList_append_own _ rfl (.tmp 68) (.tmp 70) 33 rfl w5.heap.size 26 i0 _ 2 16 Tryd.underlying33 hi hz0 hz1 hz2 rfl (by decide) _ _ _ rfl (hown8.alloc _) _ 1 1 (cells [(px ln k3, py ln k3)]) rfl rfl (one_src w8 _ _ _ rfl) (cells_ones _) (by unfold maxLen; omega) (by omega) (by simp; omega) ?_; intro v9 w9 hown9 hgrow9 _))
              go_roundw
              case rel =>
                have hR9 : w9.ownsRow w5.heap.size 26 2 v9 (o ++ [(px ln k3, py ln k3)]).length (cells (o ++ [(px ln k3, py ln k3)])) := by
                  rw [List.length_append, cells_append]; exact hown9
                have hG9 : ∀ p ∈ o ++ [(px ln k3, py ln k3)], goodB p.1 p.2 = true := by
                  intro p hp
                  rcases List.mem_append.1 hp with h | h
                  · exact HG.out p h
                  · obtain rfl := List.mem_singleton.1 h
                    exact hE
                have hB9 : Below w5.heap.size w5 w9 := grown_own (grew hbr3 hb58) (by go_grown) hgrow9 hown8
                first | exact ⟨k3 + 1, o ++ [(px ln k3, py ln k3)], ⟨by omega, by simp; omega⟩, by go_num, hR9, hG9, hB9⟩ | (refine ⟨_, _, _, _, _, _, _, _, _, _, _, _, _, ⟨k3 + 1, o ++ [(px ln k3, py ln k3)], ⟨by omega, by simp; omega⟩, ?_, hR9, hG9, hB9⟩, rfl⟩; go_num)
              case measure => simp [intOf]; omega
          · go_wp2
            go_ret
            exact ⟨_, rfl, o, (own_of hown3).mono HY5.out.size, by omega, (by first | exact HG.out | exact fun a b h => HG.out (a, b) h), (HR5.out.below (hbr3.mono (by have := HY5.out.size; omega))).mono (by omega), HY5.out.trans (Only.ofBelow hbr3)⟩
end Go.Proofs.YtipiamhnngmjmaaDoor
