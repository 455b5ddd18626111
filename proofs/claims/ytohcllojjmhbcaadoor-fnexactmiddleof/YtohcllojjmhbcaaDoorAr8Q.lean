/-
  The middle of a hull, as the program reckons it (contracts for the walks).
  Conditions: as each theorem states them.
-/
import Derived.Test.YtohcllojjmhbcaaDoorAr8M
namespace Go.Proofs.YtohcllojjmhbcaaDoor
open Go.RowKit Go.Shelf
set_option linter.unusedVariables false
set_option maxRecDepth 8000
/-- What the first k triangles of the fan weigh. -/
def wgtL (l : List (Int × Int)) : Nat → List (Int × Int)
  | 0 => []
  | k + 1 => wgtL l k ++ [wgt (pt l 0) (pt l (k + 1)) (pt l (k + 2))]
theorem wgtL_len (l : List (Int × Int)) : ∀ k, (wgtL l k).length = k
  | 0 => rfl
  | k + 1 => by unfold wgtL; rw [List.length_append, wgtL_len l k]; rfl
theorem wgtL_at (l : List (Int × Int)) : ∀ (n i : Nat), i < n → pt (wgtL l n) i = wgt (pt l 0) (pt l (i + 1)) (pt l (i + 2))
  | 0, i, h => absurd h (Nat.not_lt_zero _)
  | n + 1, i, h => by
    have hl := wgtL_len l n
    by_cases hi : i < n
    · rw [← wgtL_at l n i hi]
      exact pt_app_l (l := wgtL l n) (i := i) (by omega)
    · obtain rfl : i = n := by omega
      have := pt_app_r (l := wgtL l i) (p := wgt (pt l 0) (pt l (i + 1)) (pt l (i + 2)))
      rw [hl] at this
      exact this
theorem wgtL_sum (l : List (Int × Int)) (n : Nat) : ∀ k, k ≤ n → sumT (px (wgtL l n)) k = (midT l k).1 ∧ sumT (py (wgtL l n)) k = (midT l k).2
  | 0, _ => ⟨rfl, rfl⟩
  | k + 1, h => by
    obtain ⟨h1, h2⟩ := wgtL_sum l n k (by omega)
    have h3 := wgtL_at l n k (by omega)
    have hx : px (wgtL l n) k = (wgt (pt l 0) (pt l (k + 1)) (pt l (k + 2))).1 := by rw [← h3]; rfl
    have hy : py (wgtL l n) k = (wgt (pt l 0) (pt l (k + 1)) (pt l (k + 2))).2 := by rw [← h3]; rfl
    unfold sumT midT
    rw [h1, h2, hx, hy]
    exact ⟨rfl, rfl⟩
set_option maxHeartbeats 8000000 in
theorem middleImpl_c (l : List (Int × Int)) (a : Option Addr) (len cap : Nat) (w : World) (hl : l.length = len) (h1 : len ≤ 1048576) (hA : At w.heap.size a l w) (c0 : w.cell? ⟨0, 0, none⟩ = some (.int .i64 1000000)) (c3 : w.cell? ⟨0, 3, none⟩ = some (.int .i64 40)) :
    Calls Tryd.prog 21 #[.slice a len cap] w fun e w' => e = .returned (.tuple #[.agg #[.int .i64 (mdV l).1, .int .i64 (mdV l).2], .int .i64 (mdN l), .bool (mdOk l)]) ∧ Below w.heap.size w w' := by
  subst hl
  have HA := hid hA
  have C0 := hid c0
  have C3 := hid c3
  clear hA c0 c3
  have hb0 : Below w.heap.size w (w.alloc (.cells #[.int .i64 0, .int .i64 0] 26)) := by go_grown
  have K2 : BoxP (w.alloc (.cells #[.int .i64 0, .int .i64 0] 26)) w.heap.size (0, 0) := BoxP.new w 0 0
  cases hS : shB l
  · have E : mdOk l = false := by unfold mdOk; rw [hS]; rfl
    go_enter Tryd.func21, Tryd.ntmps21
    go_upto_region 1 with fail
    generalize (w.alloc (.cells #[.int .i64 0, .int .i64 0] 26)) = w0 at *
    go_upto_region 2 with (go_at_call 51; refine (smallImpl_c l _ _ _ _ rfl h1 ((HA.out.later hb0).mono hb0.size) (cell_later hb0 C0.out) (cell_later hb0 C3.out)).mono ?_; rw [hS]; rintro e w1 ⟨rfl, hb1⟩; replace K2 := K2.later hb1; have hbw := grew hb0 hb1; clear hb1)
    obtain ⟨B2, hB2⟩ : ∃ b, w.heap.size = b := ⟨_, rfl⟩
    rw [hB2] at K2 hbw ⊢
    have f20 := K2.f 0
    have f21 := K2.f 1
    have c20 := K2.c0
    have c21 := K2.c1
    go_wp2
    clear f20 f21 c20 c21
    replace hbw := (hbw.setCell (p := ⟨B2, 0, none⟩) (Nat.le_refl _) (.int .i64 0)).setCell (p := ⟨B2, 1, none⟩) (Nat.le_refl _) (.int .i64 0)
    replace K2 := K2.set 0 0
    generalize (w1.setCell ⟨B2, 0, none⟩ (.int .i64 0)).setCell ⟨B2, 1, none⟩ (.int .i64 0) = w2 at *
    have c20 := K2.c0
    have c21 := K2.c1
    refine bodyPost_ret (v := .tuple #[.agg #[.int .i64 0, .int .i64 0], .int .i64 0, .bool false]) (by simp [results, Tryd.results21, go_sem, c20, c21]) rfl ?_
    exact ⟨ret_mid (a := (0, 0)) (by unfold mdV; rw [E]; rfl) (by unfold mdN; rw [E]; rfl) (by first | rfl | exact E.symm), by first | exact hbw | (rw [hB2]; exact hbw) | (rw [← hB2] at hbw; exact hbw) | (rw [hB2] at hbw; exact hbw)⟩

  by_cases h3 : (l.length : Int) < 3
  · have E : mdOk l = false := by unfold mdOk; rw [hS, decide_eq_false (by omega)]; rfl
    go_enter Tryd.func21, Tryd.ntmps21
    go_upto_region 1 with fail
    generalize (w.alloc (.cells #[.int .i64 0, .int .i64 0] 26)) = w0 at *
    go_upto_region 2 with (go_at_call 51; refine (smallImpl_c l _ _ _ _ rfl h1 ((HA.out.later hb0).mono hb0.size) (cell_later hb0 C0.out) (cell_later hb0 C3.out)).mono ?_; rw [hS]; rintro e w1 ⟨rfl, hb1⟩; replace K2 := K2.later hb1; have hbw := grew hb0 hb1; clear hb1)
    obtain ⟨B2, hB2⟩ : ∃ b, w.heap.size = b := ⟨_, rfl⟩
    rw [hB2] at K2 hbw ⊢
    have f20 := K2.f 0
    have f21 := K2.f 1
    have c20 := K2.c0
    have c21 := K2.c1
    go_wp2
    clear f20 f21 c20 c21
    replace hbw := (hbw.setCell (p := ⟨B2, 0, none⟩) (Nat.le_refl _) (.int .i64 0)).setCell (p := ⟨B2, 1, none⟩) (Nat.le_refl _) (.int .i64 0)
    replace K2 := K2.set 0 0
    generalize (w1.setCell ⟨B2, 0, none⟩ (.int .i64 0)).setCell ⟨B2, 1, none⟩ (.int .i64 0) = w2 at *
    have c20 := K2.c0
    have c21 := K2.c1
    refine bodyPost_ret (v := .tuple #[.agg #[.int .i64 0, .int .i64 0], .int .i64 0, .bool false]) (by simp [results, Tryd.results21, go_sem, c20, c21]) rfl ?_
    exact ⟨ret_mid (a := (0, 0)) (by unfold mdV; rw [E]; rfl) (by unfold mdN; rw [E]; rfl) (by first | rfl | exact E.symm), by first | exact hbw | (rw [hB2]; exact hbw) | (rw [← hB2] at hbw; exact hbw) | (rw [hB2] at hbw; exact hbw)⟩

  · have E : mdOk l = true := by unfold mdOk; rw [hS, decide_eq_true (by omega)]; rfl
    have HG := hid (ghB_all (shB_gh hS))
    have HP := hid (shB_sp hS)
    have H60 := hid (ghB_len (shB_gh hS))
    obtain ⟨i0, hi, hz0, hz1, hz2⟩ := info_parts info_pt
    go_enter Tryd.func21, Tryd.ntmps21
    go_upto_region 1 with fail
    generalize (w.alloc (.cells #[.int .i64 0, .int .i64 0] 26)) = w0 at *
    obtain ⟨n, hn⟩ : ∃ n, l.length - 2 = n := ⟨_, rfl⟩
    have HN := hid hn
    have hn1 : 1 ≤ n := by omega
    have hn60 : n ≤ 58 := by have := H60.out; omega
    go_upto_region 5 with (first
      | (go_at_call 51; refine (smallImpl_c l _ _ _ _ rfl h1 ((HA.out.later hb0).mono hb0.size) (cell_later hb0 C0.out) (cell_later hb0 C3.out)).mono ?_; rw [hS]; rintro e w1 ⟨rfl, hb1⟩; replace K2 := K2.later hb1; have hbw := grew hb0 hb1; clear hb1)
      | (go_at_call 52; refine (fanOf_c l _ _ _ _ rfl H60.out ((HA.out.later hbw).mono hbw.size)).mono ?_; rw [HN.out]; rintro e wf ⟨v, rfl, hO, hb2⟩; replace K2 := K2.later hb2; replace hbw := grew hbw hb2; clear hb2; obtain ⟨a3, c3, hv3, hg3⟩ := ownsRow_shape hO; obtain ⟨g, rfl⟩ := hg3 (by omega); subst hv3; have HO := hid hO; clear hO hg3))
    have hB2 : w.heap.size < wf.heap.size := K2.lt
    go_loopw [5, 20] (fun p i wr => ∃ k : Nat, k ≤ n ∧ i = .int .i64 (k : Int) ∧ OwnC wf.heap.size p (wgtL l k) wr ∧ Below wf.heap.size wf wr) (fun _ i _ => n - (intOf i).toNat)
    case atStart => exact ⟨0, Nat.zero_le _, rfl, OwnC.nil _ _, Below.refl _ _⟩
    case round =>
      obtain ⟨k, hk, rfl, hC, hbf⟩ := hrel
      by_cases hkl : k < n
      · obtain ⟨q0, q1, q2, q3, q4, q5⟩ := fan_cells (ownsRow_later HO.out hbf) hkl
        have s0 := HP.out _ (pt_mem (l := l) (i := 0) (by omega))
        have s1 := HP.out _ (pt_mem (l := l) (i := k + 1) (by omega))
        have s2 := HP.out _ (pt_mem (l := l) (i := k + 2) (by omega))
        have HT := hid (show wgtL l (k + 1) = wgtL l k ++ [wgt (pt l 0) (pt l (k + 1)) (pt l (k + 2))] from rfl)
        simp only [pt] at s0 s1 s2 HT
        obtain ⟨x0, hx0⟩ : ∃ x, px l 0 = x := ⟨_, rfl⟩
        obtain ⟨y0, hy0⟩ : ∃ x, py l 0 = x := ⟨_, rfl⟩
        obtain ⟨x1, hx1⟩ : ∃ x, px l (k + 1) = x := ⟨_, rfl⟩
        obtain ⟨y1, hy1⟩ : ∃ x, py l (k + 1) = x := ⟨_, rfl⟩
        obtain ⟨x2, hx2⟩ : ∃ x, px l (k + 2) = x := ⟨_, rfl⟩
        obtain ⟨y2, hy2⟩ : ∃ x, py l (k + 2) = x := ⟨_, rfl⟩
        rw [hx0, hy0] at s0
        rw [hx1, hy1] at s1
        rw [hx2, hy2] at s2
        rw [hx0, hy0, hx1, hy1, hx2, hy2] at HT
        rw [hx0] at q0
        rw [hy0] at q1
        rw [hx1] at q2
        rw [hy1] at q3
        rw [hx2] at q4
        rw [hy2] at q5
        clear hx0 hy0 hx1 hy1 hx2 hy2
        have HB := hid (fun (u : World) => balance_c x0 y0 x1 y1 x2 y2 u s0 s1 s2)
        obtain ⟨⟨WX, WY⟩, hW⟩ : ∃ p, wgt (x0, y0) (x1, y1) (x2, y2) = p := ⟨_, rfl⟩
        rw [hW] at HB HT
        dsimp only at HB
        clear hW s0 s1 s2
        have hlen : (wgtL l k).length + 1 ≤ 1048576 := by rw [wgtL_len]; omega
        generalize wgtL l k = R at hC HT hlen
        have HC := hid hC
        obtain ⟨a4, c4, hv4⟩ := hC.shape
        subst hv4
        have hsz := hbf.size
        have k0 : (0 : Int) ≤ (k : Int) := by omega
        have k1 : (k : Int) < (n : Int) := by omega
        clear hC
        go_upto_region 7 with fail
        have hbA : Below wr.heap.size wr (wr.alloc (.cells #[.int .i64 x0, .int .i64 y0, .int .i64 x1, .int .i64 y1, .int .i64 x2, .int .i64 y2] 69)) := by go_grown
        have d0 : (wr.alloc (.cells #[.int .i64 x0, .int .i64 y0, .int .i64 x1, .int .i64 y1, .int .i64 x2, .int .i64 y2] 69)).cell? ⟨wr.heap.size, 0, none⟩ = some (.int .i64 x0) := by simp [go_sem]
        have d1 : (wr.alloc (.cells #[.int .i64 x0, .int .i64 y0, .int .i64 x1, .int .i64 y1, .int .i64 x2, .int .i64 y2] 69)).cell? ⟨wr.heap.size, 1, none⟩ = some (.int .i64 y0) := by simp [go_sem]
        have d2 : (wr.alloc (.cells #[.int .i64 x0, .int .i64 y0, .int .i64 x1, .int .i64 y1, .int .i64 x2, .int .i64 y2] 69)).cell? ⟨wr.heap.size, 2, none⟩ = some (.int .i64 x1) := by simp [go_sem]
        have d3 : (wr.alloc (.cells #[.int .i64 x0, .int .i64 y0, .int .i64 x1, .int .i64 y1, .int .i64 x2, .int .i64 y2] 69)).cell? ⟨wr.heap.size, 3, none⟩ = some (.int .i64 y1) := by simp [go_sem]
        have d4 : (wr.alloc (.cells #[.int .i64 x0, .int .i64 y0, .int .i64 x1, .int .i64 y1, .int .i64 x2, .int .i64 y2] 69)).cell? ⟨wr.heap.size, 4, none⟩ = some (.int .i64 x2) := by simp [go_sem]
        have d5 : (wr.alloc (.cells #[.int .i64 x0, .int .i64 y0, .int .i64 x1, .int .i64 y1, .int .i64 x2, .int .i64 y2] 69)).cell? ⟨wr.heap.size, 5, none⟩ = some (.int .i64 y2) := by simp [go_sem]
        generalize wr.alloc (.cells #[.int .i64 x0, .int .i64 y0, .int .i64 x1, .int .i64 y1, .int .i64 x2, .int .i64 y2] 69) = wx at *
        clear q0 q1 q2 q3 q4 q5
        go_wp2_with (first
          | (go_at_call 53; refine (HB.out _).mono ?_; rintro e wy ⟨rfl, hby⟩; have hbq := grew hbA hby; have hsy : wf.heap.size ≤ wy.heap.size := (Nat.le_trans hsz hbq.size))
          | (at_builtin; refine wpList_append_cut rfl (.tmp 24) (.tmp 27) 24 rfl wf.heap.size Tryd.underlying24 hi hz0 hz1 hz2 (by rfl) _ R [(WX, WY)] rfl (HC.out.later (grew hbq (by go_grown))) _ _ _ rfl rfl (fun j u hu => one_src _ WX WY _ rfl j u hu) (by simp) (by simpa using hlen) (by simp; omega) ?_; intro g4 cp w4 hO4 hg4 _; obtain ⟨ln, hln⟩ : ∃ ln, R.length + [(WX, WY)].length = ln := ⟨_, rfl⟩; rw [hln] at hO4 ⊢; clear hln; have hB4 := OwnC.grownBelow (HC.out.later (grew hbq (by go_grown))) hg4 (by simp; omega); have HX := hid hO4; have HB4 := hid hB4; clear hg4 hO4 hB4))
        go_roundw
        case rel => exact ⟨k + 1, by omega, by go_num, by rw [HT.out]; exact HX.out, ((hbf.trans (hbq.mono hsz)).trans (by go_grown)).trans HB4.out⟩
        case measure => simp [intOf]; omega
      · obtain rfl : k = n := by omega
        have e : mdV l = midT l k := by
          unfold mdV
          rw [E, if_pos rfl, HN.out]
        have eN : mdN l = 3 * area8 l := by unfold mdN; rw [E, if_pos rfl]
        have ha := area8_small HG.out H60.out
        have hw3 : IntKind.i64.wrap (3 * area8 l) = 3 * area8 l := by rw [IntKind.wrap_i64]; omega
        have hml := wgtL_len l k
        obtain ⟨a4, c4, hv4⟩ := hC.shape
        subst hv4
        have hat := hC.at
        have HTG := hid (together_c (wgtL l k) a4 (wgtL l k).length c4 wr rfl (by omega) hat
          (fun j hj => by rw [(wgtL_sum l k j (by omega)).1, IntKind.wrap_i64]; have := midT_small HP.out j (by omega); omega)
          (fun j hj => by rw [(wgtL_sum l k j (by omega)).2, IntKind.wrap_i64]; have := midT_small HP.out j (by omega); omega))
        obtain ⟨hs1, hs2⟩ := wgtL_sum l k k (Nat.le_refl _)
        rw [hml, hs1, hs2] at HTG
        rw [hml]
        have hbw2 := hbw.trans (hbf.mono (by omega))
        have K2' := K2.later hbf
        have HAR := hid (fun (u : World) (hu : Below w.heap.size w u) => areaI_c l a l.length cap u rfl H60.out ((HA.out.later hu).mono hu.size) HG.out)
        generalize area8 l = AR at eN hw3 HAR
        have EV := hid e
        have EN := hid eN
        generalize midT l k = bm at EV HTG
        obtain ⟨B2, hB2e⟩ : ∃ b, w.heap.size = b := ⟨_, rfl⟩
        have hle : w.heap.size ≤ B2 := by omega
        rw [hB2e] at K2'
        clear e eN ha hC hat hs1 hs2 K2 hbw hbf hml
        go_upto_region 9 with fail
        simp only [hB2e]
        have HB2e := hid hB2e
        clear hB2e
        go_wp2_with (first
          | (go_at_call 54; refine HTG.out.mono ?_; rintro e w5 ⟨rfl, hb5⟩; replace hbw2 := grew hbw2 hb5; replace K2' := K2'.later hb5)
          | (go_at_call 45; refine (HAR.out _ hbw2).mono ?_; rintro e w6 ⟨rfl, hb6⟩; replace hbw2 := grew hbw2 hb6; replace K2' := K2'.later hb6; have f20 := K2'.f 0; have f21 := K2'.f 1; have c20 := K2'.c0; have c21 := K2'.c1))
        clear f20 f21 c20 c21
        replace hbw2 := (hbw2.setCell (p := ⟨B2, 0, none⟩) hle (.int .i64 bm.1)).setCell (p := ⟨B2, 1, none⟩) hle (.int .i64 bm.2)
        replace K2' := K2'.set bm.1 bm.2
        generalize (w6.setCell ⟨B2, 0, none⟩ (.int .i64 bm.1)).setCell ⟨B2, 1, none⟩ (.int .i64 bm.2) = w7 at *
        have c20 := K2'.c0
        have c21 := K2'.c1
        refine bodyPost_ret (v := .tuple #[.agg #[.int .i64 bm.1, .int .i64 bm.2], .int .i64 (3 * AR), .bool true]) (by simp [results, Tryd.results21, go_sem, c20, c21]) rfl ?_
        exact ⟨ret_mid EV.out.symm EN.out.symm (by first | rfl | exact E.symm), by first | exact hbw2 | (rw [← HB2e.out]; exact hbw2) | (rw [HB2e.out] at hbw2; exact hbw2)⟩
end Go.Proofs.YtohcllojjmhbcaaDoor
