/-
  Whether two points of a hull stand across from one another, as the specification asks it (contracts for the walks).
  Conditions: as each theorem states them.
-/
import Derived.Test.YtipiamhnngmjmaaDoorAc2
namespace Go.Proofs.YtipiamhnngmjmaaDoor
open Go.RowKit Go.Shelf
set_option linter.unusedVariables false
set_option maxRecDepth 8000
theorem holdsS_q (l : List (Int × Int)) (k : Nat) (d0 d1 : Int) (t : Bool) (a : Option Addr) (len cap : Nat) (w : World) (hl : l.length = len) (h1 : len ≤ 1048576) (hk : k < len) (hA : At w.heap.size a l w) (HG : allG l) (hT : 0 < cx (sidE l k) (sid l k)) (hD : dirB (d0, d1)) (hn : (d0, d1) ≠ (0, 0)) (e : hldI (sidE l k) (sid l k) (d0, d1) = t) :
    Calls Tryd.prog 85 #[.slice a len cap, .int .i64 (k : Int), .agg #[.int .i64 d0, .int .i64 d1]] w fun e w' => e = .returned (.bool t) ∧ Below w.heap.size w w' := by
  rw [← e]; exact holdsS_c l k d0 d1 a len cap w hl h1 hk hA HG hT hD hn
/-- As the specification asks it of one direction. -/
def acD (e b e' b' d : Int × Int) : Bool := hldI e b d && hldI e' b' (ng d) || hldI e b (ng d) && hldI e' b' d
theorem four_D {e b e' b' : Int × Int} (h : 0 < cx e b) (h' : 0 < cx e' b') : (acD e b e' b' e || acD e b e' b' b || acD e b e' b' e' || acD e b e' b' b') = fourI e b e' b' := by
  unfold acD fourI acI
  rw [hld_neg_first h, hld_neg_last h, hld_neg_first h', hld_neg_last h', ng_ng, ng_ng]
  simp
def dirs (l : List (Int × Int)) (i j : Nat) : List (Int × Int) := [sidE l i, sid l i, sidE l j, sid l j]
def acN (l : List (Int × Int)) (i j k : Nat) : Bool := acD (sidE l i) (sid l i) (sidE l j) (sid l j) (pt (dirs l i j) k)
theorem acB_yes {l : List (Int × Int)} {i j k : Nat} (hi : 0 < cx (sidE l i) (sid l i)) (hj : 0 < cx (sidE l j) (sid l j)) (hk : k < 4) (h : acN l i j k = true) : acB l i j = true := by
  unfold acB
  rw [← four_D hi hj]
  unfold acN at h
  rcases (by omega : k = 0 ∨ k = 1 ∨ k = 2 ∨ k = 3) with rfl | rfl | rfl | rfl <;> (simp only [dirs, pt, px, py, List.getD_cons_zero, List.getD_cons_succ] at h; simp [h])
theorem acB_no {l : List (Int × Int)} {i j : Nat} (hi : 0 < cx (sidE l i) (sid l i)) (hj : 0 < cx (sidE l j) (sid l j)) (h : ∀ k, k < 4 → acN l i j k = false) : acB l i j = false := by
  unfold acB
  rw [← four_D hi hj]
  have h0 := h 0 (by omega)
  have h1 := h 1 (by omega)
  have h2 := h 2 (by omega)
  have h3 := h 3 (by omega)
  unfold acN at h0 h1 h2 h3
  simp only [dirs, pt, px, py, List.getD_cons_zero, List.getD_cons_succ] at h0 h1 h2 h3
  simp [h0, h1, h2, h3]
set_option maxHeartbeats 8000000 in
theorem acrossS_c (l : List (Int × Int)) (i j : Nat) (a : Option Addr) (len cap : Nat) (w : World) (hl : l.length = len) (h1 : len ≤ 1048576) (hi : i < len) (hj : j < len) (hA : At w.heap.size a l w) (HG : allG l) (HT : ∀ k, k < len → 0 < cx (sidE l k) (sid l k)) :
    Calls Tryd.prog 55 #[.slice a len cap, .int .i64 (i : Int), .int .i64 (j : Int)] w fun e w' => e = .returned (.bool (acB l i j)) ∧ Below w.heap.size w w' := by
  subst hl
  replace HG := hid HG
  have HA := hid hA
  clear hA
  have h0 : 0 < l.length := by omega
  have HTi := hid (HT i hi)
  have HTj := hid (HT j hj)
  obtain ⟨⟨p0, p1⟩, e1⟩ : ∃ e, sidE l i = e := ⟨_, rfl⟩
  obtain ⟨⟨p2, p3⟩, e2⟩ : ∃ e, sid l i = e := ⟨_, rfl⟩
  obtain ⟨⟨p4, p5⟩, e3⟩ : ∃ e, sidE l j = e := ⟨_, rfl⟩
  obtain ⟨⟨p6, p7⟩, e4⟩ : ∃ e, sid l j = e := ⟨_, rfl⟩
  obtain ⟨i1, hi1⟩ : ∃ q, i + l.length - 1 = q := ⟨_, rfl⟩
  obtain ⟨j1, hj1⟩ : ∃ q, j + l.length - 1 = q := ⟨_, rfl⟩
  have HE1 := hid (show vec (pt l (i1 % l.length)) (pt l ((i1 + 1) % l.length)) = (p0, p1) by rw [← hi1, sidE_eq, e1])
  have HE2 := hid (show vec (pt l (i % l.length)) (pt l ((i + 1) % l.length)) = (p2, p3) by rw [sid_eq hi, e2])
  have HE3 := hid (show vec (pt l (j1 % l.length)) (pt l ((j1 + 1) % l.length)) = (p4, p5) by rw [← hj1, sidE_eq, e3])
  have HE4 := hid (show vec (pt l (j % l.length)) (pt l ((j + 1) % l.length)) = (p6, p7) by rw [sid_eq hj, e4])
  have HD : Hid (dirs l i j = [(p0, p1), (p2, p3), (p4, p5), (p6, p7)]) := by show _ = _; unfold dirs; rw [e1, e2, e3, e4]
  have HB : Hid (∀ k, k < 4 → dirB (pt (dirs l i j) k) ∧ pt (dirs l i j) k ≠ (0, 0)) := fun k hk => by
    rcases (by omega : k = 0 ∨ k = 1 ∨ k = 2 ∨ k = 3) with rfl | rfl | rfl | rfl
    · exact ⟨sidE_dir HG.out h0 i, cx_left HTi.out⟩
    · exact ⟨sid_dir HG.out h0 hi, cx_right HTi.out⟩
    · exact ⟨sidE_dir HG.out h0 j, cx_left HTj.out⟩
    · exact ⟨sid_dir HG.out h0 hj, cx_right HTj.out⟩
  clear e1 e2 e3 e4 HT
  have tk1 : True := trivial
  have tk2 : True := trivial
  have tk3 : True := trivial
  have hbw : Below w.heap.size w w := Below.refl _ _
  go_enter Tryd.func55, Tryd.ntmps55
  go_wp2_with (first
    | (go_at_call 84; clear tk1; refine (sideS_z l _ i1 p0 p1 _ _ _ _ (by first | omega | (unfold wrap64; omega)) rfl h1 h0 (by omega) ((HA.out.later hbw).mono hbw.size) HG.out HE1.out).mono ?_; rintro e s1 ⟨rfl, hb⟩; replace hbw := grew hbw hb; clear hb)
    | (go_at_call 84; clear tk2; refine (sideS_z l _ i p2 p3 _ _ _ _ (rfl) rfl h1 h0 (by omega) ((HA.out.later hbw).mono hbw.size) HG.out HE2.out).mono ?_; rintro e s2 ⟨rfl, hb⟩; replace hbw := grew hbw hb; clear hb)
    | (go_at_call 84; clear tk3; refine (sideS_z l _ j1 p4 p5 _ _ _ _ (by first | omega | (unfold wrap64; omega)) rfl h1 h0 (by omega) ((HA.out.later hbw).mono hbw.size) HG.out HE3.out).mono ?_; rintro e s3 ⟨rfl, hb⟩; replace hbw := grew hbw hb; clear hb)
    | (go_at_call 84; refine (sideS_z l _ j p6 p7 _ _ _ _ (rfl) rfl h1 h0 (by omega) ((HA.out.later hbw).mono hbw.size) HG.out HE4.out).mono ?_; rintro e s4 ⟨rfl, hb⟩; replace hbw := grew hbw hb; clear hb))
  have hZ : ∀ k, k < 4 → ∃ d0 d1, pt [(p0, p1), (p2, p3), (p4, p5), (p6, p7)] k = (d0, d1) ∧ (s4.alloc (.cells #[.int .i64 p0, .int .i64 p1, .int .i64 p2, .int .i64 p3, .int .i64 p4, .int .i64 p5, .int .i64 p6, .int .i64 p7] 26)).cell? ⟨s4.heap.size, k * 2, none⟩ = some (.int .i64 d0) ∧ (s4.alloc (.cells #[.int .i64 p0, .int .i64 p1, .int .i64 p2, .int .i64 p3, .int .i64 p4, .int .i64 p5, .int .i64 p6, .int .i64 p7] 26)).cell? ⟨s4.heap.size, k * 2 + 1, none⟩ = some (.int .i64 d1) := fun k hk => by
    rcases (by omega : k = 0 ∨ k = 1 ∨ k = 2 ∨ k = 3) with rfl | rfl | rfl | rfl
    · exact ⟨p0, p1, rfl, by simp [go_sem], by simp [go_sem]⟩
    · exact ⟨p2, p3, rfl, by simp [go_sem], by simp [go_sem]⟩
    · exact ⟨p4, p5, rfl, by simp [go_sem], by simp [go_sem]⟩
    · exact ⟨p6, p7, rfl, by simp [go_sem], by simp [go_sem]⟩
  have hb8 : Below s4.heap.size s4 (s4.alloc (.cells #[.int .i64 p0, .int .i64 p1, .int .i64 p2, .int .i64 p3, .int .i64 p4, .int .i64 p5, .int .i64 p6, .int .i64 p7] 26)) := by go_grown
  replace hbw := grew hbw hb8
  have hgt : s4.heap.size < (s4.alloc (.cells #[.int .i64 p0, .int .i64 p1, .int .i64 p2, .int .i64 p3, .int .i64 p4, .int .i64 p5, .int .i64 p6, .int .i64 p7] 26)).heap.size := by simp
  clear hb8
  generalize s4.heap.size = B at hZ hgt ⊢
  generalize s4.alloc (.cells #[.int .i64 p0, .int .i64 p1, .int .i64 p2, .int .i64 p3, .int .i64 p4, .int .i64 p5, .int .i64 p6, .int .i64 p7] 26) = s5 at hZ hgt hbw ⊢
  have HZ := hid hZ
  clear hZ
  have HBW := hid hbw
  clear hbw
  go_loopw [33] (fun q wr => ∃ k : Nat, k ≤ 4 ∧ q = .int .i64 k ∧ (∀ m, m < k → acN l i j m = false) ∧ Below s5.heap.size s5 wr) (fun q _ => 4 - (intOf q).toNat)
  case atStart => exact ⟨0, by omega, rfl, fun m hm => absurd hm (Nat.not_lt_zero _), Below.refl _ _⟩
  case round =>
    obtain ⟨k, hk, rfl, hno, hbr⟩ := hrel
    have HNO := hid hno
    clear hno
    by_cases hk4 : k < 4
    · obtain ⟨d0, d1, hd, g0, g1⟩ := HZ.out k hk4
      have hDK := HB.out k hk4
      rw [HD.out, hd] at hDK
      have HDB := hid hDK.1
      have HDN := hid hDK.2
      have HGB := hid hDK.1.ng
      have HGN := hid (ng_ne hDK.2)
      have q0 := (hbr.cell (p := ⟨B, k * 2, none⟩) hgt).trans g0
      have q1 := (hbr.cell (p := ⟨B, k * 2 + 1, none⟩) hgt).trans g1
      obtain ⟨n0, hn0⟩ : ∃ n, 0 - d0 = n := ⟨_, rfl⟩
      obtain ⟨n1, hn1⟩ : ∃ n, 0 - d1 = n := ⟨_, rfl⟩
      have hng : ng (d0, d1) = (n0, n1) := by unfold ng; rw [← hn0, ← hn1]
      rw [hng] at HGB HGN
      have u0 : wrap64 (-d0) = n0 := by have := HDB.out.1; simp only at this; rw [wrap_in (by omega) (by omega)]; omega
      have u1 : wrap64 (-d1) = n1 := by have := HDB.out.2; simp only at this; rw [wrap_in (by omega) (by omega)]; omega
      obtain ⟨c1, hc1⟩ : ∃ c, hldI (sidE l i) (sid l i) (d0, d1) = c := ⟨_, rfl⟩
      obtain ⟨c2, hc2⟩ : ∃ c, hldI (sidE l j) (sid l j) (n0, n1) = c := ⟨_, rfl⟩
      obtain ⟨c3, hc3⟩ : ∃ c, hldI (sidE l i) (sid l i) (n0, n1) = c := ⟨_, rfl⟩
      obtain ⟨c4, hc4⟩ : ∃ c, hldI (sidE l j) (sid l j) (d0, d1) = c := ⟨_, rfl⟩
      have HAC := hid (show acN l i j k = (c1 && c2 || c3 && c4) by unfold acN acD; rw [HD.out, hd, hng, hc1, hc2, hc3, hc4])
      have HC1 := hid hc1
      have HC2 := hid hc2
      have HC3 := hid hc3
      have HC4 := hid hc4
      clear hc1 hc2 hc3 hc4 hng hn0 hn1 hd hDK g0 g1
      have i0 : (0 : Int) ≤ (k : Int) := by omega
      have i1 : (k : Int) < 4 := by omega
      go_upto_region 6 with fail
      have K9 := (BoxP.new wr d0 d1).later ((Below.refl _ (wr.alloc (.cells #[.int .i64 d0, .int .i64 d1] 26))).alloc (Nat.le_refl _) (.cells #[.int .i64 n0, .int .i64 n1] 26))
      have K10 := BoxP.new (wr.alloc (.cells #[.int .i64 d0, .int .i64 d1] 26)) n0 n1
      simp only [World.size_alloc] at K10
      have hb2 : Below wr.heap.size wr ((wr.alloc (.cells #[.int .i64 d0, .int .i64 d1] 26)).alloc (.cells #[.int .i64 n0, .int .i64 n1] 26)) := by go_grown
      have hbp := grew hbr hb2
      clear hb2 q0 q1 u0 u1 hbr
      generalize wr.heap.size + 1 = B10 at K10 ⊢
      generalize wr.heap.size = B9 at K9 ⊢
      generalize (wr.alloc (.cells #[.int .i64 d0, .int .i64 d1] 26)).alloc (.cells #[.int .i64 n0, .int .i64 n1] 26) = wp at K9 K10 hbp ⊢
      have k0 := K9.c0
      have k1 := K9.c1
      have k2 := K10.c0
      have k3 := K10.c1
      cases c1
      · cases c3
        · rw [show (false && c2 || false && c4) = false by simp] at HAC
          have tz1 : True := trivial
          have tz3 : True := trivial
          go_wp2_with (first
            | (go_at_call 85; clear tz1; refine (holdsS_q l i d0 d1 _ _ _ _ _ rfl h1 hi ((HA.out.later (grew HBW.out hbp)).mono (grew HBW.out hbp).size) HG.out HTi.out HDB.out HDN.out HC1.out).mono ?_; rintro e v1 ⟨rfl, hb⟩; replace K9 := K9.later hb; replace K10 := K10.later hb; replace hbp := grew hbp hb; clear hb; have k0 := K9.c0; have k1 := K9.c1; have k2 := K10.c0; have k3 := K10.c1)
            | (go_at_call 85; clear tz3; refine (holdsS_q l i n0 n1 _ _ _ _ _ rfl h1 hi ((HA.out.later (grew HBW.out hbp)).mono (grew HBW.out hbp).size) HG.out HTi.out HGB.out HGN.out HC3.out).mono ?_; rintro e v3 ⟨rfl, hb⟩; replace K9 := K9.later hb; replace K10 := K10.later hb; replace hbp := grew hbp hb; clear hb; have k0 := K9.c0; have k1 := K9.c1; have k2 := K10.c0; have k3 := K10.c1))
          go_roundw
          case rel =>
            refine ⟨k + 1, by omega, by go_num, fun m hm => ?_, hbp⟩
            by_cases hmk : m = k
            · subst hmk; exact HAC.out
            · exact HNO.out m (by omega)
          case measure => simp [intOf]; omega
        · cases c4
          · rw [show (false && c2 || true && false) = false by simp] at HAC
            have tz1 : True := trivial
            have tz3 : True := trivial
            have tz4 : True := trivial
            go_wp2_with (first
              | (go_at_call 85; clear tz1; refine (holdsS_q l i d0 d1 _ _ _ _ _ rfl h1 hi ((HA.out.later (grew HBW.out hbp)).mono (grew HBW.out hbp).size) HG.out HTi.out HDB.out HDN.out HC1.out).mono ?_; rintro e v1 ⟨rfl, hb⟩; replace K9 := K9.later hb; replace K10 := K10.later hb; replace hbp := grew hbp hb; clear hb; have k0 := K9.c0; have k1 := K9.c1; have k2 := K10.c0; have k3 := K10.c1)
              | (go_at_call 85; clear tz3; refine (holdsS_q l i n0 n1 _ _ _ _ _ rfl h1 hi ((HA.out.later (grew HBW.out hbp)).mono (grew HBW.out hbp).size) HG.out HTi.out HGB.out HGN.out HC3.out).mono ?_; rintro e v3 ⟨rfl, hb⟩; replace K9 := K9.later hb; replace K10 := K10.later hb; replace hbp := grew hbp hb; clear hb; have k0 := K9.c0; have k1 := K9.c1; have k2 := K10.c0; have k3 := K10.c1)
              | (go_at_call 85; clear tz4; refine (holdsS_q l j d0 d1 _ _ _ _ _ rfl h1 hj ((HA.out.later (grew HBW.out hbp)).mono (grew HBW.out hbp).size) HG.out HTj.out HDB.out HDN.out HC4.out).mono ?_; rintro e v4 ⟨rfl, hb⟩; replace K9 := K9.later hb; replace K10 := K10.later hb; replace hbp := grew hbp hb; clear hb; have k0 := K9.c0; have k1 := K9.c1; have k2 := K10.c0; have k3 := K10.c1))
            go_roundw
            case rel =>
              refine ⟨k + 1, by omega, by go_num, fun m hm => ?_, hbp⟩
              by_cases hmk : m = k
              · subst hmk; exact HAC.out
              · exact HNO.out m (by omega)
            case measure => simp [intOf]; omega
          · rw [show (false && c2 || true && true) = true by simp] at HAC
            have tz1 : True := trivial
            have tz3 : True := trivial
            have tz4 : True := trivial
            go_wp2_with (first
              | (go_at_call 85; clear tz1; refine (holdsS_q l i d0 d1 _ _ _ _ _ rfl h1 hi ((HA.out.later (grew HBW.out hbp)).mono (grew HBW.out hbp).size) HG.out HTi.out HDB.out HDN.out HC1.out).mono ?_; rintro e v1 ⟨rfl, hb⟩; replace K9 := K9.later hb; replace K10 := K10.later hb; replace hbp := grew hbp hb; clear hb; have k0 := K9.c0; have k1 := K9.c1; have k2 := K10.c0; have k3 := K10.c1)
              | (go_at_call 85; clear tz3; refine (holdsS_q l i n0 n1 _ _ _ _ _ rfl h1 hi ((HA.out.later (grew HBW.out hbp)).mono (grew HBW.out hbp).size) HG.out HTi.out HGB.out HGN.out HC3.out).mono ?_; rintro e v3 ⟨rfl, hb⟩; replace K9 := K9.later hb; replace K10 := K10.later hb; replace hbp := grew hbp hb; clear hb; have k0 := K9.c0; have k1 := K9.c1; have k2 := K10.c0; have k3 := K10.c1)
              | (go_at_call 85; clear tz4; refine (holdsS_q l j d0 d1 _ _ _ _ _ rfl h1 hj ((HA.out.later (grew HBW.out hbp)).mono (grew HBW.out hbp).size) HG.out HTj.out HDB.out HDN.out HC4.out).mono ?_; rintro e v4 ⟨rfl, hb⟩; replace K9 := K9.later hb; replace K10 := K10.later hb; replace hbp := grew hbp hb; clear hb; have k0 := K9.c0; have k1 := K9.c1; have k2 := K10.c0; have k3 := K10.c1))
            go_ret
            exact ⟨by rw [acB_yes HTi.out HTj.out hk4 HAC.out]; rfl, grew HBW.out hbp⟩
      · cases c2
        · cases c3
          · rw [show (true && false || false && c4) = false by simp] at HAC
            have tz1 : True := trivial
            have tz2 : True := trivial
            have tz3 : True := trivial
            go_wp2_with (first
              | (go_at_call 85; clear tz1; refine (holdsS_q l i d0 d1 _ _ _ _ _ rfl h1 hi ((HA.out.later (grew HBW.out hbp)).mono (grew HBW.out hbp).size) HG.out HTi.out HDB.out HDN.out HC1.out).mono ?_; rintro e v1 ⟨rfl, hb⟩; replace K9 := K9.later hb; replace K10 := K10.later hb; replace hbp := grew hbp hb; clear hb; have k0 := K9.c0; have k1 := K9.c1; have k2 := K10.c0; have k3 := K10.c1)
              | (go_at_call 85; clear tz2; refine (holdsS_q l j n0 n1 _ _ _ _ _ rfl h1 hj ((HA.out.later (grew HBW.out hbp)).mono (grew HBW.out hbp).size) HG.out HTj.out HGB.out HGN.out HC2.out).mono ?_; rintro e v2 ⟨rfl, hb⟩; replace K9 := K9.later hb; replace K10 := K10.later hb; replace hbp := grew hbp hb; clear hb; have k0 := K9.c0; have k1 := K9.c1; have k2 := K10.c0; have k3 := K10.c1)
              | (go_at_call 85; clear tz3; refine (holdsS_q l i n0 n1 _ _ _ _ _ rfl h1 hi ((HA.out.later (grew HBW.out hbp)).mono (grew HBW.out hbp).size) HG.out HTi.out HGB.out HGN.out HC3.out).mono ?_; rintro e v3 ⟨rfl, hb⟩; replace K9 := K9.later hb; replace K10 := K10.later hb; replace hbp := grew hbp hb; clear hb; have k0 := K9.c0; have k1 := K9.c1; have k2 := K10.c0; have k3 := K10.c1))
            go_roundw
            case rel =>
              refine ⟨k + 1, by omega, by go_num, fun m hm => ?_, hbp⟩
              by_cases hmk : m = k
              · subst hmk; exact HAC.out
              · exact HNO.out m (by omega)
            case measure => simp [intOf]; omega
          · cases c4
            · rw [show (true && false || true && false) = false by simp] at HAC
              have tz1 : True := trivial
              have tz2 : True := trivial
              have tz3 : True := trivial
              have tz4 : True := trivial
              go_wp2_with (first
                | (go_at_call 85; clear tz1; refine (holdsS_q l i d0 d1 _ _ _ _ _ rfl h1 hi ((HA.out.later (grew HBW.out hbp)).mono (grew HBW.out hbp).size) HG.out HTi.out HDB.out HDN.out HC1.out).mono ?_; rintro e v1 ⟨rfl, hb⟩; replace K9 := K9.later hb; replace K10 := K10.later hb; replace hbp := grew hbp hb; clear hb; have k0 := K9.c0; have k1 := K9.c1; have k2 := K10.c0; have k3 := K10.c1)
                | (go_at_call 85; clear tz2; refine (holdsS_q l j n0 n1 _ _ _ _ _ rfl h1 hj ((HA.out.later (grew HBW.out hbp)).mono (grew HBW.out hbp).size) HG.out HTj.out HGB.out HGN.out HC2.out).mono ?_; rintro e v2 ⟨rfl, hb⟩; replace K9 := K9.later hb; replace K10 := K10.later hb; replace hbp := grew hbp hb; clear hb; have k0 := K9.c0; have k1 := K9.c1; have k2 := K10.c0; have k3 := K10.c1)
                | (go_at_call 85; clear tz3; refine (holdsS_q l i n0 n1 _ _ _ _ _ rfl h1 hi ((HA.out.later (grew HBW.out hbp)).mono (grew HBW.out hbp).size) HG.out HTi.out HGB.out HGN.out HC3.out).mono ?_; rintro e v3 ⟨rfl, hb⟩; replace K9 := K9.later hb; replace K10 := K10.later hb; replace hbp := grew hbp hb; clear hb; have k0 := K9.c0; have k1 := K9.c1; have k2 := K10.c0; have k3 := K10.c1)
                | (go_at_call 85; clear tz4; refine (holdsS_q l j d0 d1 _ _ _ _ _ rfl h1 hj ((HA.out.later (grew HBW.out hbp)).mono (grew HBW.out hbp).size) HG.out HTj.out HDB.out HDN.out HC4.out).mono ?_; rintro e v4 ⟨rfl, hb⟩; replace K9 := K9.later hb; replace K10 := K10.later hb; replace hbp := grew hbp hb; clear hb; have k0 := K9.c0; have k1 := K9.c1; have k2 := K10.c0; have k3 := K10.c1))
              go_roundw
              case rel =>
                refine ⟨k + 1, by omega, by go_num, fun m hm => ?_, hbp⟩
                by_cases hmk : m = k
                · subst hmk; exact HAC.out
                · exact HNO.out m (by omega)
              case measure => simp [intOf]; omega
            · rw [show (true && false || true && true) = true by simp] at HAC
              have tz1 : True := trivial
              have tz2 : True := trivial
              have tz3 : True := trivial
              have tz4 : True := trivial
              go_wp2_with (first
                | (go_at_call 85; clear tz1; refine (holdsS_q l i d0 d1 _ _ _ _ _ rfl h1 hi ((HA.out.later (grew HBW.out hbp)).mono (grew HBW.out hbp).size) HG.out HTi.out HDB.out HDN.out HC1.out).mono ?_; rintro e v1 ⟨rfl, hb⟩; replace K9 := K9.later hb; replace K10 := K10.later hb; replace hbp := grew hbp hb; clear hb; have k0 := K9.c0; have k1 := K9.c1; have k2 := K10.c0; have k3 := K10.c1)
                | (go_at_call 85; clear tz2; refine (holdsS_q l j n0 n1 _ _ _ _ _ rfl h1 hj ((HA.out.later (grew HBW.out hbp)).mono (grew HBW.out hbp).size) HG.out HTj.out HGB.out HGN.out HC2.out).mono ?_; rintro e v2 ⟨rfl, hb⟩; replace K9 := K9.later hb; replace K10 := K10.later hb; replace hbp := grew hbp hb; clear hb; have k0 := K9.c0; have k1 := K9.c1; have k2 := K10.c0; have k3 := K10.c1)
                | (go_at_call 85; clear tz3; refine (holdsS_q l i n0 n1 _ _ _ _ _ rfl h1 hi ((HA.out.later (grew HBW.out hbp)).mono (grew HBW.out hbp).size) HG.out HTi.out HGB.out HGN.out HC3.out).mono ?_; rintro e v3 ⟨rfl, hb⟩; replace K9 := K9.later hb; replace K10 := K10.later hb; replace hbp := grew hbp hb; clear hb; have k0 := K9.c0; have k1 := K9.c1; have k2 := K10.c0; have k3 := K10.c1)
                | (go_at_call 85; clear tz4; refine (holdsS_q l j d0 d1 _ _ _ _ _ rfl h1 hj ((HA.out.later (grew HBW.out hbp)).mono (grew HBW.out hbp).size) HG.out HTj.out HDB.out HDN.out HC4.out).mono ?_; rintro e v4 ⟨rfl, hb⟩; replace K9 := K9.later hb; replace K10 := K10.later hb; replace hbp := grew hbp hb; clear hb; have k0 := K9.c0; have k1 := K9.c1; have k2 := K10.c0; have k3 := K10.c1))
              go_ret
              exact ⟨by rw [acB_yes HTi.out HTj.out hk4 HAC.out]; rfl, grew HBW.out hbp⟩
        · rw [show (true && true || c3 && c4) = true by simp] at HAC
          have tz1 : True := trivial
          have tz2 : True := trivial
          go_wp2_with (first
            | (go_at_call 85; clear tz1; refine (holdsS_q l i d0 d1 _ _ _ _ _ rfl h1 hi ((HA.out.later (grew HBW.out hbp)).mono (grew HBW.out hbp).size) HG.out HTi.out HDB.out HDN.out HC1.out).mono ?_; rintro e v1 ⟨rfl, hb⟩; replace K9 := K9.later hb; replace K10 := K10.later hb; replace hbp := grew hbp hb; clear hb; have k0 := K9.c0; have k1 := K9.c1; have k2 := K10.c0; have k3 := K10.c1)
            | (go_at_call 85; clear tz2; refine (holdsS_q l j n0 n1 _ _ _ _ _ rfl h1 hj ((HA.out.later (grew HBW.out hbp)).mono (grew HBW.out hbp).size) HG.out HTj.out HGB.out HGN.out HC2.out).mono ?_; rintro e v2 ⟨rfl, hb⟩; replace K9 := K9.later hb; replace K10 := K10.later hb; replace hbp := grew hbp hb; clear hb; have k0 := K9.c0; have k1 := K9.c1; have k2 := K10.c0; have k3 := K10.c1))
          go_ret
          exact ⟨by rw [acB_yes HTi.out HTj.out hk4 HAC.out]; rfl, grew HBW.out hbp⟩
    · obtain rfl : k = 4 := by omega
      go_wp2
      go_ret
      exact ⟨by rw [acB_no HTi.out HTj.out HNO.out]; rfl, grew HBW.out hbr⟩
end Go.Proofs.YtipiamhnngmjmaaDoor
