/-
  Going round a set from corner to corner, in the specification (contracts for the walks).
  Conditions: as each theorem states them.
-/
import Derived.Test.YtcghpepkphphbaaGreatDoorHWrapQ
import Derived.Test.YtcghpepkphphbaaGreatDoorHWrapd
namespace Go.Proofs.YtcghpepkphphbaaGreatDoor
open Go.RowKit Go.Shelf
set_option linter.unusedVariables false
set_option maxRecDepth 8000
theorem far_c (ax ay bx b_y x y : Int) (w : World) : Calls Tryz.prog 30 #[.agg #[.int .i64 ax, .int .i64 ay], .agg #[.int .i64 bx, .int .i64 b_y], .agg #[.int .i64 x, .int .i64 y]] w fun e w' => e = .returned (.bool (farB (ax, ay) (bx, b_y) (x, y))) ∧ Below w.heap.size w w' := by
  go_enter Tryz.func30, Tryz.ntmps30
  go_wp2_with (go_at_call 56; refine (dot_c _ _ _ _ _ _ _).mono ?_; rintro e w' ⟨rfl, hb⟩)
  go_ret
  exact ⟨ret_bool (by unfold farB; simp <;> rfl), (by go_grown : Below w.heap.size w _).trans (hb.mono (by go_size))⟩
/-- Gone round, with the last point known. -/
structure TripL (s : List (Int × Int)) (f : Int × Int) (R r : List (Int × Int)) (a : Int × Int) : Prop where
  trip : Trip s f R r a
  last : pt r (r.length - 1) = a
  head : pt r 0 = f
theorem TripL.start {f : Int × Int} {t : List (Int × Int)} (h : Ext (f :: t) f) : TripL (f :: t) f (wrapR (f :: t)) [f] f := ⟨Trip.start h, rfl, rfl⟩
theorem pt_app {r : List (Int × Int)} {p : Int × Int} : pt (r ++ [p]) r.length = p := by rw [pt_get (by simp)]; simp
theorem pt_app0 {r : List (Int × Int)} {p : Int × Int} (h : 1 ≤ r.length) : pt (r ++ [p]) 0 = pt r 0 := by rw [pt_get (by simp), pt_get (by omega), List.getElem_append_left]
theorem TripL.step {s : List (Int × Int)} {f a : Int × Int} {R r : List (Int × Int)} (h : TripL s f R r a) (hp : nx s a ≠ f) : TripL s f R (r ++ [nx s a]) (nx s a) := by
  refine ⟨h.trip.step hp, ?_, ?_⟩
  · rw [List.length_append]; exact pt_app
  · rw [pt_app0 h.trip.one]; exact h.head
set_option maxHeartbeats 4000000 in
theorem wrapSpec_c (l : List (Int × Int)) (a : Option Addr) (len cap : Nat) (w : World) (hl : l.length = len) (h1 : len ≤ 1048576) (hF : Fit a len cap) (hA : At w.heap.size a l w) :
    Calls Tryz.prog 9 #[.slice a len cap] w fun e w' => ∃ v, e = .returned (.tuple #[v, .bool (goodL l)]) ∧ OwnC w.heap.size v (wraL l) w' ∧ Below w.heap.size w w' := by
  subst hl
  have HA := hid hA
  have HF := hid hF
  clear hA hF
  obtain ⟨i0, hi, hz0, hz1, hz2⟩ := info_parts info_pt
  cases hG : goodL l
  · have e2 : wraL l = [] := by rw [wraL, hG]; rfl
    rw [e2]
    clear e2
    go_enter Tryz.func9, Tryz.ntmps9
    go_wp2_with (go_at_call 25; refine (l2Good_c l _ _ _ _ rfl h1 HA.out).mono ?_; rintro e w1 ⟨rfl, hb1⟩)
    go_ret2
    exact ⟨_, rfl, OwnC.nil _ _, hb1⟩
  · have hfew := goodL_few hG
    by_cases h2 : l.length < 2
    · have e2 : wraL l = l := by rw [wraL, hG, if_pos rfl, wrapR_short h2]
      rw [e2]
      clear e2
      go_enter Tryz.func9, Tryz.ntmps9
      go_wp2_with (first
        | (go_at_call 25; refine (l2Good_c l _ _ _ _ rfl h1 HA.out).mono ?_; rintro e w1 ⟨rfl, hb1⟩)
        | (go_at_call 28; refine (l2Own_c l _ _ _ w1 rfl h1 HF.out ((HA.out.later hb1).mono hb1.size)).mono ?_; rintro e w2 ⟨v2, rfl, ho2, hb2⟩))
      go_ret2
      exact ⟨_, rfl, ho2.cut.mono hb1.size, grew hb1 hb2⟩
    · have e2 : wraL l = wrapR l := by rw [wraL, hG, if_pos rfl]
      rw [e2]
      clear e2
      replace h2 : 2 ≤ l.length := by omega
      have HGL := hid hG
      have hR := goodL_rises hG
      obtain ⟨fx, fy, t0, hl⟩ : ∃ fx fy t0, l = (fx, fy) :: t0 := by
        match l, h2 with
        | (fx, fy) :: t0, _ => exact ⟨fx, fy, t0, rfl⟩
      have hS : Hid (TripL l (fx, fy) (wrapR l) [(fx, fy)] (fx, fy)) := by rw [hl] at hR ⊢; exact TripL.start (first_ext hR)
      have hf : px l 0 = fx ∧ py l 0 = fy := by rw [hl]; exact ⟨rfl, rfl⟩
      have HP0 : Hid (pt l 0 = (fx, fy)) := by rw [hl]; exact rfl
      clear hl hR
      obtain ⟨sx, hsx⟩ : ∃ x, px l 1 = x := ⟨_, rfl⟩
      obtain ⟨sy, hsy⟩ : ∃ y, py l 1 = y := ⟨_, rfl⟩
      have HP1 : Hid (pt l 1 = (sx, sy)) := by rw [← hsx, ← hsy]; exact rfl
      obtain ⟨b, off, rfl, hbN, g0, g1⟩ := HA.out 0 (by omega)
      obtain ⟨b', off', hbb, hbN', g2, g3⟩ := HA.out 1 (by omega)
      obtain ⟨rfl, rfl⟩ : b = b' ∧ off = off' := by simpa using hbb
      rw [hf.1] at g0
      rw [hf.2] at g1
      rw [hsx] at g2
      rw [hsy] at g3
      rw [Nat.zero_mul, Nat.add_zero] at g0 g1
      rw [Nat.one_mul] at g2 g3
      have hl0 : (0 : Int) < (l.length : Int) := by omega
      have hl1 : (1 : Int) < (l.length : Int) := by omega
      have hl2 : ((l.length : Int) < 2) = False := by simp; omega
      clear hf hsx hsy hbb hbN'
      go_enter Tryz.func9, Tryz.ntmps9
      go_upto_region 3 with (go_at_call 25; refine (l2Good_c l _ _ _ _ rfl h1 HA.out).mono ?_; rintro e w1 ⟨rfl, hb1⟩)
      have q0 := cell_later hb1 g0
      have q1 := cell_later hb1 g1
      have hb1s := hb1.size
      go_wp2
      have O4 := hid (wrap_own1 w1 fx fy)
      have hbn : Hid (Below w.heap.size w (w1.alloc (.cells #[.int .i64 fx, .int .i64 fy] 33))) := hid (grew hb1 (by go_grown))
      generalize w1.alloc (.cells #[.int .i64 fx, .int .i64 fy] 33) = w2 at O4 hbn ⊢
      clear q0 q1
      generalize w1.heap.size = N1 at O4 hb1s ⊢
      clear hb1
      go_loopw [4] (fun v wr => ∃ (r : List (Int × Int)) (a : Int × Int), TripL l (fx, fy) (wrapR l) r a ∧ OwnC N1 v r wr ∧ Below w.heap.size w wr) (fun v _ => l.length - (match v with | .slice _ n _ => n | _ => 0))
      case atStart => exact ⟨_, _, hS.out, O4.out, hbn.out⟩
      case round =>
        clear O4 hbn hS
        obtain ⟨r, ⟨ax, ay⟩, hT, hO, hbr⟩ := hrel
        obtain ⟨a3, cp3, rfl⟩ := hO.shape
        have hrl := hT.trip.len
        have hr1 := hT.trip.one
        have HGA : Hid (gp (ax, ay)) := hid (hT.trip.good (goodL_all HGL.out))
        have HT := hid hT
        have HO := hid hO
        have HBR := hid hbr
        obtain ⟨j, hj⟩ : ∃ j, j = r.length - 1 := ⟨_, rfl⟩
        obtain ⟨b3, o3, rfl, hb3, k2, k3⟩ := hO.at j (by omega)
        obtain ⟨b4, o4, hb4, _, k0, k1⟩ := hO.at 0 (by omega)
        obtain ⟨rfl, rfl⟩ : b3 = b4 ∧ o3 = o4 := by simpa using hb4
        have hla := hT.last
        have hhd := hT.head
        rw [← hj] at hla
        have a0 : px r j = ax := congrArg Prod.fst hla
        have a1 : py r j = ay := congrArg Prod.snd hla
        have a2 : px r 0 = fx := congrArg Prod.fst hhd
        have a3' : py r 0 = fy := congrArg Prod.snd hhd
        rw [a0] at k2
        rw [a1] at k3
        rw [a2, Nat.zero_mul, Nat.add_zero] at k0
        rw [a3', Nat.zero_mul, Nat.add_zero] at k1
        have hi1 : IntKind.i64.wrap ((r.length : Int) - 1) = (j : Int) := by rw [IntKind.wrap_i64]; omega
        have hi2 : (0 : Int) ≤ (j : Int) := by omega
        have hi3 : (j : Int) < (r.length : Int) := by omega
        have hi4 : (0 : Int) < (r.length : Int) := by omega
        have hi5 : j < r.length := by omega
        have HJ := hid hj
        clear hj hT hO hla hhd a0 a1 a2 a3' hb4
        have q0 := cell_later hbr g0
        have q1 := cell_later hbr g1
        have q2 := cell_later hbr g2
        have q3 := cell_later hbr g3
        have hbNr : b < wr.heap.size := Nat.lt_of_lt_of_le hbN hbr.size
        clear hbr
        go_upto_region 8 with fail
        have G5' := BoxP.later (BoxP.new wr ax ay) ((Below.refl _ _).alloc (Nat.le_refl _) (.cells #[.int .i64 fx, .int .i64 fy] 33))
        have G6' := BoxP.new (wr.alloc (.cells #[.int .i64 ax, .int .i64 ay] 33)) fx fy
        simp only [World.size_alloc] at G6'
        have hb0' : Below wr.heap.size wr ((wr.alloc (.cells #[.int .i64 ax, .int .i64 ay] 33)).alloc (.cells #[.int .i64 fx, .int .i64 fy] 33)) := by go_grown
        generalize (wr.alloc (.cells #[.int .i64 ax, .int .i64 ay] 33)).alloc (.cells #[.int .i64 fx, .int .i64 fy] 33) = wq at G5' G6' hb0' ⊢
        obtain ⟨wo, rfl⟩ : ∃ wo, wo = wr := ⟨wr, rfl⟩
        have c5x := G5'.c0
        have c5y := G5'.c1
        have c6x := G6'.c0
        have c6y := G6'.c1
        have f60 := G6'.f 0
        have f61 := G6'.f 1
        replace q2 := cell_later hb0' q2
        replace q3 := cell_later hb0' q3
        clear q0 q1
        by_cases e0 : fx = ax
        · by_cases e1 : fy = ay
          · subst e0 e1
            have HWs : Hid ((sx, sy) = wst l (fx, fy)) := by unfold wst; rw [HP0.out, if_pos rfl, HP1.out]; exact hid rfl
            have G5 := hid ((G5'.other (B' := wo.heap.size + 1) (i := 0) (by omega) (.int .i64 sx)).other (B' := wo.heap.size + 1) (i := 1) (by omega) (.int .i64 sy))
            have G6 := hid (G6'.set sx sy)
            have hb0 := hid ((hb0'.setCell (p := ⟨wo.heap.size + 1, 0, none⟩) (by show wo.heap.size ≤ wo.heap.size + 1; omega) (.int .i64 sx)).setCell (p := ⟨wo.heap.size + 1, 1, none⟩) (by show wo.heap.size ≤ wo.heap.size + 1; omega) (.int .i64 sy))
            clear G5' G6' hb0'
            go_wp2
            generalize (wq.setCell ⟨wo.heap.size + 1, 0, none⟩ (.int .i64 sx)).setCell ⟨wo.heap.size + 1, 1, none⟩ (.int .i64 sy) = wz at G5 G6 hb0 ⊢
            clear c5x c5y c6x c6y f60 f61 q2 q3
            go_loopw [39] (fun i u => ∃ (k : Nat) (best : Int × Int), k ≤ l.length ∧ i = .int .i64 k ∧ best = (l.take k).foldl (sstep (fx, fy)) (wst l (fx, fy)) ∧ BoxP u wo.heap.size (fx, fy) ∧ BoxP u (wo.heap.size + 1) best ∧ Below wo.heap.size wo u) (fun i _ => l.length - (intOf i).toNat)
            case atStart => exact ⟨0, _, Nat.zero_le _, rfl, HWs.out, G5.out, G6.out, hb0.out⟩
            case round =>
              clear G5 G6 hb0 HWs
              obtain ⟨k, ⟨bx, b_y⟩, hk, rfl, hbest, K5, K6, hbw⟩ := hrel
              have HB := hid hbest.symm
              clear hbest
              by_cases hkl : k < l.length
              · obtain ⟨b5, off5, hbe, hbN5, i0, i1⟩ := HA.out k hkl
                obtain ⟨rfl, rfl⟩ : b = b5 ∧ off = off5 := by simpa using hbe
                have q0 := ((HBR.out.trans (hbw.mono HBR.out.size)).cell (p := ⟨b, off + k * 2, none⟩) hbN).trans i0
                have q1 := ((HBR.out.trans (hbw.mono HBR.out.size)).cell (p := ⟨b, off + k * 2 + 1, none⟩) hbN).trans i1
                have HS := hid (fold_take (f := sstep (fx, fy)) (b := wst l (fx, fy)) hkl)
                clear i0 i1 hbe hbN5
                obtain ⟨x, hx⟩ : ∃ x, px l k = x := ⟨_, rfl⟩
                obtain ⟨y, hy⟩ : ∃ y, py l k = y := ⟨_, rfl⟩
                rw [hx, hy] at HS
                rw [hx] at q0
                rw [hy] at q1
                clear hx hy
                go_upto_region 13 with fail
                have K8 := BoxP.new wr x y
                have hb7 : Below wr.heap.size wr (wr.alloc (.cells #[.int .i64 x, .int .i64 y] 33)) := by go_grown
                replace K5 := K5.later hb7
                replace K6 := K6.later hb7
                replace hbw := grew hbw hb7
                generalize wr.heap.size = B8 at K8 ⊢
                clear q0 q1 hb7
                generalize wr.alloc (.cells #[.int .i64 x, .int .i64 y] 33) = wp at K5 K6 K8 hbw ⊢
                have c5x := K5.c0
                have c5y := K5.c1
                have c6x := K6.c0
                have c6y := K6.c1
                have c8x := K8.c0
                have c8y := K8.c1
                have f0 := K6.f 0
                have f1 := K6.f 1
                clear K8
                obtain ⟨n, hsd⟩ : ∃ n, sg (crossW fx fy bx b_y x y) = n := ⟨_, rfl⟩
                have HD : Hid (ssd (fx, fy) (bx, b_y) (x, y) = n) := hid hsd
                by_cases e0 : x = fx
                · by_cases e1 : y = fy
                  · subst e0 e1
                    go_wp2_with (first | (go_at_call 29; refine (side_c _ _ _ _ _ _ _).mono ?_; rw [hsd]; rintro e w1 ⟨rfl, hb⟩; replace hbw := grew hbw hb; replace K5 := K5.later hb; replace K6 := K6.later hb; replace c5x := cell_later hb c5x; replace c5y := cell_later hb c5y; replace c6x := cell_later hb c6x; replace c6y := cell_later hb c6y; replace c8x := cell_later hb c8x; replace c8y := cell_later hb c8y; replace f0 := K6.f 0; replace f1 := K6.f 1; clear hb))
                    go_roundw
                    case rel => exact ⟨k + 1, (bx, b_y), by omega, by go_num, by rw [HS.out, HB.out]; exact (sstep_no0).symm, K5, K6, hbw⟩
                    case measure => simp [intOf]; omega
                  · have hne : ((x, y) : Int × Int) ≠ (fx, fy) := fun e => e1 (congrArg Prod.snd e)
                    have HN := hid hne
                    have y1 : (y == fy) = false := by simpa using e1
                    subst e0
                    clear e1 hne
                    by_cases hs0 : n < 0
                    · go_wp2_with (first | (go_at_call 29; refine (side_c _ _ _ _ _ _ _).mono ?_; rw [hsd]; rintro e w1 ⟨rfl, hb⟩; replace hbw := grew hbw hb; replace K5 := K5.later hb; replace K6 := K6.later hb; replace c5x := cell_later hb c5x; replace c5y := cell_later hb c5y; replace c6x := cell_later hb c6x; replace c6y := cell_later hb c6y; replace c8x := cell_later hb c8x; replace c8y := cell_later hb c8y; replace f0 := K6.f 0; replace f1 := K6.f 1; clear hb))
                      go_roundw
                      case rel => exact ⟨k + 1, (x, y), by omega, by go_num, by rw [HS.out, HB.out]; exact (sstep_yes1 HN.out (by have := HD.out; omega)).symm, (K5.other (by omega) _).other (by omega) _, K6.set _ _, (hbw.setCell (p := ⟨wo.heap.size + 1, 0, none⟩) (by show wo.heap.size ≤ wo.heap.size + 1; omega) _).setCell (p := ⟨wo.heap.size + 1, 1, none⟩) (by show wo.heap.size ≤ wo.heap.size + 1; omega) _⟩
                      case measure => simp [intOf]; omega
                    · by_cases hs1 : n = 0
                      · have hd : (n == 0) = true := by simpa using hs1
                        cases hF : farB (x, fy) (bx, b_y) (x, y)
                        · have HZ := hid hs1
                          subst hs1
                          go_wp2_with (first | (go_at_call 29; refine (side_c _ _ _ _ _ _ _).mono ?_; rw [hsd]; rintro e w1 ⟨rfl, hb⟩; replace hbw := grew hbw hb; replace K5 := K5.later hb; replace K6 := K6.later hb; replace c5x := cell_later hb c5x; replace c5y := cell_later hb c5y; replace c6x := cell_later hb c6x; replace c6y := cell_later hb c6y; replace c8x := cell_later hb c8x; replace c8y := cell_later hb c8y; replace f0 := K6.f 0; replace f1 := K6.f 1; clear hb) | (go_at_call 30; refine (far_c _ _ _ _ _ _ _).mono ?_; rw [hF]; rintro e w1 ⟨rfl, hb⟩; replace hbw := grew hbw hb; replace K5 := K5.later hb; replace K6 := K6.later hb; replace c5x := cell_later hb c5x; replace c5y := cell_later hb c5y; replace c6x := cell_later hb c6x; replace c6y := cell_later hb c6y; replace c8x := cell_later hb c8x; replace c8y := cell_later hb c8y; replace f0 := K6.f 0; replace f1 := K6.f 1; clear hb))
                          go_roundw
                          case rel => exact ⟨k + 1, (bx, b_y), by omega, by go_num, by rw [HS.out, HB.out]; exact (sstep_no2 (by have := HD.out; omega) hF).symm, K5, K6, hbw⟩
                          case measure => simp [intOf]; omega
                        · have HZ := hid hs1
                          subst hs1
                          go_wp2_with (first | (go_at_call 29; refine (side_c _ _ _ _ _ _ _).mono ?_; rw [hsd]; rintro e w1 ⟨rfl, hb⟩; replace hbw := grew hbw hb; replace K5 := K5.later hb; replace K6 := K6.later hb; replace c5x := cell_later hb c5x; replace c5y := cell_later hb c5y; replace c6x := cell_later hb c6x; replace c6y := cell_later hb c6y; replace c8x := cell_later hb c8x; replace c8y := cell_later hb c8y; replace f0 := K6.f 0; replace f1 := K6.f 1; clear hb) | (go_at_call 30; refine (far_c _ _ _ _ _ _ _).mono ?_; rw [hF]; rintro e w1 ⟨rfl, hb⟩; replace hbw := grew hbw hb; replace K5 := K5.later hb; replace K6 := K6.later hb; replace c5x := cell_later hb c5x; replace c5y := cell_later hb c5y; replace c6x := cell_later hb c6x; replace c6y := cell_later hb c6y; replace c8x := cell_later hb c8x; replace c8y := cell_later hb c8y; replace f0 := K6.f 0; replace f1 := K6.f 1; clear hb))
                          go_roundw
                          case rel => exact ⟨k + 1, (x, y), by omega, by go_num, by rw [HS.out, HB.out]; exact (sstep_yes2 HN.out (by have := HD.out; omega) hF).symm, (K5.other (by omega) _).other (by omega) _, K6.set _ _, (hbw.setCell (p := ⟨wo.heap.size + 1, 0, none⟩) (by show wo.heap.size ≤ wo.heap.size + 1; omega) _).setCell (p := ⟨wo.heap.size + 1, 1, none⟩) (by show wo.heap.size ≤ wo.heap.size + 1; omega) _⟩
                          case measure => simp [intOf]; omega
                      · have hd : (n == 0) = false := by simpa using hs1
                        go_wp2_with (first | (go_at_call 29; refine (side_c _ _ _ _ _ _ _).mono ?_; rw [hsd]; rintro e w1 ⟨rfl, hb⟩; replace hbw := grew hbw hb; replace K5 := K5.later hb; replace K6 := K6.later hb; replace c5x := cell_later hb c5x; replace c5y := cell_later hb c5y; replace c6x := cell_later hb c6x; replace c6y := cell_later hb c6y; replace c8x := cell_later hb c8x; replace c8y := cell_later hb c8y; replace f0 := K6.f 0; replace f1 := K6.f 1; clear hb))
                        go_roundw
                        case rel => exact ⟨k + 1, (bx, b_y), by omega, by go_num, by rw [HS.out, HB.out]; exact (sstep_no1 (by have := HD.out; omega) (by have := HD.out; omega)).symm, K5, K6, hbw⟩
                        case measure => simp [intOf]; omega
                · have hne : ((x, y) : Int × Int) ≠ (fx, fy) := fun e => e0 (congrArg Prod.fst e)
                  have HN := hid hne
                  have y0 : (x == fx) = false := by simpa using e0
                  clear e0 hne
                  by_cases hs0 : n < 0
                  · go_wp2_with (first | (go_at_call 29; refine (side_c _ _ _ _ _ _ _).mono ?_; rw [hsd]; rintro e w1 ⟨rfl, hb⟩; replace hbw := grew hbw hb; replace K5 := K5.later hb; replace K6 := K6.later hb; replace c5x := cell_later hb c5x; replace c5y := cell_later hb c5y; replace c6x := cell_later hb c6x; replace c6y := cell_later hb c6y; replace c8x := cell_later hb c8x; replace c8y := cell_later hb c8y; replace f0 := K6.f 0; replace f1 := K6.f 1; clear hb))
                    go_roundw
                    case rel => exact ⟨k + 1, (x, y), by omega, by go_num, by rw [HS.out, HB.out]; exact (sstep_yes1 HN.out (by have := HD.out; omega)).symm, (K5.other (by omega) _).other (by omega) _, K6.set _ _, (hbw.setCell (p := ⟨wo.heap.size + 1, 0, none⟩) (by show wo.heap.size ≤ wo.heap.size + 1; omega) _).setCell (p := ⟨wo.heap.size + 1, 1, none⟩) (by show wo.heap.size ≤ wo.heap.size + 1; omega) _⟩
                    case measure => simp [intOf]; omega
                  · by_cases hs1 : n = 0
                    · have hd : (n == 0) = true := by simpa using hs1
                      cases hF : farB (fx, fy) (bx, b_y) (x, y)
                      · have HZ := hid hs1
                        subst hs1
                        go_wp2_with (first | (go_at_call 29; refine (side_c _ _ _ _ _ _ _).mono ?_; rw [hsd]; rintro e w1 ⟨rfl, hb⟩; replace hbw := grew hbw hb; replace K5 := K5.later hb; replace K6 := K6.later hb; replace c5x := cell_later hb c5x; replace c5y := cell_later hb c5y; replace c6x := cell_later hb c6x; replace c6y := cell_later hb c6y; replace c8x := cell_later hb c8x; replace c8y := cell_later hb c8y; replace f0 := K6.f 0; replace f1 := K6.f 1; clear hb) | (go_at_call 30; refine (far_c _ _ _ _ _ _ _).mono ?_; rw [hF]; rintro e w1 ⟨rfl, hb⟩; replace hbw := grew hbw hb; replace K5 := K5.later hb; replace K6 := K6.later hb; replace c5x := cell_later hb c5x; replace c5y := cell_later hb c5y; replace c6x := cell_later hb c6x; replace c6y := cell_later hb c6y; replace c8x := cell_later hb c8x; replace c8y := cell_later hb c8y; replace f0 := K6.f 0; replace f1 := K6.f 1; clear hb))
                        go_roundw
                        case rel => exact ⟨k + 1, (bx, b_y), by omega, by go_num, by rw [HS.out, HB.out]; exact (sstep_no2 (by have := HD.out; omega) hF).symm, K5, K6, hbw⟩
                        case measure => simp [intOf]; omega
                      · have HZ := hid hs1
                        subst hs1
                        go_wp2_with (first | (go_at_call 29; refine (side_c _ _ _ _ _ _ _).mono ?_; rw [hsd]; rintro e w1 ⟨rfl, hb⟩; replace hbw := grew hbw hb; replace K5 := K5.later hb; replace K6 := K6.later hb; replace c5x := cell_later hb c5x; replace c5y := cell_later hb c5y; replace c6x := cell_later hb c6x; replace c6y := cell_later hb c6y; replace c8x := cell_later hb c8x; replace c8y := cell_later hb c8y; replace f0 := K6.f 0; replace f1 := K6.f 1; clear hb) | (go_at_call 30; refine (far_c _ _ _ _ _ _ _).mono ?_; rw [hF]; rintro e w1 ⟨rfl, hb⟩; replace hbw := grew hbw hb; replace K5 := K5.later hb; replace K6 := K6.later hb; replace c5x := cell_later hb c5x; replace c5y := cell_later hb c5y; replace c6x := cell_later hb c6x; replace c6y := cell_later hb c6y; replace c8x := cell_later hb c8x; replace c8y := cell_later hb c8y; replace f0 := K6.f 0; replace f1 := K6.f 1; clear hb))
                        go_roundw
                        case rel => exact ⟨k + 1, (x, y), by omega, by go_num, by rw [HS.out, HB.out]; exact (sstep_yes2 HN.out (by have := HD.out; omega) hF).symm, (K5.other (by omega) _).other (by omega) _, K6.set _ _, (hbw.setCell (p := ⟨wo.heap.size + 1, 0, none⟩) (by show wo.heap.size ≤ wo.heap.size + 1; omega) _).setCell (p := ⟨wo.heap.size + 1, 1, none⟩) (by show wo.heap.size ≤ wo.heap.size + 1; omega) _⟩
                        case measure => simp [intOf]; omega
                    · have hd : (n == 0) = false := by simpa using hs1
                      go_wp2_with (first | (go_at_call 29; refine (side_c _ _ _ _ _ _ _).mono ?_; rw [hsd]; rintro e w1 ⟨rfl, hb⟩; replace hbw := grew hbw hb; replace K5 := K5.later hb; replace K6 := K6.later hb; replace c5x := cell_later hb c5x; replace c5y := cell_later hb c5y; replace c6x := cell_later hb c6x; replace c6y := cell_later hb c6y; replace c8x := cell_later hb c8x; replace c8y := cell_later hb c8y; replace f0 := K6.f 0; replace f1 := K6.f 1; clear hb))
                      go_roundw
                      case rel => exact ⟨k + 1, (bx, b_y), by omega, by go_num, by rw [HS.out, HB.out]; exact (sstep_no1 (by have := HD.out; omega) (by have := HD.out; omega)).symm, K5, K6, hbw⟩
                      case measure => simp [intOf]; omega
              · obtain rfl : k = l.length := by omega
                have HE : Hid ((bx, b_y) = nx l (fx, fy)) := by have := HB.out; rw [List.take_length] at this; exact this.symm.trans (nxS_eq HGA.out HGL.out h2)
                have c6x := K6.c0
                have c6y := K6.c1
                have d0 := cell_later hbw k0
                have d1 := cell_later hbw k1
                have HBW := hid hbw
                clear K5 K6 hbw k0 k1
                by_cases ex : bx = fx
                · by_cases ey : b_y = fy
                  · subst ex ey
                    have HR := hid (HT.out.trip.done HE.out.symm)
                    go_wp2
                    go_quiet (fail)
                    go_wp2
                    go_ret2
                    exact ⟨_, rfl, by rw [HR.out]; exact ((HO.out.later HBW.out).later (drewN_below _ _)).mono hb1s, grew (HBR.out.trans (HBW.out.mono HBR.out.size)) (drewN_below _ _)⟩
                  · have hnf : nx l (fx, fy) ≠ (fx, fy) := by rw [← HE.out]; exact fun e => ey (congrArg Prod.snd e)
                    have yb : (b_y == fy) = false := by simpa using ey
                    subst ex
                    clear ey
                    have HS := hid (HT.out.step hnf)
                    rw [← HE.out] at HS
                    clear hnf
                    go_wp2
                    go_quiet (fail)
                    go_upto_region 19 with fail
                    have hbq := grew HBW.out (drewN_below nq wr)
                    replace c6x := cell_later (drewN_below nq wr) c6x
                    replace c6y := cell_later (drewN_below nq wr) c6y
                    clear d0 d1 HBW
                    generalize wr.drewN nq = wd at hbq c6x c6y ⊢
                    have HOD := hid (HO.out.later hbq)
                    have HBD := hid (HBR.out.trans (hbq.mono HBR.out.size))
                    have hN1 : N1 ≤ wd.heap.size := by have := hid (HOD.out.ge _ _ rfl); have := this.out; have := HOD.out.at 0 (by omega); obtain ⟨_, _, e5, h5, _⟩ := this; simp at e5; omega
                    clear hbq HO HBR hbNr
                    go_wp2_with (at_builtin; refine wpList_append_cut rfl (.tmp 72) (.tmp 74) 24 rfl N1 Tryz.underlying24 hi hz0 hz1 hz2 (by rfl) _ r [(bx, b_y)] rfl (HOD.out.later (by go_grown)) _ _ _ rfl rfl (fun j u hu => one_src _ bx b_y _ rfl j u hu) (by simp) (by simp; omega) (by simp; omega) ?_; intro g cp w9 hO9 hg9 _; obtain ⟨ln, hln⟩ : ∃ ln, r.length + [(bx, b_y)].length = ln := ⟨_, rfl⟩; rw [hln] at hO9 ⊢)
                    have hln2 : r.length + 1 = ln := hln
                    have hbe : Below wd.heap.size wd (wd.alloc (.cells #[.int .i64 bx, .int .i64 b_y] 33)) := by go_grown
                    have hb9 : Below w.heap.size w w9 := (grew HBD.out hbe).trans ((OwnC.grownBelow (HOD.out.later hbe) hg9 (by have := hbe.size; omega)).mono hb1s)
                    go_roundw
                    case rel => exact ⟨_, _, HS.out, hO9, hb9⟩
                    case measure => have := HS.out.trip.len; rw [List.length_append] at this; simp at this; simp; omega
                · have hnf : nx l (fx, fy) ≠ (fx, fy) := by rw [← HE.out]; exact fun e => ex (congrArg Prod.fst e)
                  have yb : (bx == fx) = false := by simpa using ex
                  clear ex
                  have HS := hid (HT.out.step hnf)
                  rw [← HE.out] at HS
                  clear hnf
                  go_wp2
                  go_quiet (fail)
                  go_upto_region 19 with fail
                  have hbq := grew HBW.out (drewN_below nq wr)
                  replace c6x := cell_later (drewN_below nq wr) c6x
                  replace c6y := cell_later (drewN_below nq wr) c6y
                  clear d0 d1 HBW
                  generalize wr.drewN nq = wd at hbq c6x c6y ⊢
                  have HOD := hid (HO.out.later hbq)
                  have HBD := hid (HBR.out.trans (hbq.mono HBR.out.size))
                  have hN1 : N1 ≤ wd.heap.size := by have := hid (HOD.out.ge _ _ rfl); have := this.out; have := HOD.out.at 0 (by omega); obtain ⟨_, _, e5, h5, _⟩ := this; simp at e5; omega
                  clear hbq HO HBR hbNr
                  go_wp2_with (at_builtin; refine wpList_append_cut rfl (.tmp 72) (.tmp 74) 24 rfl N1 Tryz.underlying24 hi hz0 hz1 hz2 (by rfl) _ r [(bx, b_y)] rfl (HOD.out.later (by go_grown)) _ _ _ rfl rfl (fun j u hu => one_src _ bx b_y _ rfl j u hu) (by simp) (by simp; omega) (by simp; omega) ?_; intro g cp w9 hO9 hg9 _; obtain ⟨ln, hln⟩ : ∃ ln, r.length + [(bx, b_y)].length = ln := ⟨_, rfl⟩; rw [hln] at hO9 ⊢)
                  have hln2 : r.length + 1 = ln := hln
                  have hbe : Below wd.heap.size wd (wd.alloc (.cells #[.int .i64 bx, .int .i64 b_y] 33)) := by go_grown
                  have hb9 : Below w.heap.size w w9 := (grew HBD.out hbe).trans ((OwnC.grownBelow (HOD.out.later hbe) hg9 (by have := hbe.size; omega)).mono hb1s)
                  go_roundw
                  case rel => exact ⟨_, _, HS.out, hO9, hb9⟩
                  case measure => have := HS.out.trip.len; rw [List.length_append] at this; simp at this; simp; omega
          · have y1 : (fy == ay) = false := by simpa using e1
            have HWs : Hid ((fx, fy) = wst l (ax, ay)) := by unfold wst; rw [HP0.out, if_neg (fun e => e1 (congrArg Prod.snd e))]; exact hid rfl
            subst e0
            have G5 := hid G5'
            have G6 := hid G6'
            have hb0 := hid hb0'
            clear G5' G6' hb0' e1
            go_wp2
            clear c5x c5y c6x c6y f60 f61 q2 q3
            go_loopw [39] (fun i u => ∃ (k : Nat) (best : Int × Int), k ≤ l.length ∧ i = .int .i64 k ∧ best = (l.take k).foldl (sstep (fx, ay)) (wst l (fx, ay)) ∧ BoxP u wo.heap.size (fx, ay) ∧ BoxP u (wo.heap.size + 1) best ∧ Below wo.heap.size wo u) (fun i _ => l.length - (intOf i).toNat)
            case atStart => exact ⟨0, _, Nat.zero_le _, rfl, HWs.out, G5.out, G6.out, hb0.out⟩
            case round =>
              clear G5 G6 hb0 HWs
              obtain ⟨k, ⟨bx, b_y⟩, hk, rfl, hbest, K5, K6, hbw⟩ := hrel
              have HB := hid hbest.symm
              clear hbest
              by_cases hkl : k < l.length
              · obtain ⟨b5, off5, hbe, hbN5, i0, i1⟩ := HA.out k hkl
                obtain ⟨rfl, rfl⟩ : b = b5 ∧ off = off5 := by simpa using hbe
                have q0 := ((HBR.out.trans (hbw.mono HBR.out.size)).cell (p := ⟨b, off + k * 2, none⟩) hbN).trans i0
                have q1 := ((HBR.out.trans (hbw.mono HBR.out.size)).cell (p := ⟨b, off + k * 2 + 1, none⟩) hbN).trans i1
                have HS := hid (fold_take (f := sstep (fx, ay)) (b := wst l (fx, ay)) hkl)
                clear i0 i1 hbe hbN5
                obtain ⟨x, hx⟩ : ∃ x, px l k = x := ⟨_, rfl⟩
                obtain ⟨y, hy⟩ : ∃ y, py l k = y := ⟨_, rfl⟩
                rw [hx, hy] at HS
                rw [hx] at q0
                rw [hy] at q1
                clear hx hy
                go_upto_region 13 with fail
                have K8 := BoxP.new wr x y
                have hb7 : Below wr.heap.size wr (wr.alloc (.cells #[.int .i64 x, .int .i64 y] 33)) := by go_grown
                replace K5 := K5.later hb7
                replace K6 := K6.later hb7
                replace hbw := grew hbw hb7
                generalize wr.heap.size = B8 at K8 ⊢
                clear q0 q1 hb7
                generalize wr.alloc (.cells #[.int .i64 x, .int .i64 y] 33) = wp at K5 K6 K8 hbw ⊢
                have c5x := K5.c0
                have c5y := K5.c1
                have c6x := K6.c0
                have c6y := K6.c1
                have c8x := K8.c0
                have c8y := K8.c1
                have f0 := K6.f 0
                have f1 := K6.f 1
                clear K8
                obtain ⟨n, hsd⟩ : ∃ n, sg (crossW fx ay bx b_y x y) = n := ⟨_, rfl⟩
                have HD : Hid (ssd (fx, ay) (bx, b_y) (x, y) = n) := hid hsd
                by_cases e0 : x = fx
                · by_cases e1 : y = ay
                  · subst e0 e1
                    go_wp2_with (first | (go_at_call 29; refine (side_c _ _ _ _ _ _ _).mono ?_; rw [hsd]; rintro e w1 ⟨rfl, hb⟩; replace hbw := grew hbw hb; replace K5 := K5.later hb; replace K6 := K6.later hb; replace c5x := cell_later hb c5x; replace c5y := cell_later hb c5y; replace c6x := cell_later hb c6x; replace c6y := cell_later hb c6y; replace c8x := cell_later hb c8x; replace c8y := cell_later hb c8y; replace f0 := K6.f 0; replace f1 := K6.f 1; clear hb))
                    go_roundw
                    case rel => exact ⟨k + 1, (bx, b_y), by omega, by go_num, by rw [HS.out, HB.out]; exact (sstep_no0).symm, K5, K6, hbw⟩
                    case measure => simp [intOf]; omega
                  · have hne : ((x, y) : Int × Int) ≠ (fx, ay) := fun e => e1 (congrArg Prod.snd e)
                    have HN := hid hne
                    have y1 : (y == ay) = false := by simpa using e1
                    subst e0
                    clear e1 hne
                    by_cases hs0 : n < 0
                    · go_wp2_with (first | (go_at_call 29; refine (side_c _ _ _ _ _ _ _).mono ?_; rw [hsd]; rintro e w1 ⟨rfl, hb⟩; replace hbw := grew hbw hb; replace K5 := K5.later hb; replace K6 := K6.later hb; replace c5x := cell_later hb c5x; replace c5y := cell_later hb c5y; replace c6x := cell_later hb c6x; replace c6y := cell_later hb c6y; replace c8x := cell_later hb c8x; replace c8y := cell_later hb c8y; replace f0 := K6.f 0; replace f1 := K6.f 1; clear hb))
                      go_roundw
                      case rel => exact ⟨k + 1, (x, y), by omega, by go_num, by rw [HS.out, HB.out]; exact (sstep_yes1 HN.out (by have := HD.out; omega)).symm, (K5.other (by omega) _).other (by omega) _, K6.set _ _, (hbw.setCell (p := ⟨wo.heap.size + 1, 0, none⟩) (by show wo.heap.size ≤ wo.heap.size + 1; omega) _).setCell (p := ⟨wo.heap.size + 1, 1, none⟩) (by show wo.heap.size ≤ wo.heap.size + 1; omega) _⟩
                      case measure => simp [intOf]; omega
                    · by_cases hs1 : n = 0
                      · have hd : (n == 0) = true := by simpa using hs1
                        cases hF : farB (x, ay) (bx, b_y) (x, y)
                        · have HZ := hid hs1
                          subst hs1
                          go_wp2_with (first | (go_at_call 29; refine (side_c _ _ _ _ _ _ _).mono ?_; rw [hsd]; rintro e w1 ⟨rfl, hb⟩; replace hbw := grew hbw hb; replace K5 := K5.later hb; replace K6 := K6.later hb; replace c5x := cell_later hb c5x; replace c5y := cell_later hb c5y; replace c6x := cell_later hb c6x; replace c6y := cell_later hb c6y; replace c8x := cell_later hb c8x; replace c8y := cell_later hb c8y; replace f0 := K6.f 0; replace f1 := K6.f 1; clear hb) | (go_at_call 30; refine (far_c _ _ _ _ _ _ _).mono ?_; rw [hF]; rintro e w1 ⟨rfl, hb⟩; replace hbw := grew hbw hb; replace K5 := K5.later hb; replace K6 := K6.later hb; replace c5x := cell_later hb c5x; replace c5y := cell_later hb c5y; replace c6x := cell_later hb c6x; replace c6y := cell_later hb c6y; replace c8x := cell_later hb c8x; replace c8y := cell_later hb c8y; replace f0 := K6.f 0; replace f1 := K6.f 1; clear hb))
                          go_roundw
                          case rel => exact ⟨k + 1, (bx, b_y), by omega, by go_num, by rw [HS.out, HB.out]; exact (sstep_no2 (by have := HD.out; omega) hF).symm, K5, K6, hbw⟩
                          case measure => simp [intOf]; omega
                        · have HZ := hid hs1
                          subst hs1
                          go_wp2_with (first | (go_at_call 29; refine (side_c _ _ _ _ _ _ _).mono ?_; rw [hsd]; rintro e w1 ⟨rfl, hb⟩; replace hbw := grew hbw hb; replace K5 := K5.later hb; replace K6 := K6.later hb; replace c5x := cell_later hb c5x; replace c5y := cell_later hb c5y; replace c6x := cell_later hb c6x; replace c6y := cell_later hb c6y; replace c8x := cell_later hb c8x; replace c8y := cell_later hb c8y; replace f0 := K6.f 0; replace f1 := K6.f 1; clear hb) | (go_at_call 30; refine (far_c _ _ _ _ _ _ _).mono ?_; rw [hF]; rintro e w1 ⟨rfl, hb⟩; replace hbw := grew hbw hb; replace K5 := K5.later hb; replace K6 := K6.later hb; replace c5x := cell_later hb c5x; replace c5y := cell_later hb c5y; replace c6x := cell_later hb c6x; replace c6y := cell_later hb c6y; replace c8x := cell_later hb c8x; replace c8y := cell_later hb c8y; replace f0 := K6.f 0; replace f1 := K6.f 1; clear hb))
                          go_roundw
                          case rel => exact ⟨k + 1, (x, y), by omega, by go_num, by rw [HS.out, HB.out]; exact (sstep_yes2 HN.out (by have := HD.out; omega) hF).symm, (K5.other (by omega) _).other (by omega) _, K6.set _ _, (hbw.setCell (p := ⟨wo.heap.size + 1, 0, none⟩) (by show wo.heap.size ≤ wo.heap.size + 1; omega) _).setCell (p := ⟨wo.heap.size + 1, 1, none⟩) (by show wo.heap.size ≤ wo.heap.size + 1; omega) _⟩
                          case measure => simp [intOf]; omega
                      · have hd : (n == 0) = false := by simpa using hs1
                        go_wp2_with (first | (go_at_call 29; refine (side_c _ _ _ _ _ _ _).mono ?_; rw [hsd]; rintro e w1 ⟨rfl, hb⟩; replace hbw := grew hbw hb; replace K5 := K5.later hb; replace K6 := K6.later hb; replace c5x := cell_later hb c5x; replace c5y := cell_later hb c5y; replace c6x := cell_later hb c6x; replace c6y := cell_later hb c6y; replace c8x := cell_later hb c8x; replace c8y := cell_later hb c8y; replace f0 := K6.f 0; replace f1 := K6.f 1; clear hb))
                        go_roundw
                        case rel => exact ⟨k + 1, (bx, b_y), by omega, by go_num, by rw [HS.out, HB.out]; exact (sstep_no1 (by have := HD.out; omega) (by have := HD.out; omega)).symm, K5, K6, hbw⟩
                        case measure => simp [intOf]; omega
                · have hne : ((x, y) : Int × Int) ≠ (fx, ay) := fun e => e0 (congrArg Prod.fst e)
                  have HN := hid hne
                  have y0 : (x == fx) = false := by simpa using e0
                  clear e0 hne
                  by_cases hs0 : n < 0
                  · go_wp2_with (first | (go_at_call 29; refine (side_c _ _ _ _ _ _ _).mono ?_; rw [hsd]; rintro e w1 ⟨rfl, hb⟩; replace hbw := grew hbw hb; replace K5 := K5.later hb; replace K6 := K6.later hb; replace c5x := cell_later hb c5x; replace c5y := cell_later hb c5y; replace c6x := cell_later hb c6x; replace c6y := cell_later hb c6y; replace c8x := cell_later hb c8x; replace c8y := cell_later hb c8y; replace f0 := K6.f 0; replace f1 := K6.f 1; clear hb))
                    go_roundw
                    case rel => exact ⟨k + 1, (x, y), by omega, by go_num, by rw [HS.out, HB.out]; exact (sstep_yes1 HN.out (by have := HD.out; omega)).symm, (K5.other (by omega) _).other (by omega) _, K6.set _ _, (hbw.setCell (p := ⟨wo.heap.size + 1, 0, none⟩) (by show wo.heap.size ≤ wo.heap.size + 1; omega) _).setCell (p := ⟨wo.heap.size + 1, 1, none⟩) (by show wo.heap.size ≤ wo.heap.size + 1; omega) _⟩
                    case measure => simp [intOf]; omega
                  · by_cases hs1 : n = 0
                    · have hd : (n == 0) = true := by simpa using hs1
                      cases hF : farB (fx, ay) (bx, b_y) (x, y)
                      · have HZ := hid hs1
                        subst hs1
                        go_wp2_with (first | (go_at_call 29; refine (side_c _ _ _ _ _ _ _).mono ?_; rw [hsd]; rintro e w1 ⟨rfl, hb⟩; replace hbw := grew hbw hb; replace K5 := K5.later hb; replace K6 := K6.later hb; replace c5x := cell_later hb c5x; replace c5y := cell_later hb c5y; replace c6x := cell_later hb c6x; replace c6y := cell_later hb c6y; replace c8x := cell_later hb c8x; replace c8y := cell_later hb c8y; replace f0 := K6.f 0; replace f1 := K6.f 1; clear hb) | (go_at_call 30; refine (far_c _ _ _ _ _ _ _).mono ?_; rw [hF]; rintro e w1 ⟨rfl, hb⟩; replace hbw := grew hbw hb; replace K5 := K5.later hb; replace K6 := K6.later hb; replace c5x := cell_later hb c5x; replace c5y := cell_later hb c5y; replace c6x := cell_later hb c6x; replace c6y := cell_later hb c6y; replace c8x := cell_later hb c8x; replace c8y := cell_later hb c8y; replace f0 := K6.f 0; replace f1 := K6.f 1; clear hb))
                        go_roundw
                        case rel => exact ⟨k + 1, (bx, b_y), by omega, by go_num, by rw [HS.out, HB.out]; exact (sstep_no2 (by have := HD.out; omega) hF).symm, K5, K6, hbw⟩
                        case measure => simp [intOf]; omega
                      · have HZ := hid hs1
                        subst hs1
                        go_wp2_with (first | (go_at_call 29; refine (side_c _ _ _ _ _ _ _).mono ?_; rw [hsd]; rintro e w1 ⟨rfl, hb⟩; replace hbw := grew hbw hb; replace K5 := K5.later hb; replace K6 := K6.later hb; replace c5x := cell_later hb c5x; replace c5y := cell_later hb c5y; replace c6x := cell_later hb c6x; replace c6y := cell_later hb c6y; replace c8x := cell_later hb c8x; replace c8y := cell_later hb c8y; replace f0 := K6.f 0; replace f1 := K6.f 1; clear hb) | (go_at_call 30; refine (far_c _ _ _ _ _ _ _).mono ?_; rw [hF]; rintro e w1 ⟨rfl, hb⟩; replace hbw := grew hbw hb; replace K5 := K5.later hb; replace K6 := K6.later hb; replace c5x := cell_later hb c5x; replace c5y := cell_later hb c5y; replace c6x := cell_later hb c6x; replace c6y := cell_later hb c6y; replace c8x := cell_later hb c8x; replace c8y := cell_later hb c8y; replace f0 := K6.f 0; replace f1 := K6.f 1; clear hb))
                        go_roundw
                        case rel => exact ⟨k + 1, (x, y), by omega, by go_num, by rw [HS.out, HB.out]; exact (sstep_yes2 HN.out (by have := HD.out; omega) hF).symm, (K5.other (by omega) _).other (by omega) _, K6.set _ _, (hbw.setCell (p := ⟨wo.heap.size + 1, 0, none⟩) (by show wo.heap.size ≤ wo.heap.size + 1; omega) _).setCell (p := ⟨wo.heap.size + 1, 1, none⟩) (by show wo.heap.size ≤ wo.heap.size + 1; omega) _⟩
                        case measure => simp [intOf]; omega
                    · have hd : (n == 0) = false := by simpa using hs1
                      go_wp2_with (first | (go_at_call 29; refine (side_c _ _ _ _ _ _ _).mono ?_; rw [hsd]; rintro e w1 ⟨rfl, hb⟩; replace hbw := grew hbw hb; replace K5 := K5.later hb; replace K6 := K6.later hb; replace c5x := cell_later hb c5x; replace c5y := cell_later hb c5y; replace c6x := cell_later hb c6x; replace c6y := cell_later hb c6y; replace c8x := cell_later hb c8x; replace c8y := cell_later hb c8y; replace f0 := K6.f 0; replace f1 := K6.f 1; clear hb))
                      go_roundw
                      case rel => exact ⟨k + 1, (bx, b_y), by omega, by go_num, by rw [HS.out, HB.out]; exact (sstep_no1 (by have := HD.out; omega) (by have := HD.out; omega)).symm, K5, K6, hbw⟩
                      case measure => simp [intOf]; omega
              · obtain rfl : k = l.length := by omega
                have HE : Hid ((bx, b_y) = nx l (fx, ay)) := by have := HB.out; rw [List.take_length] at this; exact this.symm.trans (nxS_eq HGA.out HGL.out h2)
                have c6x := K6.c0
                have c6y := K6.c1
                have d0 := cell_later hbw k0
                have d1 := cell_later hbw k1
                have HBW := hid hbw
                clear K5 K6 hbw k0 k1
                by_cases ex : bx = fx
                · by_cases ey : b_y = fy
                  · subst ex ey
                    have HR := hid (HT.out.trip.done HE.out.symm)
                    go_wp2
                    go_quiet (fail)
                    go_wp2
                    go_ret2
                    exact ⟨_, rfl, by rw [HR.out]; exact ((HO.out.later HBW.out).later (drewN_below _ _)).mono hb1s, grew (HBR.out.trans (HBW.out.mono HBR.out.size)) (drewN_below _ _)⟩
                  · have hnf : nx l (fx, ay) ≠ (fx, fy) := by rw [← HE.out]; exact fun e => ey (congrArg Prod.snd e)
                    have yb : (b_y == fy) = false := by simpa using ey
                    subst ex
                    clear ey
                    have HS := hid (HT.out.step hnf)
                    rw [← HE.out] at HS
                    clear hnf
                    go_wp2
                    go_quiet (fail)
                    go_upto_region 19 with fail
                    have hbq := grew HBW.out (drewN_below nq wr)
                    replace c6x := cell_later (drewN_below nq wr) c6x
                    replace c6y := cell_later (drewN_below nq wr) c6y
                    clear d0 d1 HBW
                    generalize wr.drewN nq = wd at hbq c6x c6y ⊢
                    have HOD := hid (HO.out.later hbq)
                    have HBD := hid (HBR.out.trans (hbq.mono HBR.out.size))
                    have hN1 : N1 ≤ wd.heap.size := by have := hid (HOD.out.ge _ _ rfl); have := this.out; have := HOD.out.at 0 (by omega); obtain ⟨_, _, e5, h5, _⟩ := this; simp at e5; omega
                    clear hbq HO HBR hbNr
                    go_wp2_with (at_builtin; refine wpList_append_cut rfl (.tmp 72) (.tmp 74) 24 rfl N1 Tryz.underlying24 hi hz0 hz1 hz2 (by rfl) _ r [(bx, b_y)] rfl (HOD.out.later (by go_grown)) _ _ _ rfl rfl (fun j u hu => one_src _ bx b_y _ rfl j u hu) (by simp) (by simp; omega) (by simp; omega) ?_; intro g cp w9 hO9 hg9 _; obtain ⟨ln, hln⟩ : ∃ ln, r.length + [(bx, b_y)].length = ln := ⟨_, rfl⟩; rw [hln] at hO9 ⊢)
                    have hln2 : r.length + 1 = ln := hln
                    have hbe : Below wd.heap.size wd (wd.alloc (.cells #[.int .i64 bx, .int .i64 b_y] 33)) := by go_grown
                    have hb9 : Below w.heap.size w w9 := (grew HBD.out hbe).trans ((OwnC.grownBelow (HOD.out.later hbe) hg9 (by have := hbe.size; omega)).mono hb1s)
                    go_roundw
                    case rel => exact ⟨_, _, HS.out, hO9, hb9⟩
                    case measure => have := HS.out.trip.len; rw [List.length_append] at this; simp at this; simp; omega
                · have hnf : nx l (fx, ay) ≠ (fx, fy) := by rw [← HE.out]; exact fun e => ex (congrArg Prod.fst e)
                  have yb : (bx == fx) = false := by simpa using ex
                  clear ex
                  have HS := hid (HT.out.step hnf)
                  rw [← HE.out] at HS
                  clear hnf
                  go_wp2
                  go_quiet (fail)
                  go_upto_region 19 with fail
                  have hbq := grew HBW.out (drewN_below nq wr)
                  replace c6x := cell_later (drewN_below nq wr) c6x
                  replace c6y := cell_later (drewN_below nq wr) c6y
                  clear d0 d1 HBW
                  generalize wr.drewN nq = wd at hbq c6x c6y ⊢
                  have HOD := hid (HO.out.later hbq)
                  have HBD := hid (HBR.out.trans (hbq.mono HBR.out.size))
                  have hN1 : N1 ≤ wd.heap.size := by have := hid (HOD.out.ge _ _ rfl); have := this.out; have := HOD.out.at 0 (by omega); obtain ⟨_, _, e5, h5, _⟩ := this; simp at e5; omega
                  clear hbq HO HBR hbNr
                  go_wp2_with (at_builtin; refine wpList_append_cut rfl (.tmp 72) (.tmp 74) 24 rfl N1 Tryz.underlying24 hi hz0 hz1 hz2 (by rfl) _ r [(bx, b_y)] rfl (HOD.out.later (by go_grown)) _ _ _ rfl rfl (fun j u hu => one_src _ bx b_y _ rfl j u hu) (by simp) (by simp; omega) (by simp; omega) ?_; intro g cp w9 hO9 hg9 _; obtain ⟨ln, hln⟩ : ∃ ln, r.length + [(bx, b_y)].length = ln := ⟨_, rfl⟩; rw [hln] at hO9 ⊢)
                  have hln2 : r.length + 1 = ln := hln
                  have hbe : Below wd.heap.size wd (wd.alloc (.cells #[.int .i64 bx, .int .i64 b_y] 33)) := by go_grown
                  have hb9 : Below w.heap.size w w9 := (grew HBD.out hbe).trans ((OwnC.grownBelow (HOD.out.later hbe) hg9 (by have := hbe.size; omega)).mono hb1s)
                  go_roundw
                  case rel => exact ⟨_, _, HS.out, hO9, hb9⟩
                  case measure => have := HS.out.trip.len; rw [List.length_append] at this; simp at this; simp; omega
        · have y0 : (fx == ax) = false := by simpa using e0
          have HWs : Hid ((fx, fy) = wst l (ax, ay)) := by unfold wst; rw [HP0.out, if_neg (fun e => e0 (congrArg Prod.fst e))]; exact hid rfl
          have G5 := hid G5'
          have G6 := hid G6'
          have hb0 := hid hb0'
          clear G5' G6' hb0' e0
          go_wp2
          clear c5x c5y c6x c6y f60 f61 q2 q3
          go_loopw [39] (fun i u => ∃ (k : Nat) (best : Int × Int), k ≤ l.length ∧ i = .int .i64 k ∧ best = (l.take k).foldl (sstep (ax, ay)) (wst l (ax, ay)) ∧ BoxP u wo.heap.size (ax, ay) ∧ BoxP u (wo.heap.size + 1) best ∧ Below wo.heap.size wo u) (fun i _ => l.length - (intOf i).toNat)
          case atStart => exact ⟨0, _, Nat.zero_le _, rfl, HWs.out, G5.out, G6.out, hb0.out⟩
          case round =>
            clear G5 G6 hb0 HWs
            obtain ⟨k, ⟨bx, b_y⟩, hk, rfl, hbest, K5, K6, hbw⟩ := hrel
            have HB := hid hbest.symm
            clear hbest
            by_cases hkl : k < l.length
            · obtain ⟨b5, off5, hbe, hbN5, i0, i1⟩ := HA.out k hkl
              obtain ⟨rfl, rfl⟩ : b = b5 ∧ off = off5 := by simpa using hbe
              have q0 := ((HBR.out.trans (hbw.mono HBR.out.size)).cell (p := ⟨b, off + k * 2, none⟩) hbN).trans i0
              have q1 := ((HBR.out.trans (hbw.mono HBR.out.size)).cell (p := ⟨b, off + k * 2 + 1, none⟩) hbN).trans i1
              have HS := hid (fold_take (f := sstep (ax, ay)) (b := wst l (ax, ay)) hkl)
              clear i0 i1 hbe hbN5
              obtain ⟨x, hx⟩ : ∃ x, px l k = x := ⟨_, rfl⟩
              obtain ⟨y, hy⟩ : ∃ y, py l k = y := ⟨_, rfl⟩
              rw [hx, hy] at HS
              rw [hx] at q0
              rw [hy] at q1
              clear hx hy
              go_upto_region 13 with fail
              have K8 := BoxP.new wr x y
              have hb7 : Below wr.heap.size wr (wr.alloc (.cells #[.int .i64 x, .int .i64 y] 33)) := by go_grown
              replace K5 := K5.later hb7
              replace K6 := K6.later hb7
              replace hbw := grew hbw hb7
              generalize wr.heap.size = B8 at K8 ⊢
              clear q0 q1 hb7
              generalize wr.alloc (.cells #[.int .i64 x, .int .i64 y] 33) = wp at K5 K6 K8 hbw ⊢
              have c5x := K5.c0
              have c5y := K5.c1
              have c6x := K6.c0
              have c6y := K6.c1
              have c8x := K8.c0
              have c8y := K8.c1
              have f0 := K6.f 0
              have f1 := K6.f 1
              clear K8
              obtain ⟨n, hsd⟩ : ∃ n, sg (crossW ax ay bx b_y x y) = n := ⟨_, rfl⟩
              have HD : Hid (ssd (ax, ay) (bx, b_y) (x, y) = n) := hid hsd
              by_cases e0 : x = ax
              · by_cases e1 : y = ay
                · subst e0 e1
                  go_wp2_with (first | (go_at_call 29; refine (side_c _ _ _ _ _ _ _).mono ?_; rw [hsd]; rintro e w1 ⟨rfl, hb⟩; replace hbw := grew hbw hb; replace K5 := K5.later hb; replace K6 := K6.later hb; replace c5x := cell_later hb c5x; replace c5y := cell_later hb c5y; replace c6x := cell_later hb c6x; replace c6y := cell_later hb c6y; replace c8x := cell_later hb c8x; replace c8y := cell_later hb c8y; replace f0 := K6.f 0; replace f1 := K6.f 1; clear hb))
                  go_roundw
                  case rel => exact ⟨k + 1, (bx, b_y), by omega, by go_num, by rw [HS.out, HB.out]; exact (sstep_no0).symm, K5, K6, hbw⟩
                  case measure => simp [intOf]; omega
                · have hne : ((x, y) : Int × Int) ≠ (ax, ay) := fun e => e1 (congrArg Prod.snd e)
                  have HN := hid hne
                  have y1 : (y == ay) = false := by simpa using e1
                  subst e0
                  clear e1 hne
                  by_cases hs0 : n < 0
                  · go_wp2_with (first | (go_at_call 29; refine (side_c _ _ _ _ _ _ _).mono ?_; rw [hsd]; rintro e w1 ⟨rfl, hb⟩; replace hbw := grew hbw hb; replace K5 := K5.later hb; replace K6 := K6.later hb; replace c5x := cell_later hb c5x; replace c5y := cell_later hb c5y; replace c6x := cell_later hb c6x; replace c6y := cell_later hb c6y; replace c8x := cell_later hb c8x; replace c8y := cell_later hb c8y; replace f0 := K6.f 0; replace f1 := K6.f 1; clear hb))
                    go_roundw
                    case rel => exact ⟨k + 1, (x, y), by omega, by go_num, by rw [HS.out, HB.out]; exact (sstep_yes1 HN.out (by have := HD.out; omega)).symm, (K5.other (by omega) _).other (by omega) _, K6.set _ _, (hbw.setCell (p := ⟨wo.heap.size + 1, 0, none⟩) (by show wo.heap.size ≤ wo.heap.size + 1; omega) _).setCell (p := ⟨wo.heap.size + 1, 1, none⟩) (by show wo.heap.size ≤ wo.heap.size + 1; omega) _⟩
                    case measure => simp [intOf]; omega
                  · by_cases hs1 : n = 0
                    · have hd : (n == 0) = true := by simpa using hs1
                      cases hF : farB (x, ay) (bx, b_y) (x, y)
                      · have HZ := hid hs1
                        subst hs1
                        go_wp2_with (first | (go_at_call 29; refine (side_c _ _ _ _ _ _ _).mono ?_; rw [hsd]; rintro e w1 ⟨rfl, hb⟩; replace hbw := grew hbw hb; replace K5 := K5.later hb; replace K6 := K6.later hb; replace c5x := cell_later hb c5x; replace c5y := cell_later hb c5y; replace c6x := cell_later hb c6x; replace c6y := cell_later hb c6y; replace c8x := cell_later hb c8x; replace c8y := cell_later hb c8y; replace f0 := K6.f 0; replace f1 := K6.f 1; clear hb) | (go_at_call 30; refine (far_c _ _ _ _ _ _ _).mono ?_; rw [hF]; rintro e w1 ⟨rfl, hb⟩; replace hbw := grew hbw hb; replace K5 := K5.later hb; replace K6 := K6.later hb; replace c5x := cell_later hb c5x; replace c5y := cell_later hb c5y; replace c6x := cell_later hb c6x; replace c6y := cell_later hb c6y; replace c8x := cell_later hb c8x; replace c8y := cell_later hb c8y; replace f0 := K6.f 0; replace f1 := K6.f 1; clear hb))
                        go_roundw
                        case rel => exact ⟨k + 1, (bx, b_y), by omega, by go_num, by rw [HS.out, HB.out]; exact (sstep_no2 (by have := HD.out; omega) hF).symm, K5, K6, hbw⟩
                        case measure => simp [intOf]; omega
                      · have HZ := hid hs1
                        subst hs1
                        go_wp2_with (first | (go_at_call 29; refine (side_c _ _ _ _ _ _ _).mono ?_; rw [hsd]; rintro e w1 ⟨rfl, hb⟩; replace hbw := grew hbw hb; replace K5 := K5.later hb; replace K6 := K6.later hb; replace c5x := cell_later hb c5x; replace c5y := cell_later hb c5y; replace c6x := cell_later hb c6x; replace c6y := cell_later hb c6y; replace c8x := cell_later hb c8x; replace c8y := cell_later hb c8y; replace f0 := K6.f 0; replace f1 := K6.f 1; clear hb) | (go_at_call 30; refine (far_c _ _ _ _ _ _ _).mono ?_; rw [hF]; rintro e w1 ⟨rfl, hb⟩; replace hbw := grew hbw hb; replace K5 := K5.later hb; replace K6 := K6.later hb; replace c5x := cell_later hb c5x; replace c5y := cell_later hb c5y; replace c6x := cell_later hb c6x; replace c6y := cell_later hb c6y; replace c8x := cell_later hb c8x; replace c8y := cell_later hb c8y; replace f0 := K6.f 0; replace f1 := K6.f 1; clear hb))
                        go_roundw
                        case rel => exact ⟨k + 1, (x, y), by omega, by go_num, by rw [HS.out, HB.out]; exact (sstep_yes2 HN.out (by have := HD.out; omega) hF).symm, (K5.other (by omega) _).other (by omega) _, K6.set _ _, (hbw.setCell (p := ⟨wo.heap.size + 1, 0, none⟩) (by show wo.heap.size ≤ wo.heap.size + 1; omega) _).setCell (p := ⟨wo.heap.size + 1, 1, none⟩) (by show wo.heap.size ≤ wo.heap.size + 1; omega) _⟩
                        case measure => simp [intOf]; omega
                    · have hd : (n == 0) = false := by simpa using hs1
                      go_wp2_with (first | (go_at_call 29; refine (side_c _ _ _ _ _ _ _).mono ?_; rw [hsd]; rintro e w1 ⟨rfl, hb⟩; replace hbw := grew hbw hb; replace K5 := K5.later hb; replace K6 := K6.later hb; replace c5x := cell_later hb c5x; replace c5y := cell_later hb c5y; replace c6x := cell_later hb c6x; replace c6y := cell_later hb c6y; replace c8x := cell_later hb c8x; replace c8y := cell_later hb c8y; replace f0 := K6.f 0; replace f1 := K6.f 1; clear hb))
                      go_roundw
                      case rel => exact ⟨k + 1, (bx, b_y), by omega, by go_num, by rw [HS.out, HB.out]; exact (sstep_no1 (by have := HD.out; omega) (by have := HD.out; omega)).symm, K5, K6, hbw⟩
                      case measure => simp [intOf]; omega
              · have hne : ((x, y) : Int × Int) ≠ (ax, ay) := fun e => e0 (congrArg Prod.fst e)
                have HN := hid hne
                have y0 : (x == ax) = false := by simpa using e0
                clear e0 hne
                by_cases hs0 : n < 0
                · go_wp2_with (first | (go_at_call 29; refine (side_c _ _ _ _ _ _ _).mono ?_; rw [hsd]; rintro e w1 ⟨rfl, hb⟩; replace hbw := grew hbw hb; replace K5 := K5.later hb; replace K6 := K6.later hb; replace c5x := cell_later hb c5x; replace c5y := cell_later hb c5y; replace c6x := cell_later hb c6x; replace c6y := cell_later hb c6y; replace c8x := cell_later hb c8x; replace c8y := cell_later hb c8y; replace f0 := K6.f 0; replace f1 := K6.f 1; clear hb))
                  go_roundw
                  case rel => exact ⟨k + 1, (x, y), by omega, by go_num, by rw [HS.out, HB.out]; exact (sstep_yes1 HN.out (by have := HD.out; omega)).symm, (K5.other (by omega) _).other (by omega) _, K6.set _ _, (hbw.setCell (p := ⟨wo.heap.size + 1, 0, none⟩) (by show wo.heap.size ≤ wo.heap.size + 1; omega) _).setCell (p := ⟨wo.heap.size + 1, 1, none⟩) (by show wo.heap.size ≤ wo.heap.size + 1; omega) _⟩
                  case measure => simp [intOf]; omega
                · by_cases hs1 : n = 0
                  · have hd : (n == 0) = true := by simpa using hs1
                    cases hF : farB (ax, ay) (bx, b_y) (x, y)
                    · have HZ := hid hs1
                      subst hs1
                      go_wp2_with (first | (go_at_call 29; refine (side_c _ _ _ _ _ _ _).mono ?_; rw [hsd]; rintro e w1 ⟨rfl, hb⟩; replace hbw := grew hbw hb; replace K5 := K5.later hb; replace K6 := K6.later hb; replace c5x := cell_later hb c5x; replace c5y := cell_later hb c5y; replace c6x := cell_later hb c6x; replace c6y := cell_later hb c6y; replace c8x := cell_later hb c8x; replace c8y := cell_later hb c8y; replace f0 := K6.f 0; replace f1 := K6.f 1; clear hb) | (go_at_call 30; refine (far_c _ _ _ _ _ _ _).mono ?_; rw [hF]; rintro e w1 ⟨rfl, hb⟩; replace hbw := grew hbw hb; replace K5 := K5.later hb; replace K6 := K6.later hb; replace c5x := cell_later hb c5x; replace c5y := cell_later hb c5y; replace c6x := cell_later hb c6x; replace c6y := cell_later hb c6y; replace c8x := cell_later hb c8x; replace c8y := cell_later hb c8y; replace f0 := K6.f 0; replace f1 := K6.f 1; clear hb))
                      go_roundw
                      case rel => exact ⟨k + 1, (bx, b_y), by omega, by go_num, by rw [HS.out, HB.out]; exact (sstep_no2 (by have := HD.out; omega) hF).symm, K5, K6, hbw⟩
                      case measure => simp [intOf]; omega
                    · have HZ := hid hs1
                      subst hs1
                      go_wp2_with (first | (go_at_call 29; refine (side_c _ _ _ _ _ _ _).mono ?_; rw [hsd]; rintro e w1 ⟨rfl, hb⟩; replace hbw := grew hbw hb; replace K5 := K5.later hb; replace K6 := K6.later hb; replace c5x := cell_later hb c5x; replace c5y := cell_later hb c5y; replace c6x := cell_later hb c6x; replace c6y := cell_later hb c6y; replace c8x := cell_later hb c8x; replace c8y := cell_later hb c8y; replace f0 := K6.f 0; replace f1 := K6.f 1; clear hb) | (go_at_call 30; refine (far_c _ _ _ _ _ _ _).mono ?_; rw [hF]; rintro e w1 ⟨rfl, hb⟩; replace hbw := grew hbw hb; replace K5 := K5.later hb; replace K6 := K6.later hb; replace c5x := cell_later hb c5x; replace c5y := cell_later hb c5y; replace c6x := cell_later hb c6x; replace c6y := cell_later hb c6y; replace c8x := cell_later hb c8x; replace c8y := cell_later hb c8y; replace f0 := K6.f 0; replace f1 := K6.f 1; clear hb))
                      go_roundw
                      case rel => exact ⟨k + 1, (x, y), by omega, by go_num, by rw [HS.out, HB.out]; exact (sstep_yes2 HN.out (by have := HD.out; omega) hF).symm, (K5.other (by omega) _).other (by omega) _, K6.set _ _, (hbw.setCell (p := ⟨wo.heap.size + 1, 0, none⟩) (by show wo.heap.size ≤ wo.heap.size + 1; omega) _).setCell (p := ⟨wo.heap.size + 1, 1, none⟩) (by show wo.heap.size ≤ wo.heap.size + 1; omega) _⟩
                      case measure => simp [intOf]; omega
                  · have hd : (n == 0) = false := by simpa using hs1
                    go_wp2_with (first | (go_at_call 29; refine (side_c _ _ _ _ _ _ _).mono ?_; rw [hsd]; rintro e w1 ⟨rfl, hb⟩; replace hbw := grew hbw hb; replace K5 := K5.later hb; replace K6 := K6.later hb; replace c5x := cell_later hb c5x; replace c5y := cell_later hb c5y; replace c6x := cell_later hb c6x; replace c6y := cell_later hb c6y; replace c8x := cell_later hb c8x; replace c8y := cell_later hb c8y; replace f0 := K6.f 0; replace f1 := K6.f 1; clear hb))
                    go_roundw
                    case rel => exact ⟨k + 1, (bx, b_y), by omega, by go_num, by rw [HS.out, HB.out]; exact (sstep_no1 (by have := HD.out; omega) (by have := HD.out; omega)).symm, K5, K6, hbw⟩
                    case measure => simp [intOf]; omega
            · obtain rfl : k = l.length := by omega
              have HE : Hid ((bx, b_y) = nx l (ax, ay)) := by have := HB.out; rw [List.take_length] at this; exact this.symm.trans (nxS_eq HGA.out HGL.out h2)
              have c6x := K6.c0
              have c6y := K6.c1
              have d0 := cell_later hbw k0
              have d1 := cell_later hbw k1
              have HBW := hid hbw
              clear K5 K6 hbw k0 k1
              by_cases ex : bx = fx
              · by_cases ey : b_y = fy
                · subst ex ey
                  have HR := hid (HT.out.trip.done HE.out.symm)
                  go_wp2
                  go_quiet (fail)
                  go_wp2
                  go_ret2
                  exact ⟨_, rfl, by rw [HR.out]; exact ((HO.out.later HBW.out).later (drewN_below _ _)).mono hb1s, grew (HBR.out.trans (HBW.out.mono HBR.out.size)) (drewN_below _ _)⟩
                · have hnf : nx l (ax, ay) ≠ (fx, fy) := by rw [← HE.out]; exact fun e => ey (congrArg Prod.snd e)
                  have yb : (b_y == fy) = false := by simpa using ey
                  subst ex
                  clear ey
                  have HS := hid (HT.out.step hnf)
                  rw [← HE.out] at HS
                  clear hnf
                  go_wp2
                  go_quiet (fail)
                  go_upto_region 19 with fail
                  have hbq := grew HBW.out (drewN_below nq wr)
                  replace c6x := cell_later (drewN_below nq wr) c6x
                  replace c6y := cell_later (drewN_below nq wr) c6y
                  clear d0 d1 HBW
                  generalize wr.drewN nq = wd at hbq c6x c6y ⊢
                  have HOD := hid (HO.out.later hbq)
                  have HBD := hid (HBR.out.trans (hbq.mono HBR.out.size))
                  have hN1 : N1 ≤ wd.heap.size := by have := hid (HOD.out.ge _ _ rfl); have := this.out; have := HOD.out.at 0 (by omega); obtain ⟨_, _, e5, h5, _⟩ := this; simp at e5; omega
                  clear hbq HO HBR hbNr
                  go_wp2_with (at_builtin; refine wpList_append_cut rfl (.tmp 72) (.tmp 74) 24 rfl N1 Tryz.underlying24 hi hz0 hz1 hz2 (by rfl) _ r [(bx, b_y)] rfl (HOD.out.later (by go_grown)) _ _ _ rfl rfl (fun j u hu => one_src _ bx b_y _ rfl j u hu) (by simp) (by simp; omega) (by simp; omega) ?_; intro g cp w9 hO9 hg9 _; obtain ⟨ln, hln⟩ : ∃ ln, r.length + [(bx, b_y)].length = ln := ⟨_, rfl⟩; rw [hln] at hO9 ⊢)
                  have hln2 : r.length + 1 = ln := hln
                  have hbe : Below wd.heap.size wd (wd.alloc (.cells #[.int .i64 bx, .int .i64 b_y] 33)) := by go_grown
                  have hb9 : Below w.heap.size w w9 := (grew HBD.out hbe).trans ((OwnC.grownBelow (HOD.out.later hbe) hg9 (by have := hbe.size; omega)).mono hb1s)
                  go_roundw
                  case rel => exact ⟨_, _, HS.out, hO9, hb9⟩
                  case measure => have := HS.out.trip.len; rw [List.length_append] at this; simp at this; simp; omega
              · have hnf : nx l (ax, ay) ≠ (fx, fy) := by rw [← HE.out]; exact fun e => ex (congrArg Prod.fst e)
                have yb : (bx == fx) = false := by simpa using ex
                clear ex
                have HS := hid (HT.out.step hnf)
                rw [← HE.out] at HS
                clear hnf
                go_wp2
                go_quiet (fail)
                go_upto_region 19 with fail
                have hbq := grew HBW.out (drewN_below nq wr)
                replace c6x := cell_later (drewN_below nq wr) c6x
                replace c6y := cell_later (drewN_below nq wr) c6y
                clear d0 d1 HBW
                generalize wr.drewN nq = wd at hbq c6x c6y ⊢
                have HOD := hid (HO.out.later hbq)
                have HBD := hid (HBR.out.trans (hbq.mono HBR.out.size))
                have hN1 : N1 ≤ wd.heap.size := by have := hid (HOD.out.ge _ _ rfl); have := this.out; have := HOD.out.at 0 (by omega); obtain ⟨_, _, e5, h5, _⟩ := this; simp at e5; omega
                clear hbq HO HBR hbNr
                go_wp2_with (at_builtin; refine wpList_append_cut rfl (.tmp 72) (.tmp 74) 24 rfl N1 Tryz.underlying24 hi hz0 hz1 hz2 (by rfl) _ r [(bx, b_y)] rfl (HOD.out.later (by go_grown)) _ _ _ rfl rfl (fun j u hu => one_src _ bx b_y _ rfl j u hu) (by simp) (by simp; omega) (by simp; omega) ?_; intro g cp w9 hO9 hg9 _; obtain ⟨ln, hln⟩ : ∃ ln, r.length + [(bx, b_y)].length = ln := ⟨_, rfl⟩; rw [hln] at hO9 ⊢)
                have hln2 : r.length + 1 = ln := hln
                have hbe : Below wd.heap.size wd (wd.alloc (.cells #[.int .i64 bx, .int .i64 b_y] 33)) := by go_grown
                have hb9 : Below w.heap.size w w9 := (grew HBD.out hbe).trans ((OwnC.grownBelow (HOD.out.later hbe) hg9 (by have := hbe.size; omega)).mono hb1s)
                go_roundw
                case rel => exact ⟨_, _, HS.out, hO9, hb9⟩
                case measure => have := HS.out.trip.len; rw [List.length_append] at this; simp at this; simp; omega
end Go.Proofs.YtcghpepkphphbaaGreatDoor
