/-
  A set gone round from corner to corner, in the program (a contract for the walks).
  Conditions: as each theorem states them.
-/
import Derived.Test.YtcghpepkphphbaaGreatDoorHNext
namespace Go.Proofs.YtcghpepkphphbaaGreatDoor
open Go.RowKit Go.Shelf
set_option linter.unusedVariables false
set_option maxRecDepth 8000
theorem OwnC.blk {N : Nat} {v : Value} {l : List (Int × Int)} {w : World} (h : OwnC N v l w) : ∀ r, v.ownBlock = Option.some r → N ≤ r ∧ r < w.heap.size := by
  intro r hr
  rcases h with ⟨_, rfl⟩ | ⟨g, c, M, f, rfl, h1, h2, h3, hM, h4, h5⟩
  · simp [Value.ownBlock] at hr
  · simp [Value.ownBlock] at hr
    subst hr
    exact ⟨h1, h4.lt⟩
/-- Gone round as far as r, to a; R is what it comes to. -/
structure Trip (s : List (Int × Int)) (f : Int × Int) (R r : List (Int × Int)) (a : Int × Int) : Prop where
  went : Went s f r a
  comes : wrapGo s f (s.length + 1 - r.length) r (nx s a) = R
  len : r.length ≤ s.length
  one : 1 ≤ r.length
theorem Trip.start {f : Int × Int} {t : List (Int × Int)} (h : Ext (f :: t) f) : Trip (f :: t) f (wrapR (f :: t)) [f] f :=
  ⟨Went.start (by simp) h, by rw [show (f :: t).length + 1 - [f].length = (f :: t).length by simp]; rfl, by simp, by simp⟩
theorem Trip.done {s : List (Int × Int)} {f a : Int × Int} {R r : List (Int × Int)} (h : Trip s f R r a) (hp : nx s a = f) : R = r := by
  rw [← h.comes, hp, wrapGo_end]
theorem Trip.step {s : List (Int × Int)} {f a : Int × Int} {R r : List (Int × Int)} (h : Trip s f R r a) (hp : nx s a ≠ f) : Trip s f R (r ++ [nx s a]) (nx s a) := by
  obtain ⟨h1, h2⟩ := h.went.step hp
  refine ⟨h1, ?_, by rw [List.length_append]; exact h2, by rw [List.length_append]; simp⟩
  have hc := h.comes
  rw [show s.length + 1 - r.length = (s.length - r.length) + 1 by omega, wrapGo_step hp] at hc
  rw [← hc, List.length_append]
  rw [show s.length + 1 - (r.length + [nx s a].length) = s.length - r.length by simp]
theorem Trip.good {s : List (Int × Int)} {f a : Int × Int} {R r : List (Int × Int)} (h : Trip s f R r a) (hs : allG s) : gp a := hs _ (h.went.sub _ h.went.last)
theorem BoxP.grown {W W' : World} {B : Nat} {p : Int × Int} {v : Value} (h : BoxP W B p) (hg : W.grownBy W' v.ownBlock) (hne : v.ownBlock ≠ some B) : BoxP W' B p :=
  (hg.block B h.lt (fun e => hne e.symm)).trans h
theorem wrap_own1 (W : World) (x y : Int) : OwnC W.heap.size (.slice (some ⟨W.heap.size, 0, none⟩) 1 1) [(x, y)] (W.alloc (.cells #[.int .i64 x, .int .i64 y] 33)) :=
  ownC_of (l := [(x, y)]) (Nat.le_refl _) (World.alloc_heap_new W _) (by simp) (by unfold maxLen; simp) (by simp) rfl
theorem own2 {N B g n cp i j : Nat} {l : List (Int × Int)} {w : World} {u v : Value} (h : OwnC N (.slice (some ⟨g, 0, none⟩) n cp) l w) (hlt : ∀ r, (Value.slice (some ⟨g, 0, none⟩) n cp).ownBlock = some r → r < B) : OwnC N (.slice (some ⟨g, 0, none⟩) n cp) l ((w.setCell ⟨B, i, none⟩ u).setCell ⟨B, j, none⟩ v) := by
  have hg := hlt g rfl
  rcases h with h | ⟨g', c, M, f, e, h1, h2, h3, hM, ⟨cc, k1, k2, k3⟩, h5⟩
  · exact .inl h
  · simp at e
    obtain ⟨rfl, rfl, rfl⟩ := e
    exact .inr ⟨g, _, M, f, rfl, h1, h2, h3, hM, ⟨cc, ((Below.heap_setCell _ _ v g (by show g ≠ B; omega)).trans (Below.heap_setCell w _ u g (by show g ≠ B; omega))).trans k1, k2, k3⟩, h5⟩
set_option maxHeartbeats 1000000 in
theorem wrapped_c (l : List (Int × Int)) (a : Option Addr) (len cap : Nat) (w : World) (hl : l.length = len) (h1 : len ≤ 500000) (hG : goodL l = true) (hA : At w.heap.size a l w) (c0 : w.cell? ⟨0, 0, none⟩ = some (.int .i64 1000000)) :
    Calls Tryz.prog 27 #[.slice a len cap] w fun e w' => ∃ v, e = .returned v ∧ OwnC w.heap.size v (wrapR l) w' ∧ Below w.heap.size w w' := by
  subst hl
  have hz : 0 < w.heap.size := World.block_lt_of_cell? w _ c0
  have HA := hid hA
  have C0 := hid c0
  have HG := hid (goodL_all hG)
  have HR := hid (goodL_rises hG)
  clear hA c0 hG
  obtain ⟨i0, hi, hz0, hz1, hz2⟩ := info_parts info_pt
  match l, h1, HA, HG, HR with
  | [], h1, HA, HG, HR =>
    go_enter Tryz.func27, Tryz.ntmps27
    go_wp2
    go_ret
    exact ⟨_, rfl, OwnC.nil _ _, Below.refl _ _⟩
  | (fx, fy) :: t, h1, HA, HG, HR =>
    obtain ⟨l, hl⟩ : ∃ l, (fx, fy) :: t = l := ⟨_, rfl⟩
    have hS := hid (Trip.start (first_ext HR.out))
    have hl0 : ((l.length : Int) == 0) = false := by rw [← hl]; simp <;> omega
    have hl1 : (0 : Int) < (l.length : Int) := by rw [← hl]; simp <;> omega
    have hf : px l 0 = fx ∧ py l 0 = fy := by rw [← hl]; exact ⟨rfl, rfl⟩
    rw [hl] at h1 HA HG HR hS ⊢
    clear HR
    obtain ⟨b, off, rfl, hbN, g0, g1⟩ := HA.out 0 (by omega)
    rw [hf.1] at g0
    rw [hf.2] at g1
    rw [Nat.zero_mul, Nat.add_zero] at g0 g1
    clear hf hl
    go_enter Tryz.func27, Tryz.ntmps27
    go_upto_region 5 with fail
    have K3 := BoxP.later (BoxP.new w fx fy) ((Below.refl _ _).alloc (Nat.le_refl _) (.cells #[.int .i64 fx, .int .i64 fy] 33))
    have O4 := wrap_own1 (w.alloc (.cells #[.int .i64 fx, .int .i64 fy] 33)) fx fy
    simp only [World.size_alloc] at O4
    have hb0 : Below w.heap.size w ((w.alloc (.cells #[.int .i64 fx, .int .i64 fy] 33)).alloc (.cells #[.int .i64 fx, .int .i64 fy] 33)) := by go_grown
    generalize (w.alloc (.cells #[.int .i64 fx, .int .i64 fy] 33)).alloc (.cells #[.int .i64 fx, .int .i64 fy] 33) = w0 at K3 O4 hb0 ⊢
    clear g0 g1
    have c3x := K3.c0
    have c3y := K3.c1
    have HK := hid K3
    have HO := hid O4
    clear K3 O4
    go_wp2_with (go_at_call 53; refine (nextRound_c l _ _ _ _ _ _ rfl (by omega) ((HA.out.later hb0).mono hb0.size) (cell_later hb0 C0.out)).mono ?_; rintro e w1 ⟨rfl, hb1⟩)
    rw [nxI_eq (hS.out.good HG.out) HG.out]
    have hbw := grew hb0 hb1
    obtain ⟨x, y, hxy⟩ : ∃ x y, nx l (fx, fy) = (x, y) := ⟨_, _, rfl⟩
    rw [hxy]
    clear c3x c3y
    go_loopw [4, 5] (fun v q wr => ∃ (r : List (Int × Int)) (a : Int × Int) (Bp : Nat) (x y : Int), Trip l (fx, fy) (wrapR l) r a ∧ nx l a = (x, y) ∧ q = .pointer (some ⟨Bp, 0, none⟩) ∧ BoxP wr Bp (x, y) ∧ w.heap.size < Bp ∧ v.ownBlock ≠ some Bp ∧ OwnC (w.heap.size + 1) v r wr ∧ BoxP wr w.heap.size (fx, fy) ∧ Below w.heap.size w wr) (fun v _ _ => l.length - (match v with | .slice _ n _ => n | _ => 0))
    case atStart =>
      refine ⟨_, _, _, x, y, hS.out, hxy, rfl, BoxP.new w1 x y, ?_, ?_, (HO.out.later hb1).later (by go_grown), (HK.out.later hb1).later (by go_grown), hbw.trans ((Below.refl _ _).alloc hbw.size _)⟩
      · have := HK.out.lt
        have := hb1.size
        omega
      · intro e
        have := ((HO.out.later hb1).blk _ e).2
        omega
    case round =>
      obtain ⟨r, a, Bp, x', y', hT, hxy', rfl, KP, hBp, hne, hO, KF, hbr⟩ := hrel
      obtain ⟨a3, cp3, rfl⟩ := hO.shape
      have hrl := hT.len
      have hr1 := hT.one
      have kx := KP.c0
      have ky := KP.c1
      have k0 := KF.c0
      have k1 := KF.c1
      have HT := hid hT
      have HX := hid hxy'
      have HP := hid KP
      have HF := hid KF
      have HO2 := hid hO
      have HB := hid hbr
      have hs1 := hbr.size
      clear hT hxy' KP KF hO hbr hxy hS hb0 hb1 hbw HK HO
      by_cases ex : x' = fx
      · by_cases ey : y' = fy
        · subst ex ey
          have HE := hid (HT.out.done HX.out)
          go_wp2
          go_ret
          exact ⟨_, rfl, by rw [HE.out]; exact HO2.out.mono (Nat.le_succ _), HB.out⟩
        · have hnf : nx l a ≠ (fx, fy) := by rw [HX.out]; exact fun e => ey (congrArg Prod.snd e)
          have yb : (y' == fy) = false := by simpa using ey
          subst ex
          clear ey
          have HS := hid (HT.out.step hnf)
          rw [HX.out] at HS
          clear hnf
          go_upto_region 9 with (at_builtin; refine wpList_append_cut rfl (.tmp 23) (.tmp 25) 24 rfl (w.heap.size + 1) Tryz.underlying24 hi hz0 hz1 hz2 (by rfl) _ r [(x', y')] rfl (HO2.out.later (by go_grown)) _ _ _ rfl rfl (fun j u hu => one_src _ x' y' _ rfl j u hu) (by simp) (by simp; omega) (by simp; omega) ?_; intro g cp w2 hO2 hg2 _; obtain ⟨ln, hln⟩ : ∃ ln, r.length + [(x', y')].length = ln := ⟨_, rfl⟩; rw [hln] at hO2 ⊢)
          have hln2 : r.length + 1 = ln := hln
          have hbe : Below wr.heap.size wr (wr.alloc (.cells #[.int .i64 x', .int .i64 y'] 33)) := by go_grown
          have KP2 := BoxP.grown (HP.out.later hbe) hg2 hne
          have KF2 := BoxP.grown (HF.out.later hbe) hg2 (fun e => by have := (HO2.out.blk _ e).1; omega)
          have hb2 : Below w.heap.size w w2 := (grew HB.out hbe).trans ((OwnC.grownBelow (HO2.out.later hbe) hg2 (by have := hbe.size; have := HF.out.lt; omega)).mono (Nat.le_succ _))
          clear hg2 hbe HO2 HP HF HB kx ky k0 k1 hln
          have p0 := KP2.c0
          have p1 := KP2.c1
          go_upto_region 7 with fail
          have KN := BoxP.new w2 x' y'
          have hba : Below w2.heap.size w2 (w2.alloc (.cells #[.int .i64 x', .int .i64 y'] 33)) := by go_grown
          have hnw : ∀ r, (Value.slice (some ⟨g, 0, none⟩) ln cp).ownBlock = some r → r < w2.heap.size := fun r e => (hO2.blk r e).2
          have KF3 := KF2.later hba
          have hO3 := hO2.later hba
          have hb3 := grew hb2 hba
          have hgt : w.heap.size < w2.heap.size := KF2.lt
          clear KP2 KF2 hO2 hb2 p0 p1 hba
          generalize w2.heap.size = Bn at KN hnw hgt ⊢
          generalize w2.alloc (.cells #[.int .i64 x', .int .i64 y'] 33) = w3 at KN KF3 hO3 hb3 ⊢
          have n0 := KN.c0
          have n1 := KN.c1
          have HKN := hid KN
          have HKF := hid KF3
          have HO3 := hid hO3
          have HB3 := hid hb3
          clear KN KF3 hO3 hb3
          go_wp2_with (go_at_call 53; refine (nextRound_c l _ _ _ _ _ _ rfl (by omega) ((HA.out.later HB3.out).mono HB3.out.size) (cell_later HB3.out C0.out)).mono ?_; rintro e w4 ⟨rfl, hb4⟩; replace n0 := cell_later hb4 n0; replace n1 := cell_later hb4 n1; have f0 := (HKN.out.later hb4).f 0; have f1 := (HKN.out.later hb4).f 1)
          go_roundw
          case rel => exact ⟨r ++ [(x', y')], (x', y'), Bn, _, _, HS.out, (nxI_eq (HS.out.good HG.out) HG.out).symm, rfl, (HKN.out.later hb4).set _ _, hgt, fun e => by have := hnw _ e; omega, own2 ((HO3.out.later hb4)) hnw, ((HKF.out.later hb4).other (by omega) _).other (by omega) _, ((grew HB3.out hb4).setCell (p := ⟨Bn, 0, none⟩) (by show w.heap.size ≤ Bn; omega) _).setCell (p := ⟨Bn, 1, none⟩) (by show w.heap.size ≤ Bn; omega) _⟩
          case measure => have := HS.out.len; rw [List.length_append] at this; simp at this; simp; omega
      · have hnf : nx l a ≠ (fx, fy) := by rw [HX.out]; exact fun e => ex (congrArg Prod.fst e)
        have yb : (x' == fx) = false := by simpa using ex
        clear ex
        have HS := hid (HT.out.step hnf)
        rw [HX.out] at HS
        clear hnf
        go_upto_region 9 with (at_builtin; refine wpList_append_cut rfl (.tmp 23) (.tmp 25) 24 rfl (w.heap.size + 1) Tryz.underlying24 hi hz0 hz1 hz2 (by rfl) _ r [(x', y')] rfl (HO2.out.later (by go_grown)) _ _ _ rfl rfl (fun j u hu => one_src _ x' y' _ rfl j u hu) (by simp) (by simp; omega) (by simp; omega) ?_; intro g cp w2 hO2 hg2 _; obtain ⟨ln, hln⟩ : ∃ ln, r.length + [(x', y')].length = ln := ⟨_, rfl⟩; rw [hln] at hO2 ⊢)
        have hln2 : r.length + 1 = ln := hln
        have hbe : Below wr.heap.size wr (wr.alloc (.cells #[.int .i64 x', .int .i64 y'] 33)) := by go_grown
        have KP2 := BoxP.grown (HP.out.later hbe) hg2 hne
        have KF2 := BoxP.grown (HF.out.later hbe) hg2 (fun e => by have := (HO2.out.blk _ e).1; omega)
        have hb2 : Below w.heap.size w w2 := (grew HB.out hbe).trans ((OwnC.grownBelow (HO2.out.later hbe) hg2 (by have := hbe.size; have := HF.out.lt; omega)).mono (Nat.le_succ _))
        clear hg2 hbe HO2 HP HF HB kx ky k0 k1 hln
        have p0 := KP2.c0
        have p1 := KP2.c1
        go_upto_region 7 with fail
        have KN := BoxP.new w2 x' y'
        have hba : Below w2.heap.size w2 (w2.alloc (.cells #[.int .i64 x', .int .i64 y'] 33)) := by go_grown
        have hnw : ∀ r, (Value.slice (some ⟨g, 0, none⟩) ln cp).ownBlock = some r → r < w2.heap.size := fun r e => (hO2.blk r e).2
        have KF3 := KF2.later hba
        have hO3 := hO2.later hba
        have hb3 := grew hb2 hba
        have hgt : w.heap.size < w2.heap.size := KF2.lt
        clear KP2 KF2 hO2 hb2 p0 p1 hba
        generalize w2.heap.size = Bn at KN hnw hgt ⊢
        generalize w2.alloc (.cells #[.int .i64 x', .int .i64 y'] 33) = w3 at KN KF3 hO3 hb3 ⊢
        have n0 := KN.c0
        have n1 := KN.c1
        have HKN := hid KN
        have HKF := hid KF3
        have HO3 := hid hO3
        have HB3 := hid hb3
        clear KN KF3 hO3 hb3
        go_wp2_with (go_at_call 53; refine (nextRound_c l _ _ _ _ _ _ rfl (by omega) ((HA.out.later HB3.out).mono HB3.out.size) (cell_later HB3.out C0.out)).mono ?_; rintro e w4 ⟨rfl, hb4⟩; replace n0 := cell_later hb4 n0; replace n1 := cell_later hb4 n1; have f0 := (HKN.out.later hb4).f 0; have f1 := (HKN.out.later hb4).f 1)
        go_roundw
        case rel => exact ⟨r ++ [(x', y')], (x', y'), Bn, _, _, HS.out, (nxI_eq (HS.out.good HG.out) HG.out).symm, rfl, (HKN.out.later hb4).set _ _, hgt, fun e => by have := hnw _ e; omega, own2 ((HO3.out.later hb4)) hnw, ((HKF.out.later hb4).other (by omega) _).other (by omega) _, ((grew HB3.out hb4).setCell (p := ⟨Bn, 0, none⟩) (by show w.heap.size ≤ Bn; omega) _).setCell (p := ⟨Bn, 1, none⟩) (by show w.heap.size ≤ Bn; omega) _⟩
        case measure => have := HS.out.len; rw [List.length_append] at this; simp at this; simp; omega
end Go.Proofs.YtcghpepkphphbaaGreatDoor
