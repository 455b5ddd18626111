/-
  The opposite of a direction, turns, and what is held at a corner, in the program (contracts for the walks).
  Conditions: as each theorem states them.
-/
import Derived.Test.YtipiamhnngmjmaaDoorAc4
namespace Go.Proofs.YtipiamhnngmjmaaDoor
open Go.RowKit Go.Shelf
set_option linter.unusedVariables false
set_option maxRecDepth 8000
/-- A box with four numbers: two directions. -/
def Box4 (W : World) (B : Nat) (a b c d : Int) : Prop := W.heap[B]? = some (.cells #[.int .i64 a, .int .i64 b, .int .i64 c, .int .i64 d] 72 (0, 0))
theorem Box4.c0 {W : World} {B : Nat} {a b c d : Int} (h : Box4 W B a b c d) : W.cell? ⟨B, 0, none⟩ = some (.int .i64 a) := by simp [World.cell?, show W.heap[B]? = _ from h]
theorem Box4.c1 {W : World} {B : Nat} {a b c d : Int} (h : Box4 W B a b c d) : W.cell? ⟨B, 1, none⟩ = some (.int .i64 b) := by simp [World.cell?, show W.heap[B]? = _ from h]
theorem Box4.c2 {W : World} {B : Nat} {a b c d : Int} (h : Box4 W B a b c d) : W.cell? ⟨B, 2, none⟩ = some (.int .i64 c) := by simp [World.cell?, show W.heap[B]? = _ from h]
theorem Box4.c3 {W : World} {B : Nat} {a b c d : Int} (h : Box4 W B a b c d) : W.cell? ⟨B, 3, none⟩ = some (.int .i64 d) := by simp [World.cell?, show W.heap[B]? = _ from h]
theorem Box4.lt {W : World} {B : Nat} {a b c d : Int} (h : Box4 W B a b c d) : B < W.heap.size := (Array.getElem?_eq_some_iff.1 h).1
theorem Box4.later {W W' : World} {B : Nat} {a b c d : Int} (h : Box4 W B a b c d) (hb : Below W.heap.size W W') : Box4 W' B a b c d := (hb.block B h.lt).trans h
theorem Box4.new (W : World) (a b c d : Int) : Box4 (W.alloc (.cells #[.int .i64 a, .int .i64 b, .int .i64 c, .int .i64 d] 72)) W.heap.size a b c d := World.alloc_heap_new W _
theorem Box4.other {W : World} {B B' i : Nat} {a b c d : Int} (h : Box4 W B a b c d) (hne : B ≠ B') (v : Value) : Box4 (W.setCell ⟨B', i, none⟩ v) B a b c d := (Below.heap_setCell W _ v B hne).trans h
set_option maxHeartbeats 2000000 in
theorem opposite_q (d0 d1 n0 n1 : Int) (w : World) (h : dirB (d0, d1)) (e : ng (d0, d1) = (n0, n1)) : Calls Tryd.prog 60 #[.agg #[.int .i64 d0, .int .i64 d1]] w fun e w' => e = .returned (.agg #[.int .i64 n0, .int .i64 n1]) ∧ Below w.heap.size w w' := by
  have k1 := h.1
  have k2 := h.2
  simp only at k1 k2
  have z0 : 0 - d0 = n0 := congrArg Prod.fst e
  have z1 : 0 - d1 = n1 := congrArg Prod.snd e
  have u0 : wrap64 (0 - d0) = n0 := by rw [wrap_in (by omega) (by omega)]; exact z0
  have u1 : wrap64 (0 - d1) = n1 := by rw [wrap_in (by omega) (by omega)]; exact z1
  have U := hid (⟨u0, u1⟩ : wrap64 (0 - d0) = n0 ∧ wrap64 (0 - d1) = n1)
  clear k1 k2 z0 z1 u0 u1 e h
  go_enter Tryd.func60, Tryd.ntmps60
  go_upto_region 1 with fail
  have KD := (BoxP.new w d0 d1).later ((Below.refl _ (w.alloc (.cells #[.int .i64 d0, .int .i64 d1] 26))).alloc (Nat.le_refl _) (.cells #[.int .i64 0, .int .i64 0] 26))
  have KR := BoxP.new (w.alloc (.cells #[.int .i64 d0, .int .i64 d1] 26)) 0 0
  simp only [World.size_alloc] at KR
  have hbw : Below w.heap.size w ((w.alloc (.cells #[.int .i64 d0, .int .i64 d1] 26)).alloc (.cells #[.int .i64 0, .int .i64 0] 26)) := by go_grown
  have hle : w.heap.size ≤ w.heap.size + 1 := Nat.le_succ _
  generalize w.heap.size + 1 = BR at KR hle ⊢
  generalize (w.alloc (.cells #[.int .i64 d0, .int .i64 d1] 26)).alloc (.cells #[.int .i64 0, .int .i64 0] 26) = w0 at KD KR hbw ⊢
  have x0 := KD.c0
  have x1 := KD.c1
  go_wp2_with (go_at_call 76; refine (wayFrom_c _ _ _ _ _).mono ?_; rw [U.out.1, U.out.2]; rintro e w1 ⟨rfl, hb⟩; replace KR := KR.later hb; replace hbw := grew hbw hb; clear hb x0 x1; have c0 := KR.c0; have c1 := KR.c1; have f0 := KR.f 0; have f1 := KR.f 1)
  have Z := KR.set n0 n1
  have hz := (hbw.setCell (p := ⟨BR, 0, none⟩) hle (.int .i64 n0)).setCell (p := ⟨BR, 1, none⟩) hle (.int .i64 n1)
  generalize (w1.setCell ⟨BR, 0, none⟩ (.int .i64 n0)).setCell ⟨BR, 1, none⟩ (.int .i64 n1) = wz at Z hz ⊢
  have r0 := Z.c0
  have r1 := Z.c1
  refine bodyPost_ret (v := .agg #[.int .i64 n0, .int .i64 n1]) (by simp [results, Tryd.results60, go_sem, r0, r1]) rfl ?_
  exact ⟨rfl, hz⟩
set_option maxHeartbeats 2000000 in
theorem turnsR_q (a0 a1 b0 b1 : Int) (t : Bool) (w : World) (ha : dirB (a0, a1)) (hb : dirB (b0, b1)) (e : decide (cx (a0, a1) (b0, b1) < 0) = t) : Calls Tryd.prog 88 #[.agg #[.int .i64 a0, .int .i64 a1], .agg #[.int .i64 b0, .int .i64 b1]] w fun e w' => e = .returned (.bool t) ∧ Below w.heap.size w w' := by
  have m1 := mulB ha.1 hb.2
  have m2 := mulB ha.2 hb.1
  have k1 := ha.1
  have k2 := ha.2
  have k3 := hb.1
  have k4 := hb.2
  simp only at m1 m2 k1 k2 k3 k4
  have v0 : wrap64 (a0 - 0) = a0 := by rw [wrap_in (by omega) (by omega)]; omega
  have v1 : wrap64 (b1 - 0) = b1 := by clear v0; rw [wrap_in (by omega) (by omega)]; omega
  have v2 : wrap64 (a1 - 0) = a1 := by clear v0 v1; rw [wrap_in (by omega) (by omega)]; omega
  have v3 : wrap64 (b0 - 0) = b0 := by clear v0 v1 v2; rw [wrap_in (by omega) (by omega)]; omega
  have e1 : wrap64 (a0 * b1) = a0 * b1 := by clear v0 v1 v2 v3; exact wrap_in (by omega) (by omega)
  have e2 : wrap64 (a1 * b0) = a1 * b0 := by clear v0 v1 v2 v3 e1; exact wrap_in (by omega) (by omega)
  have e3 : wrap64 (a0 * b1 - a1 * b0) = cx (a0, a1) (b0, b1) := by clear v0 v1 v2 v3 e1 e2; exact wrap_in (by omega) (by omega)
  have U := hid (show wrap64 (wrap64 (wrap64 (a0 - 0) * wrap64 (b1 - 0)) - wrap64 (wrap64 (a1 - 0) * wrap64 (b0 - 0))) = cx (a0, a1) (b0, b1) by rw [v0, v1, v2, v3, e1, e2, e3])
  clear v0 v1 v2 v3 e1 e2 e3 m1 m2 k1 k2 k3 k4 ha hb
  obtain ⟨q, hq⟩ : ∃ q, cx (a0, a1) (b0, b1) = q := ⟨_, rfl⟩
  rw [hq] at e U
  have hbw : Below w.heap.size w ((w.alloc (.cells #[.int .i64 a0, .int .i64 a1] 26)).alloc (.cells #[.int .i64 b0, .int .i64 b1] 26)) := by go_grown
  clear hq
  go_enter Tryd.func88, Tryd.ntmps88
  go_wp2_with (go_at_call 107; refine (twA_c _ _ _ _ _ _ _).mono ?_; rw [U.out]; rintro e w1 ⟨rfl, hb⟩; have hb1 := grew hbw hb; clear hb)
  go_ret
  exact ⟨by rw [← e]; rfl, hb1⟩
theorem hldI_two (e b d : Int × Int) : hldI e b d = (!decide (cx e d < 0) && !decide (cx d b < 0)) := rfl
set_option maxHeartbeats 4000000 in
theorem holdsI_q (e0 e1 b0 b1 d0 d1 : Int) (t : Bool) (w : World) (he : dirB (e0, e1)) (hb : dirB (b0, b1)) (hd : dirB (d0, d1)) (h : hldI (e0, e1) (b0, b1) (d0, d1) = t) :
    Calls Tryd.prog 59 #[.agg #[.int .i64 e0, .int .i64 e1, .int .i64 b0, .int .i64 b1], .agg #[.int .i64 d0, .int .i64 d1]] w fun e w' => e = .returned (.bool t) ∧ Below w.heap.size w w' := by
  have HE := hid he
  have HB := hid hb
  have HD := hid hd
  clear he hb hd
  rw [hldI_two] at h
  subst h
  cases h1 : decide (cx (e0, e1) (d0, d1) < 0)
  · cases h2 : decide (cx (d0, d1) (b0, b1) < 0)
    all_goals have H1 := hid h1
    all_goals have H2 := hid h2
    all_goals clear h1 h2
    all_goals have tk1 : True := trivial
    all_goals
      go_enter Tryd.func59, Tryd.ntmps59
      go_upto_region 1 with fail
      have KC : Box4 ((w.alloc (.cells #[.int .i64 e0, .int .i64 e1, .int .i64 b0, .int .i64 b1] 72)).alloc (.cells #[.int .i64 d0, .int .i64 d1] 26)) w.heap.size e0 e1 b0 b1 := Box4.later (Box4.new w e0 e1 b0 b1) ((Below.refl _ _).alloc (Nat.le_refl _) _)
      have KD := BoxP.new (w.alloc (.cells #[.int .i64 e0, .int .i64 e1, .int .i64 b0, .int .i64 b1] 72)) d0 d1
      simp only [World.size_alloc] at KD
      have hbw : Below w.heap.size w ((w.alloc (.cells #[.int .i64 e0, .int .i64 e1, .int .i64 b0, .int .i64 b1] 72)).alloc (.cells #[.int .i64 d0, .int .i64 d1] 26)) := by go_grown
      generalize w.heap.size + 1 = BD at KD ⊢
      generalize hBC : w.heap.size = BC at KC ⊢
      generalize (w.alloc (.cells #[.int .i64 e0, .int .i64 e1, .int .i64 b0, .int .i64 b1] 72)).alloc (.cells #[.int .i64 d0, .int .i64 d1] 26) = w0 at KC KD hbw ⊢
      have x0 := KC.c0
      have x1 := KC.c1
      have x2 := KC.c2
      have x3 := KC.c3
      have y0 := KD.c0
      have y1 := KD.c1
      go_wp2_with (first
        | (go_at_call 88; clear tk1; refine (turnsR_q _ _ _ _ _ _ HE.out HD.out H1.out).mono ?_; rintro e w1 ⟨rfl, hb⟩; replace KC := Box4.later KC hb; replace KD := KD.later hb; replace hbw := grew hbw hb; clear hb; have x0 := KC.c0; have x1 := KC.c1; have x2 := KC.c2; have x3 := KC.c3; have y0 := KD.c0; have y1 := KD.c1)
        | (go_at_call 88; refine (turnsR_q _ _ _ _ _ _ HD.out HB.out H2.out).mono ?_; rintro e w2 ⟨rfl, hb⟩; replace KC := Box4.later KC hb; replace KD := KD.later hb; replace hbw := grew hbw hb; clear hb; have x0 := KC.c0; have x1 := KC.c1; have x2 := KC.c2; have x3 := KC.c3; have y0 := KD.c0; have y1 := KD.c1))
      go_ret
      exact ⟨by first | rfl | simp, by first | exact hbw | (rw [← hBC]; exact hbw)⟩
  · have H1 := hid h1
    clear h1
    go_enter Tryd.func59, Tryd.ntmps59
    go_upto_region 1 with fail
    have KC : Box4 ((w.alloc (.cells #[.int .i64 e0, .int .i64 e1, .int .i64 b0, .int .i64 b1] 72)).alloc (.cells #[.int .i64 d0, .int .i64 d1] 26)) w.heap.size e0 e1 b0 b1 := Box4.later (Box4.new w e0 e1 b0 b1) ((Below.refl _ _).alloc (Nat.le_refl _) _)
    have KD := BoxP.new (w.alloc (.cells #[.int .i64 e0, .int .i64 e1, .int .i64 b0, .int .i64 b1] 72)) d0 d1
    simp only [World.size_alloc] at KD
    have hbw : Below w.heap.size w ((w.alloc (.cells #[.int .i64 e0, .int .i64 e1, .int .i64 b0, .int .i64 b1] 72)).alloc (.cells #[.int .i64 d0, .int .i64 d1] 26)) := by go_grown
    generalize w.heap.size + 1 = BD at KD ⊢
    generalize hBC : w.heap.size = BC at KC ⊢
    generalize (w.alloc (.cells #[.int .i64 e0, .int .i64 e1, .int .i64 b0, .int .i64 b1] 72)).alloc (.cells #[.int .i64 d0, .int .i64 d1] 26) = w0 at KC KD hbw ⊢
    have x0 := KC.c0
    have x1 := KC.c1
    have x2 := KC.c2
    have x3 := KC.c3
    have y0 := KD.c0
    have y1 := KD.c1
    go_wp2_with (go_at_call 88; refine (turnsR_q _ _ _ _ _ _ HE.out HD.out H1.out).mono ?_; rintro e w1 ⟨rfl, hb⟩; replace KC := Box4.later KC hb; replace KD := KD.later hb; replace hbw := grew hbw hb; clear hb; have x0 := KC.c0; have x1 := KC.c1; have x2 := KC.c2; have x3 := KC.c3; have y0 := KD.c0; have y1 := KD.c1)
    go_ret
    exact ⟨by first | rfl | simp, by first | exact hbw | (rw [← hBC]; exact hbw)⟩
end Go.Proofs.YtipiamhnngmjmaaDoor
