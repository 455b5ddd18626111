/-
  The best two of a set, nearest or farthest: the program's search and the specification's (contracts for the walks).
  Conditions: as each theorem states them.
-/
import Derived.Test.YtipiamhnngmjmaaDoorNr2
namespace Go.Proofs.YtipiamhnngmjmaaDoor
open Go.RowKit Go.Shelf
set_option linter.unusedVariables false
set_option maxRecDepth 8000
def bsOk (l : List (Int × Int)) : Bool := goodL l && decide (2 ≤ l.length)
def bsV (k : Int) (l : List (Int × Int)) : (Int × Int) × (Int × Int) := if bsOk l = true then bst k l else ((0, 0), (0, 0))
theorem ret_ppb {a b c d a' b' c' d' : Int} {x y : Bool} (h1 : a = a') (h2 : b = b') (h3 : c = c') (h4 : d = d') (k : x = y) : Ending.returned (.tuple #[.agg #[.int .i64 a, .int .i64 b], .agg #[.int .i64 c, .int .i64 d], .bool x]) = .returned (.tuple #[.agg #[.int .i64 a', .int .i64 b'], .agg #[.int .i64 c', .int .i64 d'], .bool y]) := by rw [h1, h2, h3, h4, k]
theorem sign_q (n q : Int) (w : World) (e : sg n = q) : Calls Tryd.prog 77 #[.int .i64 n] w fun e w' => e = .returned (.int .i64 q) ∧ w = w' := by
  rw [← e]; exact signImpl_c _ _
/-- What is left to do. -/
def left (k : Int) (l : List (Int × Int)) (i m : Nat) (s : (Int × Int) × (Int × Int)) : (Int × Int) × (Int × Int) := ((l.drop m).map (fun y => (pt l i, y)) ++ prs (l.drop (i + 1))).foldl (bstep k) s
theorem left_start (k : Int) (l : List (Int × Int)) (s : (Int × Int) × (Int × Int)) {i : Nat} (h : i < l.length) : (prs (l.drop i)).foldl (bstep k) s = left k l i (i + 1) s := by
  rw [prs_drop h]; rfl
theorem left_step (k : Int) (l : List (Int × Int)) (s : (Int × Int) × (Int × Int)) (i : Nat) {m : Nat} (h : m < l.length) : left k l i m s = left k l i (m + 1) (bstep k s (pt l i, pt l m)) := by
  unfold left
  rw [map_drop_step h]; rfl
theorem left_end (k : Int) (l : List (Int × Int)) (s : (Int × Int) × (Int × Int)) (i : Nat) {m : Nat} (h : l.length ≤ m) : left k l i m s = (prs (l.drop (i + 1))).foldl (bstep k) s := by
  unfold left
  rw [List.drop_eq_nil_of_le h]; rfl
theorem prs_end {l : List (Int × Int)} {i : Nat} (h : l.length ≤ i) (k : Int) (s : (Int × Int) × (Int × Int)) : (prs (l.drop i)).foldl (bstep k) s = s := by
  rw [List.drop_eq_nil_of_le h]; rfl
theorem sg_cases (n : Int) : (n < 0 ∧ sg n = -1) ∨ (n = 0 ∧ sg n = 0) ∨ (0 < n ∧ sg n = 1) := by
  unfold sg
  split
  · exact .inl ⟨by omega, rfl⟩
  · split
    · exact .inr (.inr ⟨by omega, rfl⟩)
    · exact .inr (.inl ⟨by omega, rfl⟩)
set_option maxHeartbeats 8000000 in
theorem bestImpl_c (k : Int) (s : Int) (hks : (k = 1 ∧ s = -1) ∨ (k = -1 ∧ s = 1)) (l : List (Int × Int)) (a : Option Addr) (len cap : Nat) (w : World) (hl : l.length = len) (h1 : len ≤ 1048576) (hF : Fit a len cap) (hA : At w.heap.size a l w) (c0 : w.cell? ⟨0, 0, none⟩ = some (.int .i64 1000000)) :
    Calls Tryd.prog 51 #[.slice a len cap, .int .i64 s] w fun e w' => e = .returned (.tuple #[.agg #[.int .i64 (bsV k l).1.1, .int .i64 (bsV k l).1.2], .agg #[.int .i64 (bsV k l).2.1, .int .i64 (bsV k l).2.2], .bool (bsOk l)]) ∧ Below w.heap.size w w' := by
  subst hl
  have HA := hid hA
  have HKS := hid hks
  have HF : Hid (l.length ≤ cap) := by rcases hF with ⟨_, h3, h4⟩ | ⟨_, h3, _⟩ <;> (show _ ≤ _; omega)
  have C0 := hid c0
  clear hA hks hF c0
  cases hG : goodL l
  · have HK : Hid (bsOk l = false) := by unfold bsOk; rw [hG]; rfl
    go_enter Tryd.func51, Tryd.ntmps51
    go_upto_region 1 with fail
    have K5 := BoxP.new (w.alloc (.cells #[.int .i64 0, .int .i64 0] 26)) 0 0
    have K4 := (BoxP.new w 0 0).later ((Below.refl _ (w.alloc (.cells #[.int .i64 0, .int .i64 0] 26))).alloc (Nat.le_refl _) (.cells #[.int .i64 0, .int .i64 0] 26))
    simp only [World.size_alloc] at K5
    have hb0 : Below w.heap.size w ((w.alloc (.cells #[.int .i64 0, .int .i64 0] 26)).alloc (.cells #[.int .i64 0, .int .i64 0] 26)) := by go_grown
    generalize (w.alloc (.cells #[.int .i64 0, .int .i64 0] 26)).alloc (.cells #[.int .i64 0, .int .i64 0] 26) = w0 at K4 K5 hb0 ⊢
    have n45 : w.heap.size ≠ w.heap.size + 1 := by omega
    go_wp2_with (go_at_call 52; refine (goodSetImpl_c l _ _ _ _ rfl h1 ((HA.out.later hb0).mono hb0.size) (cell_later hb0 C0.out)).mono ?_; rw [hG]; rintro e w1 ⟨rfl, hb1⟩; replace K4 := K4.later hb1; replace K5 := K5.later hb1; have hb := grew hb0 hb1; clear hb0 hb1; have c40 := K4.c0; have c41 := K4.c1; have c50 := K5.c0; have c51 := K5.c1; have f40 := K4.f 0; have f41 := K4.f 1; have f50 := K5.f 0; have f51 := K5.f 1)
    have Z4 := ((K4.set 0 0).other (i := 0) (B' := w.heap.size + 1) n45 (.int .i64 0)).other (i := 1) (B' := w.heap.size + 1) n45 (.int .i64 0)
    have Z5 := ((K5.other (i := 0) (B' := w.heap.size) n45.symm (.int .i64 0)).other (i := 1) (B' := w.heap.size) n45.symm (.int .i64 0)).set 0 0
    have hz := (((hb.setCell (p := ⟨w.heap.size, 0, none⟩) (Nat.le_refl _) (.int .i64 0)).setCell (p := ⟨w.heap.size, 1, none⟩) (Nat.le_refl _) (.int .i64 0)).setCell (p := ⟨w.heap.size + 1, 0, none⟩) (Nat.le_succ _) (.int .i64 0)).setCell (p := ⟨w.heap.size + 1, 1, none⟩) (Nat.le_succ _) (.int .i64 0)
    generalize (((w1.setCell ⟨w.heap.size, 0, none⟩ (.int .i64 0)).setCell ⟨w.heap.size, 1, none⟩ (.int .i64 0)).setCell ⟨w.heap.size + 1, 0, none⟩ (.int .i64 0)).setCell ⟨w.heap.size + 1, 1, none⟩ (.int .i64 0) = wz at Z4 Z5 hz ⊢
    have r0 := Z4.c0
    have r1 := Z4.c1
    have r2 := Z5.c0
    have r3 := Z5.c1
    refine bodyPost_ret (v := .tuple #[.agg #[.int .i64 0, .int .i64 0], .agg #[.int .i64 0, .int .i64 0], .bool false]) (by simp [results, Tryd.results51, go_sem, r0, r1, r2, r3]) rfl ?_
    exact ⟨ret_ppb (by unfold bsV; rw [HK.out]; rfl) (by unfold bsV; rw [HK.out]; rfl) (by unfold bsV; rw [HK.out]; rfl) (by unfold bsV; rw [HK.out]; rfl) HK.out.symm, hz⟩
  · by_cases h2 : 2 ≤ l.length
    case neg =>
      have HK : Hid (bsOk l = false) := by unfold bsOk; rw [hG, decide_eq_false h2]; rfl
      have hlt : l.length < 2 := by omega
      have hlt2 : (l.length : Int) < 2 := by omega
      have hlt3 : decide ((l.length : Int) < 2) = true := decide_eq_true hlt2
      go_enter Tryd.func51, Tryd.ntmps51
      go_upto_region 1 with fail
      have K5 := BoxP.new (w.alloc (.cells #[.int .i64 0, .int .i64 0] 26)) 0 0
      have K4 := (BoxP.new w 0 0).later ((Below.refl _ (w.alloc (.cells #[.int .i64 0, .int .i64 0] 26))).alloc (Nat.le_refl _) (.cells #[.int .i64 0, .int .i64 0] 26))
      simp only [World.size_alloc] at K5
      have hb0 : Below w.heap.size w ((w.alloc (.cells #[.int .i64 0, .int .i64 0] 26)).alloc (.cells #[.int .i64 0, .int .i64 0] 26)) := by go_grown
      generalize (w.alloc (.cells #[.int .i64 0, .int .i64 0] 26)).alloc (.cells #[.int .i64 0, .int .i64 0] 26) = w0 at K4 K5 hb0 ⊢
      have n45 : w.heap.size ≠ w.heap.size + 1 := by omega
      go_wp2_with (go_at_call 52; refine (goodSetImpl_c l _ _ _ _ rfl h1 ((HA.out.later hb0).mono hb0.size) (cell_later hb0 C0.out)).mono ?_; rw [hG]; rintro e w1 ⟨rfl, hb1⟩; replace K4 := K4.later hb1; replace K5 := K5.later hb1; have hb := grew hb0 hb1; clear hb0 hb1; have c40 := K4.c0; have c41 := K4.c1; have c50 := K5.c0; have c51 := K5.c1; have f40 := K4.f 0; have f41 := K4.f 1; have f50 := K5.f 0; have f51 := K5.f 1)
      have Z4 := ((K4.set 0 0).other (i := 0) (B' := w.heap.size + 1) n45 (.int .i64 0)).other (i := 1) (B' := w.heap.size + 1) n45 (.int .i64 0)
      have Z5 := ((K5.other (i := 0) (B' := w.heap.size) n45.symm (.int .i64 0)).other (i := 1) (B' := w.heap.size) n45.symm (.int .i64 0)).set 0 0
      have hz := (((hb.setCell (p := ⟨w.heap.size, 0, none⟩) (Nat.le_refl _) (.int .i64 0)).setCell (p := ⟨w.heap.size, 1, none⟩) (Nat.le_refl _) (.int .i64 0)).setCell (p := ⟨w.heap.size + 1, 0, none⟩) (Nat.le_succ _) (.int .i64 0)).setCell (p := ⟨w.heap.size + 1, 1, none⟩) (Nat.le_succ _) (.int .i64 0)
      generalize (((w1.setCell ⟨w.heap.size, 0, none⟩ (.int .i64 0)).setCell ⟨w.heap.size, 1, none⟩ (.int .i64 0)).setCell ⟨w.heap.size + 1, 0, none⟩ (.int .i64 0)).setCell ⟨w.heap.size + 1, 1, none⟩ (.int .i64 0) = wz at Z4 Z5 hz ⊢
      have r0 := Z4.c0
      have r1 := Z4.c1
      have r2 := Z5.c0
      have r3 := Z5.c1
      refine bodyPost_ret (v := .tuple #[.agg #[.int .i64 0, .int .i64 0], .agg #[.int .i64 0, .int .i64 0], .bool false]) (by simp [results, Tryd.results51, go_sem, r0, r1, r2, r3]) rfl ?_
      exact ⟨ret_ppb (by unfold bsV; rw [HK.out]; rfl) (by unfold bsV; rw [HK.out]; rfl) (by unfold bsV; rw [HK.out]; rfl) (by unfold bsV; rw [HK.out]; rfl) HK.out.symm, hz⟩
    case pos =>
      have HK : Hid (bsOk l = true) := by unfold bsOk; rw [hG, decide_eq_true h2]; rfl
      have HG := hid (goodL_all hG)
      have hlt : ¬ l.length < 2 := by omega
      have hlt2 : ¬ (l.length : Int) < 2 := by omega
      have hlt3 : decide ((l.length : Int) < 2) = false := decide_eq_false hlt2
      go_enter Tryd.func51, Tryd.ntmps51
      go_upto_region 1 with fail
      have K5 := BoxP.new (w.alloc (.cells #[.int .i64 0, .int .i64 0] 26)) 0 0
      have K4 := (BoxP.new w 0 0).later ((Below.refl _ (w.alloc (.cells #[.int .i64 0, .int .i64 0] 26))).alloc (Nat.le_refl _) (.cells #[.int .i64 0, .int .i64 0] 26))
      simp only [World.size_alloc] at K5
      have hb0 : Below w.heap.size w ((w.alloc (.cells #[.int .i64 0, .int .i64 0] 26)).alloc (.cells #[.int .i64 0, .int .i64 0] 26)) := by go_grown
      generalize (w.alloc (.cells #[.int .i64 0, .int .i64 0] 26)).alloc (.cells #[.int .i64 0, .int .i64 0] 26) = w0 at K4 K5 hb0 ⊢
      have n45 : w.heap.size ≠ w.heap.size + 1 := by omega
      go_upto_region 3 with (go_at_call 52; refine (goodSetImpl_c l _ _ _ _ rfl h1 ((HA.out.later hb0).mono hb0.size) (cell_later hb0 C0.out)).mono ?_; rw [hG]; rintro e w1 ⟨rfl, hb1⟩; replace K4 := K4.later hb1; replace K5 := K5.later hb1; have hb := grew hb0 hb1; clear hb0 hb1; have c40 := K4.c0; have c41 := K4.c1; have c50 := K5.c0; have c51 := K5.c1; have f40 := K4.f 0; have f41 := K4.f 1; have f50 := K5.f 0; have f51 := K5.f 1)
      clear hlt hlt2 hlt3 hG c40 c41 c50 c51 f40 f41 f50 f51
      obtain ⟨b, off, rfl, hbN, g0, g1⟩ := HA.out 0 (by omega)
      obtain ⟨b', off', e1, hbN', g2, g3⟩ := HA.out 1 (by omega)
      cases e1
      simp only [Nat.zero_mul, Nat.add_zero, Nat.one_mul] at g0 g1 g2 g3
      obtain ⟨sx0, hs0⟩ : ∃ x, px l 0 = x := ⟨_, rfl⟩
      obtain ⟨sy0, hs1⟩ : ∃ x, py l 0 = x := ⟨_, rfl⟩
      obtain ⟨sx1, hs2⟩ : ∃ x, px l 1 = x := ⟨_, rfl⟩
      obtain ⟨sy1, hs3⟩ : ∃ x, py l 1 = x := ⟨_, rfl⟩
      have HST : Hid (bst k l = (prs (l.drop 0)).foldl (bstep k) ((sx0, sy0), (sx1, sy1))) := by rw [← hs0, ← hs1, ← hs2, ← hs3]; rfl
      have HG0 : Hid (gp (sx0, sy0)) := by rw [← hs0, ← hs1]; exact HG.out _ (pt_mem (l := l) (i := 0) (by omega))
      have HG1 : Hid (gp (sx1, sy1)) := by rw [← hs2, ← hs3]; exact HG.out _ (pt_mem (l := l) (i := 1) (by omega))
      rw [hs0] at g0
      rw [hs1] at g1
      rw [hs2] at g2
      rw [hs3] at g3
      clear hs0 hs1 hs2 hs3
      refine firstTwoImpl b off l.length cap h2 sx0 sy0 sx1 sy1 _ _ _ _ _ _ _ _ _ _ _ _ _ _ _ _ _ _ _ _ _ _ _ _ _ _ _ _ _ _ _ _ _ _ _ _ _ _ _ _ _ _ _ _ _ _ _ _ _ _ _ _ _ _ _ _ _ _ _ _ _ _ ((hb.cell hbN).trans g0) ((hb.cell hbN).trans g1) ((hb.cell hbN).trans g2) ((hb.cell hbN).trans g3) (fun _ _ _ _ _ h => h) ?_
      intro B7 B8 w3 m7 m8 n78 K7 K8 hb3
      have z4 := K4.lt
      have z5 := K5.lt
      replace K4 := K4.later hb3
      replace K5 := K5.later hb3
      replace hb := grew hb hb3
      have n47 : w.heap.size ≠ B7 := by omega
      have n48 : w.heap.size ≠ B8 := by omega
      have n57 : w.heap.size + 1 ≠ B7 := by omega
      have n58 : w.heap.size + 1 ≠ B8 := by omega
      replace m7 : w.heap.size ≤ B7 := by omega
      replace m8 : w.heap.size ≤ B8 := by omega
      clear g0 g1 g2 g3 z4 z5 hb3
      have HH2 := hid h2
      clear h2
      go_wp2
      go_loopw [31] (fun i wr => ∃ (kk : Nat) (f s : Int × Int), kk ≤ l.length ∧ i = .int .i64 kk ∧ (prs (l.drop kk)).foldl (bstep k) (f, s) = bst k l ∧ gp f ∧ gp s ∧ BoxP wr B7 f ∧ BoxP wr B8 s ∧ BoxP wr w.heap.size (0, 0) ∧ BoxP wr (w.heap.size + 1) (0, 0) ∧ Below w.heap.size w wr) (fun i _ => l.length - (intOf i).toNat)
      case atStart => exact ⟨0, (sx0, sy0), (sx1, sy1), Nat.zero_le _, rfl, HST.out.symm, HG0.out, HG1.out, K7, K8, K4, K5, hb⟩
      case round =>
        clear K7 K8 K4 K5 hb HST HG0 HG1
        obtain ⟨kk, ⟨fx, fy⟩, ⟨sx, sy⟩, hk, rfl, hst, hgf, hgs, K7, K8, K4, K5, hbw⟩ := hrel
        have HGF0 := hid hgf
        have HGS0 := hid hgs
        have HST := hid hst
        clear hgf hgs hst
        by_cases hkl : kk < l.length
        · have HST2 : Hid (left k l kk (kk + 1) ((fx, fy), (sx, sy)) = bst k l) := by rw [← left_start k l _ hkl]; exact HST.out
          clear HST
          obtain ⟨b2, off2, e1, hbN2, g0, g1⟩ := HA.out kk hkl
          cases e1
          have q0 := (hbw.cell (p := ⟨b, off + kk * 2, none⟩) hbN).trans g0
          have q1 := (hbw.cell (p := ⟨b, off + kk * 2 + 1, none⟩) hbN).trans g1
          obtain ⟨ax, hax⟩ : ∃ x, px l kk = x := ⟨_, rfl⟩
          obtain ⟨ay, hay⟩ : ∃ x, py l kk = x := ⟨_, rfl⟩
          have HPA : Hid (Go.Proofs.YtipiamhnngmjmaaDoor.pt l kk = (ax, ay)) := by rw [← hax, ← hay]; exact rfl
          have HGA : Hid (goodB ax ay = true) := by rw [← hax, ← hay]; exact HG.out _ (pt_mem (l := l) (i := kk) hkl)
          rw [hax] at q0
          rw [hay] at q1
          clear hax hay g0 g1 hbN2
          have k0 : (0 : Int) ≤ (kk : Int) := by omega
          have k1 : (kk : Int) < (l.length : Int) := by omega
          go_upto_region 7 with fail
          have KA := BoxP.new wr ax ay
          have hbA : Below wr.heap.size wr (wr.alloc (.cells #[.int .i64 ax, .int .i64 ay] 26)) := by go_grown
          have a7 := K7.lt
          have a8 := K8.lt
          have a5 := K5.lt
          have na7 : wr.heap.size ≠ B7 := by omega
          have na8 : wr.heap.size ≠ B8 := by omega
          have hbS := hbw.size
          replace K7 := K7.later hbA
          replace K8 := K8.later hbA
          replace K4 := K4.later hbA
          replace K5 := K5.later hbA
          replace hbw := grew hbw hbA
          clear q0 q1 hbA a7 a8 a5
          generalize wr.heap.size = Ba at KA na7 na8 hbS ⊢
          generalize wr.alloc (.cells #[.int .i64 ax, .int .i64 ay] 26) = wa at KA K7 K8 K4 K5 hbw ⊢
          have k2 : IntKind.i64.wrap ((kk : Int) + 1) = ((kk + 1 : Nat) : Int) := by rw [IntKind.wrap_i64]; omega
          have k3 : ((kk + 1 : Nat) : Int) ≤ (l.length : Int) := by omega
          have k4 : kk + 1 ≤ l.length := by omega
          have k5 : (0 : Int) ≤ ((kk + 1 : Nat) : Int) := by omega
          by_cases hcap : cap = kk + 1
          · have hr0 : l.length - (kk + 1) = 0 := by have := HF.out; omega
            have hr1 : l.length = kk + 1 := by have := HF.out; omega
            have hcz : cap - (kk + 1) = 0 := by omega
            go_wp2
            refine wp_loop_rounds 1 ?_
            rw [rounds_succ]
            go_wp2
            go_roundw
            case rel =>
              have h4 := HST2.out
              rw [left_end k l _ kk (by omega)] at h4
              exact ⟨kk + 1, (fx, fy), (sx, sy), by omega, by go_num, h4, HGF0.out, HGS0.out, K7, K8, K4, K5, hbw⟩
            case measure => simp [intOf]; omega
          have hcz : ¬ cap - (kk + 1) = 0 := by have := HF.out; omega
          go_wp2
          obtain ⟨r, hr⟩ : ∃ r, l.length - (kk + 1) = r := ⟨_, rfl⟩
          rw [hr]
          clear hcap hcz
          clear k2 k3 k4 k5 k0 k1
          go_loopw [41] (fun i wr => ∃ (m : Nat) (f s : Int × Int), m ≤ r ∧ i = .int .i64 m ∧ left k l kk (kk + 1 + m) (f, s) = bst k l ∧ gp f ∧ gp s ∧ BoxP wr B7 f ∧ BoxP wr B8 s ∧ BoxP wr w.heap.size (0, 0) ∧ BoxP wr (w.heap.size + 1) (0, 0) ∧ BoxP wr Ba (ax, ay) ∧ Below w.heap.size w wr) (fun i _ => r - (intOf i).toNat)
          case atStart => exact ⟨0, (fx, fy), (sx, sy), Nat.zero_le _, rfl, HST2.out, HGF0.out, HGS0.out, K7, K8, K4, K5, KA, hbw⟩
          case round =>
            clear K7 K8 K4 K5 hbw HST2 HGF0 HGS0 KA
            obtain ⟨m, ⟨fx, fy⟩, ⟨sx, sy⟩, hm, rfl, hst, hgf, hgs, K7, K8, K4, K5, KA, hbw⟩ := hrel
            have HGF : Hid (goodB fx fy = true) := hid hgf
            have HGS : Hid (goodB sx sy = true) := hid hgs
            have HST := hid hst
            clear hgf hgs hst
            by_cases hml : m < r
            · obtain ⟨b2, off2, e1, hbN2, g0, g1⟩ := HA.out (kk + 1 + m) (by omega)
              cases e1
              have e2 : off + (kk + 1 + m) * 2 = off + (kk + 1) * 2 + m * 2 := by omega
              rw [e2] at g0 g1
              have q0 := (hbw.cell (p := ⟨b, off + (kk + 1) * 2 + m * 2, none⟩) hbN2).trans g0
              have q1 := (hbw.cell (p := ⟨b, off + (kk + 1) * 2 + m * 2 + 1, none⟩) hbN2).trans g1
              obtain ⟨bx, hbx⟩ : ∃ x, px l (kk + 1 + m) = x := ⟨_, rfl⟩
              obtain ⟨b_y, hby⟩ : ∃ x, py l (kk + 1 + m) = x := ⟨_, rfl⟩
              have HPB : Hid (Go.Proofs.YtipiamhnngmjmaaDoor.pt l (kk + 1 + m) = (bx, b_y)) := by rw [← hbx, ← hby]; exact rfl
              have HGB : Hid (goodB bx b_y = true) := by rw [← hbx, ← hby]; exact HG.out _ (pt_mem (l := l) (i := kk + 1 + m) (by omega))
              rw [hbx] at q0
              rw [hby] at q1
              clear hbx hby g0 g1 hbN2 e2
              have HNX : Hid (left k l kk (kk + 1 + (m + 1)) (bstep k ((fx, fy), (sx, sy)) ((ax, ay), (bx, b_y))) = bst k l) := by
                have h3 := HST.out
                rw [left_step k l _ kk (show kk + 1 + m < l.length by omega), HPA.out, HPB.out] at h3
                exact h3
              clear HST
              obtain ⟨u, hu⟩ : ∃ u, apF (ax, ay) (bx, b_y) = u := ⟨_, rfl⟩
              obtain ⟨v, hv⟩ : ∃ v, apF (fx, fy) (sx, sy) = v := ⟨_, rfl⟩
              have hus := apF_small (p := (ax, ay)) (q := (bx, b_y)) HGA.out HGB.out
              have hvs := apF_small (p := (fx, fy)) (q := (sx, sy)) HGF.out HGS.out
              rw [hu] at hus
              rw [hv] at hvs
              have HAB := hid hu
              have HFS := hid hv
              have HWR := hid (show IntKind.i64.wrap (u - v) = u - v by rw [IntKind.wrap_i64]; omega)
              clear hu hv
              obtain ⟨q, hq⟩ : ∃ q, sg (IntKind.i64.wrap (u - v)) = q := ⟨_, rfl⟩
              have HSG := hid hq
              have hqs : (q == s) = decide (k * (u - v) < 0) := by
                rw [← hq, HWR.out]
                rcases sg_cases (u - v) with ⟨h3, h4⟩ | ⟨h3, h4⟩ | ⟨h3, h4⟩ <;> rcases HKS.out with ⟨rfl, rfl⟩ | ⟨rfl, rfl⟩ <;> rw [h4] <;> (symm; simp; try omega)
              clear hq
              have k0 : (0 : Int) ≤ (m : Int) := by omega
              have k1 : (m : Int) < (r : Int) := by omega
              go_upto_region 10 with fail
              have KB := BoxP.new wr bx b_y
              have hbB : Below wr.heap.size wr (wr.alloc (.cells #[.int .i64 bx, .int .i64 b_y] 26)) := by go_grown
              have a7 := K7.lt
              have a8 := K8.lt
              have aA := KA.lt
              have nb7 : wr.heap.size ≠ B7 := by omega
              have nb8 : wr.heap.size ≠ B8 := by omega
              replace K7 := K7.later hbB
              replace K8 := K8.later hbB
              replace K4 := K4.later hbB
              replace K5 := K5.later hbB
              replace KA := KA.later hbB
              replace hbw := grew hbw hbB
              clear q0 q1 hbB a7 a8 aA
              generalize wr.heap.size = Bb at KB nb7 nb8 ⊢
              generalize wr.alloc (.cells #[.int .i64 bx, .int .i64 b_y] 26) = wp at KA KB K7 K8 K4 K5 hbw ⊢
              have ca0 := KA.c0
              have ca1 := KA.c1
              have cb0 := KB.c0
              have cb1 := KB.c1
              have c70 := K7.c0
              have c71 := K7.c1
              have c80 := K8.c0
              have c81 := K8.c1
              by_cases hE : k * (u - v) < 0
              all_goals have HEE := hid hE
              · have hqs2 : (q == s) = true := by rw [hqs]; exact decide_eq_true hE
                clear hqs
                refine wp_region_held_drew (S := (fun u => Below wp.heap.size wp u)) (by kernel_rfl) ?_ (fun hHeld => ?_)
                · exact (Below.refl _ _).drew
                refine wpAnyH_take (i := 0) (oi := { dst := some 45, op := Op.load 26 (Operand.tmp 10), type := 26, pos := "l10_pairs.go:118", after := #[], guard := none }) (v := ?v2yx0) rfl (by kernel_rfl) (by kernel_rfl) (by kernel_rfl) (fun _ _ _ h => h) (Or.inl ⟨by rfl, ?hy2yx0⟩) (by with_reducible assumption) ?rest2yx0
                case hy2yx0 => (intro wS hSw; (try dsimp only at hSw); have z0 := cell_later hSw ca0; have z1 := cell_later hSw ca1; have z2 := cell_later hSw cb0; have z3 := cell_later hSw cb1; have z4 := cell_later hSw c70; have z5 := cell_later hSw c71; have z6 := cell_later hSw c80; have z7 := cell_later hSw c81; clear hSw; go_simp; try with_reducible rfl)
                case' rest2yx0 => (try simp only [Act.put, List.setIfInBounds_toArray, List.set_cons_zero, List.set_cons_succ])
                refine wpAnyH_take (i := 1) (oi := { dst := some 46, op := Op.load 26 (Operand.tmp 12), type := 26, pos := "l10_pairs.go:118", after := #[], guard := none }) (v := ?v3yx1) rfl (by kernel_rfl) (by kernel_rfl) (by kernel_rfl) (fun _ _ _ h => h) (Or.inl ⟨by rfl, ?hy3yx1⟩) (by with_reducible assumption) ?rest3yx1
                case hy3yx1 => (intro wS hSw; (try dsimp only at hSw); have z0 := cell_later hSw ca0; have z1 := cell_later hSw ca1; have z2 := cell_later hSw cb0; have z3 := cell_later hSw cb1; have z4 := cell_later hSw c70; have z5 := cell_later hSw c71; have z6 := cell_later hSw c80; have z7 := cell_later hSw c81; clear hSw; go_simp; try with_reducible rfl)
                case' rest3yx1 => (try simp only [Act.put, List.setIfInBounds_toArray, List.set_cons_zero, List.set_cons_succ])
                refine wpAnyH_take (i := 3) (oi := { dst := some 48, op := Op.load 26 (Operand.tmp 7), type := 26, pos := "l10_pairs.go:118", after := #[], guard := none }) (v := ?v4yx3) rfl (by kernel_rfl) (by kernel_rfl) (by kernel_rfl) (fun _ _ _ h => h) (Or.inl ⟨by rfl, ?hy4yx3⟩) (by with_reducible assumption) ?rest4yx3
                case hy4yx3 => (intro wS hSw; (try dsimp only at hSw); have z0 := cell_later hSw ca0; have z1 := cell_later hSw ca1; have z2 := cell_later hSw cb0; have z3 := cell_later hSw cb1; have z4 := cell_later hSw c70; have z5 := cell_later hSw c71; have z6 := cell_later hSw c80; have z7 := cell_later hSw c81; clear hSw; go_simp; try with_reducible rfl)
                case' rest4yx3 => (try simp only [Act.put, List.setIfInBounds_toArray, List.set_cons_zero, List.set_cons_succ])
                refine wpAnyH_take (i := 4) (oi := { dst := some 49, op := Op.load 26 (Operand.tmp 8), type := 26, pos := "l10_pairs.go:118", after := #[], guard := none }) (v := ?v5yx4) rfl (by kernel_rfl) (by kernel_rfl) (by kernel_rfl) (fun _ _ _ h => h) (Or.inl ⟨by rfl, ?hy5yx4⟩) (by with_reducible assumption) ?rest5yx4
                case hy5yx4 => (intro wS hSw; (try dsimp only at hSw); have z0 := cell_later hSw ca0; have z1 := cell_later hSw ca1; have z2 := cell_later hSw cb0; have z3 := cell_later hSw cb1; have z4 := cell_later hSw c70; have z5 := cell_later hSw c71; have z6 := cell_later hSw c80; have z7 := cell_later hSw c81; clear hSw; go_simp; try with_reducible rfl)
                case' rest5yx4 => (try simp only [Act.put, List.setIfInBounds_toArray, List.set_cons_zero, List.set_cons_succ])
                refine wpAnyH_take (i := 8) (oi := { dst := some 53, op := Op.move (Operand.tmp 1), type := 3, pos := "l10_pairs.go:118", after := #[], guard := none }) (v := ?v6yx8) rfl (by kernel_rfl) (by kernel_rfl) (by kernel_rfl) (fun _ _ _ h => h) (Or.inl ⟨by rfl, ?hy6yx8⟩) (by with_reducible assumption) ?rest6yx8
                case hy6yx8 => (intro wS hSw; (try dsimp only at hSw); have z0 := cell_later hSw ca0; have z1 := cell_later hSw ca1; have z2 := cell_later hSw cb0; have z3 := cell_later hSw cb1; have z4 := cell_later hSw c70; have z5 := cell_later hSw c71; have z6 := cell_later hSw c80; have z7 := cell_later hSw c81; clear hSw; go_simp; try with_reducible rfl)
                case' rest6yx8 => (try simp only [Act.put, List.setIfInBounds_toArray, List.set_cons_zero, List.set_cons_succ])
                refine wpAnyH_ready (rs := [2]) (by kernel_rfl) (by simp) ?_
                refine AllReadyH.cons (o := { dst := some 47, op := Op.call { callee := Callee.value (Operand.func 49), args := #[Operand.tmp 45, Operand.tmp 46], argTypes := #[26, 26] }, type := 3, pos := "l10_pairs.go:118", after := #[{ on := 0, ground := Ground.data }, { on := 1, ground := Ground.data }], guard := none }) rfl (fun K hK => ?_) AllReadyH.nil
                go_simp
                refine (apart_q _ _ _ _ _ _ HGA.out HGB.out HAB.out).mono ?_
                rintro e w2 ⟨rfl, hb2⟩
                go_wp2_with fail
                refine hK.out _ _ ?_ (fun hHeld => ?_)
                · exact grew (by with_reducible assumption) hb2
                clear hK K
                try simp only [Act.put, List.setIfInBounds_toArray, List.set_cons_zero, List.set_cons_succ]
                refine wpAnyH_ready (rs := [5]) (by kernel_rfl) (by simp) ?_
                refine AllReadyH.cons (o := { dst := some 50, op := Op.call { callee := Callee.value (Operand.func 49), args := #[Operand.tmp 48, Operand.tmp 49], argTypes := #[26, 26] }, type := 3, pos := "l10_pairs.go:118", after := #[{ on := 3, ground := Ground.data }, { on := 4, ground := Ground.data }, { on := 2, ground := Ground.chain }], guard := none }) rfl (fun K hK => ?_) AllReadyH.nil
                go_simp
                refine (apart_q _ _ _ _ _ _ HGF.out HGS.out HFS.out).mono ?_
                rintro e w5 ⟨rfl, hb5⟩
                go_wp2_with fail
                refine hK.out _ _ ?_ (fun hHeld => ?_)
                · exact grew (by with_reducible assumption) hb5
                clear hK K
                try simp only [Act.put, List.setIfInBounds_toArray, List.set_cons_zero, List.set_cons_succ]
                refine wpAnyH_take (i := 6) (oi := { dst := some 51, op := Op.binOp BinOp.sub 3 (Operand.tmp 47) (Operand.tmp 50) 3, type := 3, pos := "l10_pairs.go:118", after := #[{ on := 2, ground := Ground.data }, { on := 5, ground := Ground.data }], guard := none }) (v := ?v7yx6) rfl (by kernel_rfl) (by kernel_rfl) (by kernel_rfl) (fun _ _ _ h => h) (Or.inl ⟨by rfl, ?hy7yx6⟩) (by with_reducible assumption) ?rest7yx6
                case hy7yx6 => (intro wS hSw; (try dsimp only at hSw); have z0 := cell_later hSw ca0; have z1 := cell_later hSw ca1; have z2 := cell_later hSw cb0; have z3 := cell_later hSw cb1; have z4 := cell_later hSw c70; have z5 := cell_later hSw c71; have z6 := cell_later hSw c80; have z7 := cell_later hSw c81; clear hSw; go_simp; try with_reducible rfl)
                case' rest7yx6 => (try simp only [Act.put, List.setIfInBounds_toArray, List.set_cons_zero, List.set_cons_succ])
                refine wpAnyH_ready (rs := [7]) (by kernel_rfl) (by simp) ?_
                refine AllReadyH.cons (o := { dst := some 52, op := Op.call { callee := Callee.value (Operand.func 77), args := #[Operand.tmp 51], argTypes := #[3] }, type := 3, pos := "l10_pairs.go:118", after := #[{ on := 6, ground := Ground.data }, { on := 5, ground := Ground.chain }], guard := none }) rfl (fun K hK => ?_) AllReadyH.nil
                go_simp
                refine (sign_q _ _ _ HSG.out).mono ?_
                rintro e w7 ⟨rfl, rfl⟩
                go_wp2_with fail
                refine hK.out _ _ ?_ (fun hHeld => ?_)
                · with_reducible assumption
                clear hK K
                try simp only [Act.put, List.setIfInBounds_toArray, List.set_cons_zero, List.set_cons_succ]
                refine wpAnyH_take (i := 9) (oi := { dst := some 54, op := Op.binOp BinOp.eql 3 (Operand.tmp 52) (Operand.tmp 53) 3, type := 4, pos := "l10_pairs.go:118", after := #[{ on := 7, ground := Ground.data }, { on := 8, ground := Ground.data }], guard := none }) (v := ?v8yx9) rfl (by kernel_rfl) (by kernel_rfl) (by kernel_rfl) (fun _ _ _ h => h) (Or.inl ⟨by rfl, ?hy8yx9⟩) (by with_reducible assumption) ?rest8yx9
                case hy8yx9 => (intro wS hSw; (try dsimp only at hSw); have z0 := cell_later hSw ca0; have z1 := cell_later hSw ca1; have z2 := cell_later hSw cb0; have z3 := cell_later hSw cb1; have z4 := cell_later hSw c70; have z5 := cell_later hSw c71; have z6 := cell_later hSw c80; have z7 := cell_later hSw c81; clear hSw; go_simp; try with_reducible rfl)
                case' rest8yx9 => (try simp only [Act.put, List.setIfInBounds_toArray, List.set_cons_zero, List.set_cons_succ])
                refine wpAnyH_done (by kernel_rfl) ?_ _
                have hbx : Below wp.heap.size wp w5 := (by with_reducible assumption)
                clear ca0 ca1 cb0 cb1 c70 c71 c80 c81
                replace K7 := K7.later hbx
                replace K8 := K8.later hbx
                replace K4 := K4.later hbx
                replace K5 := K5.later hbx
                replace KA := KA.later hbx
                replace KB := KB.later hbx
                replace hbw := grew hbw hbx
                go_upto_region 11 with fail
                refine swapTwo w.heap.size Ba Bb B7 B8 ax ay bx b_y (fx, fy) (sx, sy) _ _ _ _ _ _ _ _ _ _ _ _ _ _ _ _ _ _ _ _ _ _ _ _ _ _ _ _ _ _ _ _ _ _ _ _ _ _ _ _ _ _ _ _ _ _ _ _ _ _ _ _ _ _ _ _ _ _ _ KA KB K7 K8 n78 na7 na8 nb7 nb8 m7 m8 (fun _ _ _ _ _ h => h) ?_
                intro wq Q7 Q8 QO Qb
                have Q4 := QO _ _ n47 n48 K4
                have Q5 := QO _ _ n57 n58 K5
                have QA := QO _ _ na7 na8 KA
                have hbq := hbw.trans Qb
                go_wp2
                go_roundw
                case rel =>
                  have h4 := HNX.out
                  unfold bstep at h4
                  rw [if_pos (by dsimp only; rw [HAB.out, HFS.out]; first | exact HEE.out | exact Int.not_lt.2 HEE.out)] at h4
                  exact ⟨m + 1, (ax, ay), (bx, b_y), by omega, by go_num, h4, HGA.out, HGB.out, Q7, Q8, Q4, Q5, QA, hbq⟩
                case measure => simp [intOf]; omega
              · have hqs2 : (q == s) = false := by rw [hqs]; exact decide_eq_false hE
                clear hqs
                refine wp_region_held_drew (S := (fun u => Below wp.heap.size wp u)) (by kernel_rfl) ?_ (fun hHeld => ?_)
                · exact (Below.refl _ _).drew
                refine wpAnyH_take (i := 0) (oi := { dst := some 45, op := Op.load 26 (Operand.tmp 10), type := 26, pos := "l10_pairs.go:118", after := #[], guard := none }) (v := ?v10yx0) rfl (by kernel_rfl) (by kernel_rfl) (by kernel_rfl) (fun _ _ _ h => h) (Or.inl ⟨by rfl, ?hy10yx0⟩) (by with_reducible assumption) ?rest10yx0
                case hy10yx0 => (intro wS hSw; (try dsimp only at hSw); have z0 := cell_later hSw ca0; have z1 := cell_later hSw ca1; have z2 := cell_later hSw cb0; have z3 := cell_later hSw cb1; have z4 := cell_later hSw c70; have z5 := cell_later hSw c71; have z6 := cell_later hSw c80; have z7 := cell_later hSw c81; clear hSw; go_simp; try with_reducible rfl)
                case' rest10yx0 => (try simp only [Act.put, List.setIfInBounds_toArray, List.set_cons_zero, List.set_cons_succ])
                refine wpAnyH_take (i := 1) (oi := { dst := some 46, op := Op.load 26 (Operand.tmp 12), type := 26, pos := "l10_pairs.go:118", after := #[], guard := none }) (v := ?v11yx1) rfl (by kernel_rfl) (by kernel_rfl) (by kernel_rfl) (fun _ _ _ h => h) (Or.inl ⟨by rfl, ?hy11yx1⟩) (by with_reducible assumption) ?rest11yx1
                case hy11yx1 => (intro wS hSw; (try dsimp only at hSw); have z0 := cell_later hSw ca0; have z1 := cell_later hSw ca1; have z2 := cell_later hSw cb0; have z3 := cell_later hSw cb1; have z4 := cell_later hSw c70; have z5 := cell_later hSw c71; have z6 := cell_later hSw c80; have z7 := cell_later hSw c81; clear hSw; go_simp; try with_reducible rfl)
                case' rest11yx1 => (try simp only [Act.put, List.setIfInBounds_toArray, List.set_cons_zero, List.set_cons_succ])
                refine wpAnyH_take (i := 3) (oi := { dst := some 48, op := Op.load 26 (Operand.tmp 7), type := 26, pos := "l10_pairs.go:118", after := #[], guard := none }) (v := ?v12yx3) rfl (by kernel_rfl) (by kernel_rfl) (by kernel_rfl) (fun _ _ _ h => h) (Or.inl ⟨by rfl, ?hy12yx3⟩) (by with_reducible assumption) ?rest12yx3
                case hy12yx3 => (intro wS hSw; (try dsimp only at hSw); have z0 := cell_later hSw ca0; have z1 := cell_later hSw ca1; have z2 := cell_later hSw cb0; have z3 := cell_later hSw cb1; have z4 := cell_later hSw c70; have z5 := cell_later hSw c71; have z6 := cell_later hSw c80; have z7 := cell_later hSw c81; clear hSw; go_simp; try with_reducible rfl)
                case' rest12yx3 => (try simp only [Act.put, List.setIfInBounds_toArray, List.set_cons_zero, List.set_cons_succ])
                refine wpAnyH_take (i := 4) (oi := { dst := some 49, op := Op.load 26 (Operand.tmp 8), type := 26, pos := "l10_pairs.go:118", after := #[], guard := none }) (v := ?v13yx4) rfl (by kernel_rfl) (by kernel_rfl) (by kernel_rfl) (fun _ _ _ h => h) (Or.inl ⟨by rfl, ?hy13yx4⟩) (by with_reducible assumption) ?rest13yx4
                case hy13yx4 => (intro wS hSw; (try dsimp only at hSw); have z0 := cell_later hSw ca0; have z1 := cell_later hSw ca1; have z2 := cell_later hSw cb0; have z3 := cell_later hSw cb1; have z4 := cell_later hSw c70; have z5 := cell_later hSw c71; have z6 := cell_later hSw c80; have z7 := cell_later hSw c81; clear hSw; go_simp; try with_reducible rfl)
                case' rest13yx4 => (try simp only [Act.put, List.setIfInBounds_toArray, List.set_cons_zero, List.set_cons_succ])
                refine wpAnyH_take (i := 8) (oi := { dst := some 53, op := Op.move (Operand.tmp 1), type := 3, pos := "l10_pairs.go:118", after := #[], guard := none }) (v := ?v14yx8) rfl (by kernel_rfl) (by kernel_rfl) (by kernel_rfl) (fun _ _ _ h => h) (Or.inl ⟨by rfl, ?hy14yx8⟩) (by with_reducible assumption) ?rest14yx8
                case hy14yx8 => (intro wS hSw; (try dsimp only at hSw); have z0 := cell_later hSw ca0; have z1 := cell_later hSw ca1; have z2 := cell_later hSw cb0; have z3 := cell_later hSw cb1; have z4 := cell_later hSw c70; have z5 := cell_later hSw c71; have z6 := cell_later hSw c80; have z7 := cell_later hSw c81; clear hSw; go_simp; try with_reducible rfl)
                case' rest14yx8 => (try simp only [Act.put, List.setIfInBounds_toArray, List.set_cons_zero, List.set_cons_succ])
                refine wpAnyH_ready (rs := [2]) (by kernel_rfl) (by simp) ?_
                refine AllReadyH.cons (o := { dst := some 47, op := Op.call { callee := Callee.value (Operand.func 49), args := #[Operand.tmp 45, Operand.tmp 46], argTypes := #[26, 26] }, type := 3, pos := "l10_pairs.go:118", after := #[{ on := 0, ground := Ground.data }, { on := 1, ground := Ground.data }], guard := none }) rfl (fun K hK => ?_) AllReadyH.nil
                go_simp
                refine (apart_q _ _ _ _ _ _ HGA.out HGB.out HAB.out).mono ?_
                rintro e w2 ⟨rfl, hb2⟩
                go_wp2_with fail
                refine hK.out _ _ ?_ (fun hHeld => ?_)
                · exact grew (by with_reducible assumption) hb2
                clear hK K
                try simp only [Act.put, List.setIfInBounds_toArray, List.set_cons_zero, List.set_cons_succ]
                refine wpAnyH_ready (rs := [5]) (by kernel_rfl) (by simp) ?_
                refine AllReadyH.cons (o := { dst := some 50, op := Op.call { callee := Callee.value (Operand.func 49), args := #[Operand.tmp 48, Operand.tmp 49], argTypes := #[26, 26] }, type := 3, pos := "l10_pairs.go:118", after := #[{ on := 3, ground := Ground.data }, { on := 4, ground := Ground.data }, { on := 2, ground := Ground.chain }], guard := none }) rfl (fun K hK => ?_) AllReadyH.nil
                go_simp
                refine (apart_q _ _ _ _ _ _ HGF.out HGS.out HFS.out).mono ?_
                rintro e w5 ⟨rfl, hb5⟩
                go_wp2_with fail
                refine hK.out _ _ ?_ (fun hHeld => ?_)
                · exact grew (by with_reducible assumption) hb5
                clear hK K
                try simp only [Act.put, List.setIfInBounds_toArray, List.set_cons_zero, List.set_cons_succ]
                refine wpAnyH_take (i := 6) (oi := { dst := some 51, op := Op.binOp BinOp.sub 3 (Operand.tmp 47) (Operand.tmp 50) 3, type := 3, pos := "l10_pairs.go:118", after := #[{ on := 2, ground := Ground.data }, { on := 5, ground := Ground.data }], guard := none }) (v := ?v15yx6) rfl (by kernel_rfl) (by kernel_rfl) (by kernel_rfl) (fun _ _ _ h => h) (Or.inl ⟨by rfl, ?hy15yx6⟩) (by with_reducible assumption) ?rest15yx6
                case hy15yx6 => (intro wS hSw; (try dsimp only at hSw); have z0 := cell_later hSw ca0; have z1 := cell_later hSw ca1; have z2 := cell_later hSw cb0; have z3 := cell_later hSw cb1; have z4 := cell_later hSw c70; have z5 := cell_later hSw c71; have z6 := cell_later hSw c80; have z7 := cell_later hSw c81; clear hSw; go_simp; try with_reducible rfl)
                case' rest15yx6 => (try simp only [Act.put, List.setIfInBounds_toArray, List.set_cons_zero, List.set_cons_succ])
                refine wpAnyH_ready (rs := [7]) (by kernel_rfl) (by simp) ?_
                refine AllReadyH.cons (o := { dst := some 52, op := Op.call { callee := Callee.value (Operand.func 77), args := #[Operand.tmp 51], argTypes := #[3] }, type := 3, pos := "l10_pairs.go:118", after := #[{ on := 6, ground := Ground.data }, { on := 5, ground := Ground.chain }], guard := none }) rfl (fun K hK => ?_) AllReadyH.nil
                go_simp
                refine (sign_q _ _ _ HSG.out).mono ?_
                rintro e w7 ⟨rfl, rfl⟩
                go_wp2_with fail
                refine hK.out _ _ ?_ (fun hHeld => ?_)
                · with_reducible assumption
                clear hK K
                try simp only [Act.put, List.setIfInBounds_toArray, List.set_cons_zero, List.set_cons_succ]
                refine wpAnyH_take (i := 9) (oi := { dst := some 54, op := Op.binOp BinOp.eql 3 (Operand.tmp 52) (Operand.tmp 53) 3, type := 4, pos := "l10_pairs.go:118", after := #[{ on := 7, ground := Ground.data }, { on := 8, ground := Ground.data }], guard := none }) (v := ?v16yx9) rfl (by kernel_rfl) (by kernel_rfl) (by kernel_rfl) (fun _ _ _ h => h) (Or.inl ⟨by rfl, ?hy16yx9⟩) (by with_reducible assumption) ?rest16yx9
                case hy16yx9 => (intro wS hSw; (try dsimp only at hSw); have z0 := cell_later hSw ca0; have z1 := cell_later hSw ca1; have z2 := cell_later hSw cb0; have z3 := cell_later hSw cb1; have z4 := cell_later hSw c70; have z5 := cell_later hSw c71; have z6 := cell_later hSw c80; have z7 := cell_later hSw c81; clear hSw; go_simp; try with_reducible rfl)
                case' rest16yx9 => (try simp only [Act.put, List.setIfInBounds_toArray, List.set_cons_zero, List.set_cons_succ])
                refine wpAnyH_done (by kernel_rfl) ?_ _
                have hbx : Below wp.heap.size wp w5 := (by with_reducible assumption)
                clear ca0 ca1 cb0 cb1 c70 c71 c80 c81
                replace K7 := K7.later hbx
                replace K8 := K8.later hbx
                replace K4 := K4.later hbx
                replace K5 := K5.later hbx
                replace KA := KA.later hbx
                replace KB := KB.later hbx
                replace hbw := grew hbw hbx
                go_wp2
                go_roundw
                case rel =>
                  have h4 := HNX.out
                  unfold bstep at h4
                  rw [if_neg (by dsimp only; rw [HAB.out, HFS.out]; first | exact HEE.out | exact Int.not_lt.2 HEE.out)] at h4
                  exact ⟨m + 1, (fx, fy), (sx, sy), by omega, by go_num, h4, HGF.out, HGS.out, K7, K8, K4, K5, KA, hbw⟩
                case measure => simp [intOf]; omega
            · obtain rfl : m = r := by omega
              go_wp2
              go_roundw
              case rel =>
                have h4 := HST.out
                rw [left_end k l _ kk (by omega)] at h4
                exact ⟨kk + 1, (fx, fy), (sx, sy), by omega, by go_num, h4, HGF.out, HGS.out, K7, K8, K4, K5, hbw⟩
              case measure => simp [intOf]; omega
        · obtain rfl : kk = l.length := by omega
          have HE : Hid (((fx, fy), (sx, sy)) = bsV k l) := by
            unfold bsV
            rw [HK.out, ← HST.out, prs_end (Nat.le_refl _)]; rfl
          go_upto_region 14 with fail
          refine tellTwoImpl w.heap.size B7 B8 w.heap.size (w.heap.size + 1) fx fy sx sy (0, 0) (0, 0) _ _ _ _ _ _ _ _ _ _ _ _ _ _ _ _ _ _ _ _ _ _ _ _ _ _ _ _ _ _ _ _ _ _ _ _ _ _ _ _ _ _ _ _ _ _ _ _ _ _ _ _ _ _ _ _ _ _ _ K7 K8 K4 K5 n45 n47.symm n57.symm n48.symm n58.symm (Nat.le_refl _) (Nat.le_succ _) (fun _ _ _ _ _ h => h) ?_
          intro wz Z4 Z5 _ hz
          have r0 := Z4.c0
          have r1 := Z4.c1
          have r2 := Z5.c0
          have r3 := Z5.c1
          go_wp2
          refine bodyPost_ret (v := .tuple #[.agg #[.int .i64 fx, .int .i64 fy], .agg #[.int .i64 sx, .int .i64 sy], .bool true]) (by simp [results, Tryd.results51, go_sem, r0, r1, r2, r3]) rfl ?_
          exact ⟨ret_ppb (by rw [← HE.out]) (by rw [← HE.out]) (by rw [← HE.out]) (by rw [← HE.out]) HK.out.symm, hbw.trans hz⟩
set_option maxHeartbeats 8000000 in
theorem bestSpec_c (k : Int) (hks : k = 1 ∨ k = -1) (l : List (Int × Int)) (a : Option Addr) (len cap : Nat) (w : World) (hl : l.length = len) (h1 : len ≤ 1048576) (hF : Fit a len cap) (hA : At w.heap.size a l w) :
    Calls Tryd.prog 50 #[.slice a len cap, .int .i64 k] w fun e w' => e = .returned (.tuple #[.agg #[.int .i64 (bsV k l).1.1, .int .i64 (bsV k l).1.2], .agg #[.int .i64 (bsV k l).2.1, .int .i64 (bsV k l).2.2], .bool (bsOk l)]) ∧ Below w.heap.size w w' := by
  subst hl
  have HA := hid hA
  have HKS := hid hks
  have HF : Hid (l.length ≤ cap) := by rcases hF with ⟨_, h3, h4⟩ | ⟨_, h3, _⟩ <;> (show _ ≤ _; omega)
  skip
  clear hA hks hF
  cases hG : goodL l
  · have HK : Hid (bsOk l = false) := by unfold bsOk; rw [hG]; rfl
    go_enter Tryd.func50, Tryd.ntmps50
    go_upto_region 1 with fail
    have K5 := BoxP.new (w.alloc (.cells #[.int .i64 0, .int .i64 0] 26)) 0 0
    have K4 := (BoxP.new w 0 0).later ((Below.refl _ (w.alloc (.cells #[.int .i64 0, .int .i64 0] 26))).alloc (Nat.le_refl _) (.cells #[.int .i64 0, .int .i64 0] 26))
    simp only [World.size_alloc] at K5
    have hb0 : Below w.heap.size w ((w.alloc (.cells #[.int .i64 0, .int .i64 0] 26)).alloc (.cells #[.int .i64 0, .int .i64 0] 26)) := by go_grown
    generalize (w.alloc (.cells #[.int .i64 0, .int .i64 0] 26)).alloc (.cells #[.int .i64 0, .int .i64 0] 26) = w0 at K4 K5 hb0 ⊢
    have n45 : w.heap.size ≠ w.heap.size + 1 := by omega
    go_wp2_with (go_at_call 64; refine (l2Good_c l _ _ _ _ rfl h1 ((HA.out.later hb0).mono hb0.size)).mono ?_; rw [hG]; rintro e w1 ⟨rfl, hb1⟩; replace K4 := K4.later hb1; replace K5 := K5.later hb1; have hb := grew hb0 hb1; clear hb0 hb1; have c40 := K4.c0; have c41 := K4.c1; have c50 := K5.c0; have c51 := K5.c1; have f40 := K4.f 0; have f41 := K4.f 1; have f50 := K5.f 0; have f51 := K5.f 1)
    have Z4 := ((K4.set 0 0).other (i := 0) (B' := w.heap.size + 1) n45 (.int .i64 0)).other (i := 1) (B' := w.heap.size + 1) n45 (.int .i64 0)
    have Z5 := ((K5.other (i := 0) (B' := w.heap.size) n45.symm (.int .i64 0)).other (i := 1) (B' := w.heap.size) n45.symm (.int .i64 0)).set 0 0
    have hz := (((hb.setCell (p := ⟨w.heap.size, 0, none⟩) (Nat.le_refl _) (.int .i64 0)).setCell (p := ⟨w.heap.size, 1, none⟩) (Nat.le_refl _) (.int .i64 0)).setCell (p := ⟨w.heap.size + 1, 0, none⟩) (Nat.le_succ _) (.int .i64 0)).setCell (p := ⟨w.heap.size + 1, 1, none⟩) (Nat.le_succ _) (.int .i64 0)
    generalize (((w1.setCell ⟨w.heap.size, 0, none⟩ (.int .i64 0)).setCell ⟨w.heap.size, 1, none⟩ (.int .i64 0)).setCell ⟨w.heap.size + 1, 0, none⟩ (.int .i64 0)).setCell ⟨w.heap.size + 1, 1, none⟩ (.int .i64 0) = wz at Z4 Z5 hz ⊢
    have r0 := Z4.c0
    have r1 := Z4.c1
    have r2 := Z5.c0
    have r3 := Z5.c1
    refine bodyPost_ret (v := .tuple #[.agg #[.int .i64 0, .int .i64 0], .agg #[.int .i64 0, .int .i64 0], .bool false]) (by simp [results, Tryd.results50, go_sem, r0, r1, r2, r3]) rfl ?_
    exact ⟨ret_ppb (by unfold bsV; rw [HK.out]; rfl) (by unfold bsV; rw [HK.out]; rfl) (by unfold bsV; rw [HK.out]; rfl) (by unfold bsV; rw [HK.out]; rfl) HK.out.symm, hz⟩
  · by_cases h2 : 2 ≤ l.length
    case neg =>
      have HK : Hid (bsOk l = false) := by unfold bsOk; rw [hG, decide_eq_false h2]; rfl
      have hlt : l.length < 2 := by omega
      have hlt2 : (l.length : Int) < 2 := by omega
      have hlt3 : decide ((l.length : Int) < 2) = true := decide_eq_true hlt2
      go_enter Tryd.func50, Tryd.ntmps50
      go_upto_region 1 with fail
      have K5 := BoxP.new (w.alloc (.cells #[.int .i64 0, .int .i64 0] 26)) 0 0
      have K4 := (BoxP.new w 0 0).later ((Below.refl _ (w.alloc (.cells #[.int .i64 0, .int .i64 0] 26))).alloc (Nat.le_refl _) (.cells #[.int .i64 0, .int .i64 0] 26))
      simp only [World.size_alloc] at K5
      have hb0 : Below w.heap.size w ((w.alloc (.cells #[.int .i64 0, .int .i64 0] 26)).alloc (.cells #[.int .i64 0, .int .i64 0] 26)) := by go_grown
      generalize (w.alloc (.cells #[.int .i64 0, .int .i64 0] 26)).alloc (.cells #[.int .i64 0, .int .i64 0] 26) = w0 at K4 K5 hb0 ⊢
      have n45 : w.heap.size ≠ w.heap.size + 1 := by omega
      go_wp2_with (go_at_call 64; refine (l2Good_c l _ _ _ _ rfl h1 ((HA.out.later hb0).mono hb0.size)).mono ?_; rw [hG]; rintro e w1 ⟨rfl, hb1⟩; replace K4 := K4.later hb1; replace K5 := K5.later hb1; have hb := grew hb0 hb1; clear hb0 hb1; have c40 := K4.c0; have c41 := K4.c1; have c50 := K5.c0; have c51 := K5.c1; have f40 := K4.f 0; have f41 := K4.f 1; have f50 := K5.f 0; have f51 := K5.f 1)
      have Z4 := ((K4.set 0 0).other (i := 0) (B' := w.heap.size + 1) n45 (.int .i64 0)).other (i := 1) (B' := w.heap.size + 1) n45 (.int .i64 0)
      have Z5 := ((K5.other (i := 0) (B' := w.heap.size) n45.symm (.int .i64 0)).other (i := 1) (B' := w.heap.size) n45.symm (.int .i64 0)).set 0 0
      have hz := (((hb.setCell (p := ⟨w.heap.size, 0, none⟩) (Nat.le_refl _) (.int .i64 0)).setCell (p := ⟨w.heap.size, 1, none⟩) (Nat.le_refl _) (.int .i64 0)).setCell (p := ⟨w.heap.size + 1, 0, none⟩) (Nat.le_succ _) (.int .i64 0)).setCell (p := ⟨w.heap.size + 1, 1, none⟩) (Nat.le_succ _) (.int .i64 0)
      generalize (((w1.setCell ⟨w.heap.size, 0, none⟩ (.int .i64 0)).setCell ⟨w.heap.size, 1, none⟩ (.int .i64 0)).setCell ⟨w.heap.size + 1, 0, none⟩ (.int .i64 0)).setCell ⟨w.heap.size + 1, 1, none⟩ (.int .i64 0) = wz at Z4 Z5 hz ⊢
      have r0 := Z4.c0
      have r1 := Z4.c1
      have r2 := Z5.c0
      have r3 := Z5.c1
      refine bodyPost_ret (v := .tuple #[.agg #[.int .i64 0, .int .i64 0], .agg #[.int .i64 0, .int .i64 0], .bool false]) (by simp [results, Tryd.results50, go_sem, r0, r1, r2, r3]) rfl ?_
      exact ⟨ret_ppb (by unfold bsV; rw [HK.out]; rfl) (by unfold bsV; rw [HK.out]; rfl) (by unfold bsV; rw [HK.out]; rfl) (by unfold bsV; rw [HK.out]; rfl) HK.out.symm, hz⟩
    case pos =>
      have HK : Hid (bsOk l = true) := by unfold bsOk; rw [hG, decide_eq_true h2]; rfl
      have HG := hid (goodL_all hG)
      have hlt : ¬ l.length < 2 := by omega
      have hlt2 : ¬ (l.length : Int) < 2 := by omega
      have hlt3 : decide ((l.length : Int) < 2) = false := decide_eq_false hlt2
      go_enter Tryd.func50, Tryd.ntmps50
      go_upto_region 1 with fail
      have K5 := BoxP.new (w.alloc (.cells #[.int .i64 0, .int .i64 0] 26)) 0 0
      have K4 := (BoxP.new w 0 0).later ((Below.refl _ (w.alloc (.cells #[.int .i64 0, .int .i64 0] 26))).alloc (Nat.le_refl _) (.cells #[.int .i64 0, .int .i64 0] 26))
      simp only [World.size_alloc] at K5
      have hb0 : Below w.heap.size w ((w.alloc (.cells #[.int .i64 0, .int .i64 0] 26)).alloc (.cells #[.int .i64 0, .int .i64 0] 26)) := by go_grown
      generalize (w.alloc (.cells #[.int .i64 0, .int .i64 0] 26)).alloc (.cells #[.int .i64 0, .int .i64 0] 26) = w0 at K4 K5 hb0 ⊢
      have n45 : w.heap.size ≠ w.heap.size + 1 := by omega
      go_upto_region 3 with (go_at_call 64; refine (l2Good_c l _ _ _ _ rfl h1 ((HA.out.later hb0).mono hb0.size)).mono ?_; rw [hG]; rintro e w1 ⟨rfl, hb1⟩; replace K4 := K4.later hb1; replace K5 := K5.later hb1; have hb := grew hb0 hb1; clear hb0 hb1; have c40 := K4.c0; have c41 := K4.c1; have c50 := K5.c0; have c51 := K5.c1; have f40 := K4.f 0; have f41 := K4.f 1; have f50 := K5.f 0; have f51 := K5.f 1)
      clear hlt hlt2 hlt3 hG c40 c41 c50 c51 f40 f41 f50 f51
      obtain ⟨b, off, rfl, hbN, g0, g1⟩ := HA.out 0 (by omega)
      obtain ⟨b', off', e1, hbN', g2, g3⟩ := HA.out 1 (by omega)
      cases e1
      simp only [Nat.zero_mul, Nat.add_zero, Nat.one_mul] at g0 g1 g2 g3
      obtain ⟨sx0, hs0⟩ : ∃ x, px l 0 = x := ⟨_, rfl⟩
      obtain ⟨sy0, hs1⟩ : ∃ x, py l 0 = x := ⟨_, rfl⟩
      obtain ⟨sx1, hs2⟩ : ∃ x, px l 1 = x := ⟨_, rfl⟩
      obtain ⟨sy1, hs3⟩ : ∃ x, py l 1 = x := ⟨_, rfl⟩
      have HST : Hid (bst k l = (prs (l.drop 0)).foldl (bstep k) ((sx0, sy0), (sx1, sy1))) := by rw [← hs0, ← hs1, ← hs2, ← hs3]; rfl
      have HG0 : Hid (gp (sx0, sy0)) := by rw [← hs0, ← hs1]; exact HG.out _ (pt_mem (l := l) (i := 0) (by omega))
      have HG1 : Hid (gp (sx1, sy1)) := by rw [← hs2, ← hs3]; exact HG.out _ (pt_mem (l := l) (i := 1) (by omega))
      rw [hs0] at g0
      rw [hs1] at g1
      rw [hs2] at g2
      rw [hs3] at g3
      clear hs0 hs1 hs2 hs3
      refine firstTwoSpec b off l.length cap h2 sx0 sy0 sx1 sy1 _ _ _ _ _ _ _ _ _ _ _ _ _ _ _ _ _ _ _ _ _ _ _ _ _ _ _ _ _ _ _ _ _ _ _ _ _ _ _ _ _ _ _ _ _ _ _ _ _ _ _ _ _ _ _ _ _ _ _ _ _ _ ((hb.cell hbN).trans g0) ((hb.cell hbN).trans g1) ((hb.cell hbN).trans g2) ((hb.cell hbN).trans g3) (fun _ _ _ _ _ h => h) ?_
      intro B7 B8 w3 m7 m8 n78 K7 K8 hb3
      have z4 := K4.lt
      have z5 := K5.lt
      replace K4 := K4.later hb3
      replace K5 := K5.later hb3
      replace hb := grew hb hb3
      have n47 : w.heap.size ≠ B7 := by omega
      have n48 : w.heap.size ≠ B8 := by omega
      have n57 : w.heap.size + 1 ≠ B7 := by omega
      have n58 : w.heap.size + 1 ≠ B8 := by omega
      replace m7 : w.heap.size ≤ B7 := by omega
      replace m8 : w.heap.size ≤ B8 := by omega
      clear g0 g1 g2 g3 z4 z5 hb3
      have HH2 := hid h2
      clear h2
      go_wp2
      go_loopw [31] (fun i wr => ∃ (kk : Nat) (f s : Int × Int), kk ≤ l.length ∧ i = .int .i64 kk ∧ (prs (l.drop kk)).foldl (bstep k) (f, s) = bst k l ∧ gp f ∧ gp s ∧ BoxP wr B7 f ∧ BoxP wr B8 s ∧ BoxP wr w.heap.size (0, 0) ∧ BoxP wr (w.heap.size + 1) (0, 0) ∧ Below w.heap.size w wr) (fun i _ => l.length - (intOf i).toNat)
      case atStart => exact ⟨0, (sx0, sy0), (sx1, sy1), Nat.zero_le _, rfl, HST.out.symm, HG0.out, HG1.out, K7, K8, K4, K5, hb⟩
      case round =>
        clear K7 K8 K4 K5 hb HST HG0 HG1
        obtain ⟨kk, ⟨fx, fy⟩, ⟨sx, sy⟩, hk, rfl, hst, hgf, hgs, K7, K8, K4, K5, hbw⟩ := hrel
        have HGF0 := hid hgf
        have HGS0 := hid hgs
        have HST := hid hst
        clear hgf hgs hst
        by_cases hkl : kk < l.length
        · have HST2 : Hid (left k l kk (kk + 1) ((fx, fy), (sx, sy)) = bst k l) := by rw [← left_start k l _ hkl]; exact HST.out
          clear HST
          obtain ⟨b2, off2, e1, hbN2, g0, g1⟩ := HA.out kk hkl
          cases e1
          have q0 := (hbw.cell (p := ⟨b, off + kk * 2, none⟩) hbN).trans g0
          have q1 := (hbw.cell (p := ⟨b, off + kk * 2 + 1, none⟩) hbN).trans g1
          obtain ⟨ax, hax⟩ : ∃ x, px l kk = x := ⟨_, rfl⟩
          obtain ⟨ay, hay⟩ : ∃ x, py l kk = x := ⟨_, rfl⟩
          have HPA : Hid (Go.Proofs.YtipiamhnngmjmaaDoor.pt l kk = (ax, ay)) := by rw [← hax, ← hay]; exact rfl
          have HGA : Hid (goodB ax ay = true) := by rw [← hax, ← hay]; exact HG.out _ (pt_mem (l := l) (i := kk) hkl)
          rw [hax] at q0
          rw [hay] at q1
          clear hax hay g0 g1 hbN2
          have k0 : (0 : Int) ≤ (kk : Int) := by omega
          have k1 : (kk : Int) < (l.length : Int) := by omega
          go_upto_region 7 with fail
          have KA := BoxP.new wr ax ay
          have hbA : Below wr.heap.size wr (wr.alloc (.cells #[.int .i64 ax, .int .i64 ay] 26)) := by go_grown
          have a7 := K7.lt
          have a8 := K8.lt
          have a5 := K5.lt
          have na7 : wr.heap.size ≠ B7 := by omega
          have na8 : wr.heap.size ≠ B8 := by omega
          have hbS := hbw.size
          replace K7 := K7.later hbA
          replace K8 := K8.later hbA
          replace K4 := K4.later hbA
          replace K5 := K5.later hbA
          replace hbw := grew hbw hbA
          clear q0 q1 hbA a7 a8 a5
          generalize wr.heap.size = Ba at KA na7 na8 hbS ⊢
          generalize wr.alloc (.cells #[.int .i64 ax, .int .i64 ay] 26) = wa at KA K7 K8 K4 K5 hbw ⊢
          have k2 : IntKind.i64.wrap ((kk : Int) + 1) = ((kk + 1 : Nat) : Int) := by rw [IntKind.wrap_i64]; omega
          have k3 : ((kk + 1 : Nat) : Int) ≤ (l.length : Int) := by omega
          have k4 : kk + 1 ≤ l.length := by omega
          have k5 : (0 : Int) ≤ ((kk + 1 : Nat) : Int) := by omega
          by_cases hcap : cap = kk + 1
          · have hr0 : l.length - (kk + 1) = 0 := by have := HF.out; omega
            have hr1 : l.length = kk + 1 := by have := HF.out; omega
            have hcz : cap - (kk + 1) = 0 := by omega
            go_wp2
            refine wp_loop_rounds 1 ?_
            rw [rounds_succ]
            go_wp2
            go_roundw
            case rel =>
              have h4 := HST2.out
              rw [left_end k l _ kk (by omega)] at h4
              exact ⟨kk + 1, (fx, fy), (sx, sy), by omega, by go_num, h4, HGF0.out, HGS0.out, K7, K8, K4, K5, hbw⟩
            case measure => simp [intOf]; omega
          have hcz : ¬ cap - (kk + 1) = 0 := by have := HF.out; omega
          go_wp2
          obtain ⟨r, hr⟩ : ∃ r, l.length - (kk + 1) = r := ⟨_, rfl⟩
          rw [hr]
          clear hcap hcz
          clear k2 k3 k4 k5 k0 k1
          go_loopw [41] (fun i wr => ∃ (m : Nat) (f s : Int × Int), m ≤ r ∧ i = .int .i64 m ∧ left k l kk (kk + 1 + m) (f, s) = bst k l ∧ gp f ∧ gp s ∧ BoxP wr B7 f ∧ BoxP wr B8 s ∧ BoxP wr w.heap.size (0, 0) ∧ BoxP wr (w.heap.size + 1) (0, 0) ∧ BoxP wr Ba (ax, ay) ∧ Below w.heap.size w wr) (fun i _ => r - (intOf i).toNat)
          case atStart => exact ⟨0, (fx, fy), (sx, sy), Nat.zero_le _, rfl, HST2.out, HGF0.out, HGS0.out, K7, K8, K4, K5, KA, hbw⟩
          case round =>
            clear K7 K8 K4 K5 hbw HST2 HGF0 HGS0 KA
            obtain ⟨m, ⟨fx, fy⟩, ⟨sx, sy⟩, hm, rfl, hst, hgf, hgs, K7, K8, K4, K5, KA, hbw⟩ := hrel
            have HGF : Hid (goodB fx fy = true) := hid hgf
            have HGS : Hid (goodB sx sy = true) := hid hgs
            have HST := hid hst
            clear hgf hgs hst
            by_cases hml : m < r
            · obtain ⟨b2, off2, e1, hbN2, g0, g1⟩ := HA.out (kk + 1 + m) (by omega)
              cases e1
              have e2 : off + (kk + 1 + m) * 2 = off + (kk + 1) * 2 + m * 2 := by omega
              rw [e2] at g0 g1
              have q0 := (hbw.cell (p := ⟨b, off + (kk + 1) * 2 + m * 2, none⟩) hbN2).trans g0
              have q1 := (hbw.cell (p := ⟨b, off + (kk + 1) * 2 + m * 2 + 1, none⟩) hbN2).trans g1
              obtain ⟨bx, hbx⟩ : ∃ x, px l (kk + 1 + m) = x := ⟨_, rfl⟩
              obtain ⟨b_y, hby⟩ : ∃ x, py l (kk + 1 + m) = x := ⟨_, rfl⟩
              have HPB : Hid (Go.Proofs.YtipiamhnngmjmaaDoor.pt l (kk + 1 + m) = (bx, b_y)) := by rw [← hbx, ← hby]; exact rfl
              have HGB : Hid (goodB bx b_y = true) := by rw [← hbx, ← hby]; exact HG.out _ (pt_mem (l := l) (i := kk + 1 + m) (by omega))
              rw [hbx] at q0
              rw [hby] at q1
              clear hbx hby g0 g1 hbN2 e2
              have HNX : Hid (left k l kk (kk + 1 + (m + 1)) (bstep k ((fx, fy), (sx, sy)) ((ax, ay), (bx, b_y))) = bst k l) := by
                have h3 := HST.out
                rw [left_step k l _ kk (show kk + 1 + m < l.length by omega), HPA.out, HPB.out] at h3
                exact h3
              clear HST
              obtain ⟨u, hu⟩ : ∃ u, apF (ax, ay) (bx, b_y) = u := ⟨_, rfl⟩
              obtain ⟨v, hv⟩ : ∃ v, apF (fx, fy) (sx, sy) = v := ⟨_, rfl⟩
              have hus := apF_small (p := (ax, ay)) (q := (bx, b_y)) HGA.out HGB.out
              have hvs := apF_small (p := (fx, fy)) (q := (sx, sy)) HGF.out HGS.out
              rw [hu] at hus
              rw [hv] at hvs
              have HAB := hid hu
              have HFS := hid hv
              have HWR := hid (show IntKind.i64.wrap (u - v) = u - v by rw [IntKind.wrap_i64]; omega)
              clear hu hv
              have hqs : IntKind.i64.wrap (k * IntKind.i64.wrap (u - v)) = k * (u - v) := by
                rw [HWR.out, IntKind.wrap_i64]
                rcases HKS.out with rfl | rfl <;> omega
              obtain ⟨q, hq⟩ : ∃ q, k * (u - v) = q := ⟨_, rfl⟩
              rw [hq] at hqs
              obtain ⟨rr, hrr⟩ : ∃ rr, IntKind.i64.wrap (u - v) = rr := ⟨_, rfl⟩
              rw [hrr] at hqs
              have k0 : (0 : Int) ≤ (m : Int) := by omega
              have k1 : (m : Int) < (r : Int) := by omega
              go_upto_region 10 with fail
              have KB := BoxP.new wr bx b_y
              have hbB : Below wr.heap.size wr (wr.alloc (.cells #[.int .i64 bx, .int .i64 b_y] 26)) := by go_grown
              have a7 := K7.lt
              have a8 := K8.lt
              have aA := KA.lt
              have nb7 : wr.heap.size ≠ B7 := by omega
              have nb8 : wr.heap.size ≠ B8 := by omega
              replace K7 := K7.later hbB
              replace K8 := K8.later hbB
              replace K4 := K4.later hbB
              replace K5 := K5.later hbB
              replace KA := KA.later hbB
              replace hbw := grew hbw hbB
              clear q0 q1 hbB a7 a8 aA
              generalize wr.heap.size = Bb at KB nb7 nb8 ⊢
              generalize wr.alloc (.cells #[.int .i64 bx, .int .i64 b_y] 26) = wp at KA KB K7 K8 K4 K5 hbw ⊢
              have ca0 := KA.c0
              have ca1 := KA.c1
              have cb0 := KB.c0
              have cb1 := KB.c1
              have c70 := K7.c0
              have c71 := K7.c1
              have c80 := K8.c0
              have c81 := K8.c1
              by_cases hE : k * (u - v) < 0
              all_goals have HEE := hid hE
              · have hqs2 : decide (q < 0) = true := decide_eq_true (by omega)
                have hqs3 : q < 0 := by omega
                clear hq
                refine wp_region_held_drew (S := (fun u => Below wp.heap.size wp u)) (by kernel_rfl) ?_ (fun hHeld => ?_)
                · exact (Below.refl _ _).drew
                refine wpAnyH_take (i := 0) (oi := { dst := some 45, op := Op.move (Operand.tmp 1), type := 3, pos := "l10_pairs.go:25", after := #[], guard := none }) (v := ?v18yx0) rfl (by kernel_rfl) (by kernel_rfl) (by kernel_rfl) (fun _ _ _ h => h) (Or.inl ⟨by rfl, ?hy18yx0⟩) (by with_reducible assumption) ?rest18yx0
                case hy18yx0 => (intro wS hSw; (try dsimp only at hSw); have z0 := cell_later hSw ca0; have z1 := cell_later hSw ca1; have z2 := cell_later hSw cb0; have z3 := cell_later hSw cb1; have z4 := cell_later hSw c70; have z5 := cell_later hSw c71; have z6 := cell_later hSw c80; have z7 := cell_later hSw c81; clear hSw; go_simp; try with_reducible rfl)
                case' rest18yx0 => (try simp only [Act.put, List.setIfInBounds_toArray, List.set_cons_zero, List.set_cons_succ])
                refine wpAnyH_take (i := 1) (oi := { dst := some 46, op := Op.load 26 (Operand.tmp 10), type := 26, pos := "l10_pairs.go:25", after := #[], guard := none }) (v := ?v19yx1) rfl (by kernel_rfl) (by kernel_rfl) (by kernel_rfl) (fun _ _ _ h => h) (Or.inl ⟨by rfl, ?hy19yx1⟩) (by with_reducible assumption) ?rest19yx1
                case hy19yx1 => (intro wS hSw; (try dsimp only at hSw); have z0 := cell_later hSw ca0; have z1 := cell_later hSw ca1; have z2 := cell_later hSw cb0; have z3 := cell_later hSw cb1; have z4 := cell_later hSw c70; have z5 := cell_later hSw c71; have z6 := cell_later hSw c80; have z7 := cell_later hSw c81; clear hSw; go_simp; try with_reducible rfl)
                case' rest19yx1 => (try simp only [Act.put, List.setIfInBounds_toArray, List.set_cons_zero, List.set_cons_succ])
                refine wpAnyH_take (i := 2) (oi := { dst := some 47, op := Op.load 26 (Operand.tmp 12), type := 26, pos := "l10_pairs.go:25", after := #[], guard := none }) (v := ?v20yx2) rfl (by kernel_rfl) (by kernel_rfl) (by kernel_rfl) (fun _ _ _ h => h) (Or.inl ⟨by rfl, ?hy20yx2⟩) (by with_reducible assumption) ?rest20yx2
                case hy20yx2 => (intro wS hSw; (try dsimp only at hSw); have z0 := cell_later hSw ca0; have z1 := cell_later hSw ca1; have z2 := cell_later hSw cb0; have z3 := cell_later hSw cb1; have z4 := cell_later hSw c70; have z5 := cell_later hSw c71; have z6 := cell_later hSw c80; have z7 := cell_later hSw c81; clear hSw; go_simp; try with_reducible rfl)
                case' rest20yx2 => (try simp only [Act.put, List.setIfInBounds_toArray, List.set_cons_zero, List.set_cons_succ])
                refine wpAnyH_take (i := 4) (oi := { dst := some 49, op := Op.load 26 (Operand.tmp 7), type := 26, pos := "l10_pairs.go:25", after := #[], guard := none }) (v := ?v21yx4) rfl (by kernel_rfl) (by kernel_rfl) (by kernel_rfl) (fun _ _ _ h => h) (Or.inl ⟨by rfl, ?hy21yx4⟩) (by with_reducible assumption) ?rest21yx4
                case hy21yx4 => (intro wS hSw; (try dsimp only at hSw); have z0 := cell_later hSw ca0; have z1 := cell_later hSw ca1; have z2 := cell_later hSw cb0; have z3 := cell_later hSw cb1; have z4 := cell_later hSw c70; have z5 := cell_later hSw c71; have z6 := cell_later hSw c80; have z7 := cell_later hSw c81; clear hSw; go_simp; try with_reducible rfl)
                case' rest21yx4 => (try simp only [Act.put, List.setIfInBounds_toArray, List.set_cons_zero, List.set_cons_succ])
                refine wpAnyH_take (i := 5) (oi := { dst := some 50, op := Op.load 26 (Operand.tmp 8), type := 26, pos := "l10_pairs.go:25", after := #[], guard := none }) (v := ?v22yx5) rfl (by kernel_rfl) (by kernel_rfl) (by kernel_rfl) (fun _ _ _ h => h) (Or.inl ⟨by rfl, ?hy22yx5⟩) (by with_reducible assumption) ?rest22yx5
                case hy22yx5 => (intro wS hSw; (try dsimp only at hSw); have z0 := cell_later hSw ca0; have z1 := cell_later hSw ca1; have z2 := cell_later hSw cb0; have z3 := cell_later hSw cb1; have z4 := cell_later hSw c70; have z5 := cell_later hSw c71; have z6 := cell_later hSw c80; have z7 := cell_later hSw c81; clear hSw; go_simp; try with_reducible rfl)
                case' rest22yx5 => (try simp only [Act.put, List.setIfInBounds_toArray, List.set_cons_zero, List.set_cons_succ])
                refine wpAnyH_ready (rs := [3]) (by kernel_rfl) (by simp) ?_
                refine AllReadyH.cons (o := { dst := some 48, op := Op.call { callee := Callee.value (Operand.func 47), args := #[Operand.tmp 46, Operand.tmp 47], argTypes := #[26, 26] }, type := 3, pos := "l10_pairs.go:25", after := #[{ on := 1, ground := Ground.data }, { on := 2, ground := Ground.data }], guard := none }) rfl (fun K hK => ?_) AllReadyH.nil
                go_simp
                refine (apartS_q _ _ _ _ _ _ HGA.out HGB.out HAB.out).mono ?_
                rintro e w2 ⟨rfl, hb2⟩
                go_wp2_with fail
                refine hK.out _ _ ?_ (fun hHeld => ?_)
                · exact grew (by with_reducible assumption) hb2
                clear hK K
                try simp only [Act.put, List.setIfInBounds_toArray, List.set_cons_zero, List.set_cons_succ]
                refine wpAnyH_ready (rs := [6]) (by kernel_rfl) (by simp) ?_
                refine AllReadyH.cons (o := { dst := some 51, op := Op.call { callee := Callee.value (Operand.func 47), args := #[Operand.tmp 49, Operand.tmp 50], argTypes := #[26, 26] }, type := 3, pos := "l10_pairs.go:25", after := #[{ on := 4, ground := Ground.data }, { on := 5, ground := Ground.data }, { on := 3, ground := Ground.chain }], guard := none }) rfl (fun K hK => ?_) AllReadyH.nil
                go_simp
                refine (apartS_q _ _ _ _ _ _ HGF.out HGS.out HFS.out).mono ?_
                rintro e w5 ⟨rfl, hb5⟩
                go_wp2_with fail
                refine hK.out _ _ ?_ (fun hHeld => ?_)
                · exact grew (by with_reducible assumption) hb5
                clear hK K
                try simp only [Act.put, List.setIfInBounds_toArray, List.set_cons_zero, List.set_cons_succ]
                refine wpAnyH_take (i := 7) (oi := { dst := some 52, op := Op.binOp BinOp.sub 3 (Operand.tmp 48) (Operand.tmp 51) 3, type := 3, pos := "l10_pairs.go:25", after := #[{ on := 3, ground := Ground.data }, { on := 6, ground := Ground.data }], guard := none }) (v := ?v23yx7) rfl (by kernel_rfl) (by kernel_rfl) (by kernel_rfl) (fun _ _ _ h => h) (Or.inl ⟨by rfl, ?hy23yx7⟩) (by with_reducible assumption) ?rest23yx7
                case hy23yx7 => (intro wS hSw; (try dsimp only at hSw); have z0 := cell_later hSw ca0; have z1 := cell_later hSw ca1; have z2 := cell_later hSw cb0; have z3 := cell_later hSw cb1; have z4 := cell_later hSw c70; have z5 := cell_later hSw c71; have z6 := cell_later hSw c80; have z7 := cell_later hSw c81; clear hSw; go_simp; try with_reducible rfl)
                case' rest23yx7 => (try simp only [Act.put, List.setIfInBounds_toArray, List.set_cons_zero, List.set_cons_succ])
                refine wpAnyH_take (i := 8) (oi := { dst := some 53, op := Op.binOp BinOp.mul 3 (Operand.tmp 45) (Operand.tmp 52) 3, type := 3, pos := "l10_pairs.go:25", after := #[{ on := 0, ground := Ground.data }, { on := 7, ground := Ground.data }], guard := none }) (v := ?v24yx8) rfl (by kernel_rfl) (by kernel_rfl) (by kernel_rfl) (fun _ _ _ h => h) (Or.inl ⟨by rfl, ?hy24yx8⟩) (by with_reducible assumption) ?rest24yx8
                case hy24yx8 => (intro wS hSw; (try dsimp only at hSw); have z0 := cell_later hSw ca0; have z1 := cell_later hSw ca1; have z2 := cell_later hSw cb0; have z3 := cell_later hSw cb1; have z4 := cell_later hSw c70; have z5 := cell_later hSw c71; have z6 := cell_later hSw c80; have z7 := cell_later hSw c81; clear hSw; go_simp; try with_reducible rfl)
                case' rest24yx8 => (try simp only [Act.put, List.setIfInBounds_toArray, List.set_cons_zero, List.set_cons_succ])
                refine wpAnyH_take (i := 9) (oi := { dst := some 54, op := Op.binOp BinOp.lss 3 (Operand.tmp 53) (Operand.const (Value.int IntKind.i64 0)) 3, type := 4, pos := "l10_pairs.go:25", after := #[{ on := 8, ground := Ground.data }], guard := none }) (v := ?v25yx9) rfl (by kernel_rfl) (by kernel_rfl) (by kernel_rfl) (fun _ _ _ h => h) (Or.inl ⟨by rfl, ?hy25yx9⟩) (by with_reducible assumption) ?rest25yx9
                case hy25yx9 => (intro wS hSw; (try dsimp only at hSw); have z0 := cell_later hSw ca0; have z1 := cell_later hSw ca1; have z2 := cell_later hSw cb0; have z3 := cell_later hSw cb1; have z4 := cell_later hSw c70; have z5 := cell_later hSw c71; have z6 := cell_later hSw c80; have z7 := cell_later hSw c81; clear hSw; go_simp; try with_reducible rfl)
                case' rest25yx9 => (try simp only [Act.put, List.setIfInBounds_toArray, List.set_cons_zero, List.set_cons_succ])
                refine wpAnyH_done (by kernel_rfl) ?_ _
                have hbx : Below wp.heap.size wp w5 := (by with_reducible assumption)
                clear ca0 ca1 cb0 cb1 c70 c71 c80 c81
                replace K7 := K7.later hbx
                replace K8 := K8.later hbx
                replace K4 := K4.later hbx
                replace K5 := K5.later hbx
                replace KA := KA.later hbx
                replace KB := KB.later hbx
                replace hbw := grew hbw hbx
                have f70 := K7.f 0
                have f71 := K7.f 1
                have f80 := K8.f 0
                have f81 := K8.f 1
                have d0 := KA.c0
                have d1 := KA.c1
                have d2 := KB.c0
                have d3 := KB.c1
                have d4 := K7.c0
                have d5 := K7.c1
                have d6 := K8.c0
                have d7 := K8.c1
                have s7 := ((K7.set ax ay).other (i := 0) (B' := B8) n78 (.int .i64 bx)).other (i := 1) (B' := B8) n78 (.int .i64 b_y)
                have s8 := ((K8.other (i := 0) (B' := B7) n78.symm (.int .i64 ax)).other (i := 1) (B' := B7) n78.symm (.int .i64 ay)).set bx b_y
                have sO : ∀ (B : Nat) (p : Int × Int), B ≠ B7 → B ≠ B8 → BoxP w5 B p → BoxP ((((w5.setCell ⟨B7, 0, none⟩ (.int .i64 ax)).setCell ⟨B7, 1, none⟩ (.int .i64 ay)).setCell ⟨B8, 0, none⟩ (.int .i64 bx)).setCell ⟨B8, 1, none⟩ (.int .i64 b_y)) B p := fun B p e1 e2 h => (((h.other e1 _).other e1 _).other e2 _).other e2 _
                have kb := (((hbw.setCell (p := ⟨B7, 0, none⟩) m7 (.int .i64 ax)).setCell (p := ⟨B7, 1, none⟩) m7 (.int .i64 ay)).setCell (p := ⟨B8, 0, none⟩) m8 (.int .i64 bx)).setCell (p := ⟨B8, 1, none⟩) m8 (.int .i64 b_y)
                have KB2 := KB
                go_wp2
                generalize (((w5.setCell ⟨B7, 0, none⟩ (.int .i64 ax)).setCell ⟨B7, 1, none⟩ (.int .i64 ay)).setCell ⟨B8, 0, none⟩ (.int .i64 bx)).setCell ⟨B8, 1, none⟩ (.int .i64 b_y) = wq at s7 s8 sO kb ⊢
                have Q7 := s7
                have Q8 := s8
                have Q4 := sO _ _ n47 n48 K4
                have Q5 := sO _ _ n57 n58 K5
                have QA := sO _ _ na7 na8 KA
                have hbq := kb
                go_wp2
                go_roundw
                case rel =>
                  have h4 := HNX.out
                  unfold bstep at h4
                  rw [if_pos (by dsimp only; rw [HAB.out, HFS.out]; first | exact HEE.out | exact Int.not_lt.2 HEE.out)] at h4
                  exact ⟨m + 1, (ax, ay), (bx, b_y), by omega, by go_num, h4, HGA.out, HGB.out, Q7, Q8, Q4, Q5, QA, hbq⟩
                case measure => simp [intOf]; omega
              · have hqs2 : decide (q < 0) = false := decide_eq_false (by omega)
                clear hq
                refine wp_region_held_drew (S := (fun u => Below wp.heap.size wp u)) (by kernel_rfl) ?_ (fun hHeld => ?_)
                · exact (Below.refl _ _).drew
                refine wpAnyH_take (i := 0) (oi := { dst := some 45, op := Op.move (Operand.tmp 1), type := 3, pos := "l10_pairs.go:25", after := #[], guard := none }) (v := ?v27yx0) rfl (by kernel_rfl) (by kernel_rfl) (by kernel_rfl) (fun _ _ _ h => h) (Or.inl ⟨by rfl, ?hy27yx0⟩) (by with_reducible assumption) ?rest27yx0
                case hy27yx0 => (intro wS hSw; (try dsimp only at hSw); have z0 := cell_later hSw ca0; have z1 := cell_later hSw ca1; have z2 := cell_later hSw cb0; have z3 := cell_later hSw cb1; have z4 := cell_later hSw c70; have z5 := cell_later hSw c71; have z6 := cell_later hSw c80; have z7 := cell_later hSw c81; clear hSw; go_simp; try with_reducible rfl)
                case' rest27yx0 => (try simp only [Act.put, List.setIfInBounds_toArray, List.set_cons_zero, List.set_cons_succ])
                refine wpAnyH_take (i := 1) (oi := { dst := some 46, op := Op.load 26 (Operand.tmp 10), type := 26, pos := "l10_pairs.go:25", after := #[], guard := none }) (v := ?v28yx1) rfl (by kernel_rfl) (by kernel_rfl) (by kernel_rfl) (fun _ _ _ h => h) (Or.inl ⟨by rfl, ?hy28yx1⟩) (by with_reducible assumption) ?rest28yx1
                case hy28yx1 => (intro wS hSw; (try dsimp only at hSw); have z0 := cell_later hSw ca0; have z1 := cell_later hSw ca1; have z2 := cell_later hSw cb0; have z3 := cell_later hSw cb1; have z4 := cell_later hSw c70; have z5 := cell_later hSw c71; have z6 := cell_later hSw c80; have z7 := cell_later hSw c81; clear hSw; go_simp; try with_reducible rfl)
                case' rest28yx1 => (try simp only [Act.put, List.setIfInBounds_toArray, List.set_cons_zero, List.set_cons_succ])
                refine wpAnyH_take (i := 2) (oi := { dst := some 47, op := Op.load 26 (Operand.tmp 12), type := 26, pos := "l10_pairs.go:25", after := #[], guard := none }) (v := ?v29yx2) rfl (by kernel_rfl) (by kernel_rfl) (by kernel_rfl) (fun _ _ _ h => h) (Or.inl ⟨by rfl, ?hy29yx2⟩) (by with_reducible assumption) ?rest29yx2
                case hy29yx2 => (intro wS hSw; (try dsimp only at hSw); have z0 := cell_later hSw ca0; have z1 := cell_later hSw ca1; have z2 := cell_later hSw cb0; have z3 := cell_later hSw cb1; have z4 := cell_later hSw c70; have z5 := cell_later hSw c71; have z6 := cell_later hSw c80; have z7 := cell_later hSw c81; clear hSw; go_simp; try with_reducible rfl)
                case' rest29yx2 => (try simp only [Act.put, List.setIfInBounds_toArray, List.set_cons_zero, List.set_cons_succ])
                refine wpAnyH_take (i := 4) (oi := { dst := some 49, op := Op.load 26 (Operand.tmp 7), type := 26, pos := "l10_pairs.go:25", after := #[], guard := none }) (v := ?v30yx4) rfl (by kernel_rfl) (by kernel_rfl) (by kernel_rfl) (fun _ _ _ h => h) (Or.inl ⟨by rfl, ?hy30yx4⟩) (by with_reducible assumption) ?rest30yx4
                case hy30yx4 => (intro wS hSw; (try dsimp only at hSw); have z0 := cell_later hSw ca0; have z1 := cell_later hSw ca1; have z2 := cell_later hSw cb0; have z3 := cell_later hSw cb1; have z4 := cell_later hSw c70; have z5 := cell_later hSw c71; have z6 := cell_later hSw c80; have z7 := cell_later hSw c81; clear hSw; go_simp; try with_reducible rfl)
                case' rest30yx4 => (try simp only [Act.put, List.setIfInBounds_toArray, List.set_cons_zero, List.set_cons_succ])
                refine wpAnyH_take (i := 5) (oi := { dst := some 50, op := Op.load 26 (Operand.tmp 8), type := 26, pos := "l10_pairs.go:25", after := #[], guard := none }) (v := ?v31yx5) rfl (by kernel_rfl) (by kernel_rfl) (by kernel_rfl) (fun _ _ _ h => h) (Or.inl ⟨by rfl, ?hy31yx5⟩) (by with_reducible assumption) ?rest31yx5
                case hy31yx5 => (intro wS hSw; (try dsimp only at hSw); have z0 := cell_later hSw ca0; have z1 := cell_later hSw ca1; have z2 := cell_later hSw cb0; have z3 := cell_later hSw cb1; have z4 := cell_later hSw c70; have z5 := cell_later hSw c71; have z6 := cell_later hSw c80; have z7 := cell_later hSw c81; clear hSw; go_simp; try with_reducible rfl)
                case' rest31yx5 => (try simp only [Act.put, List.setIfInBounds_toArray, List.set_cons_zero, List.set_cons_succ])
                refine wpAnyH_ready (rs := [3]) (by kernel_rfl) (by simp) ?_
                refine AllReadyH.cons (o := { dst := some 48, op := Op.call { callee := Callee.value (Operand.func 47), args := #[Operand.tmp 46, Operand.tmp 47], argTypes := #[26, 26] }, type := 3, pos := "l10_pairs.go:25", after := #[{ on := 1, ground := Ground.data }, { on := 2, ground := Ground.data }], guard := none }) rfl (fun K hK => ?_) AllReadyH.nil
                go_simp
                refine (apartS_q _ _ _ _ _ _ HGA.out HGB.out HAB.out).mono ?_
                rintro e w2 ⟨rfl, hb2⟩
                go_wp2_with fail
                refine hK.out _ _ ?_ (fun hHeld => ?_)
                · exact grew (by with_reducible assumption) hb2
                clear hK K
                try simp only [Act.put, List.setIfInBounds_toArray, List.set_cons_zero, List.set_cons_succ]
                refine wpAnyH_ready (rs := [6]) (by kernel_rfl) (by simp) ?_
                refine AllReadyH.cons (o := { dst := some 51, op := Op.call { callee := Callee.value (Operand.func 47), args := #[Operand.tmp 49, Operand.tmp 50], argTypes := #[26, 26] }, type := 3, pos := "l10_pairs.go:25", after := #[{ on := 4, ground := Ground.data }, { on := 5, ground := Ground.data }, { on := 3, ground := Ground.chain }], guard := none }) rfl (fun K hK => ?_) AllReadyH.nil
                go_simp
                refine (apartS_q _ _ _ _ _ _ HGF.out HGS.out HFS.out).mono ?_
                rintro e w5 ⟨rfl, hb5⟩
                go_wp2_with fail
                refine hK.out _ _ ?_ (fun hHeld => ?_)
                · exact grew (by with_reducible assumption) hb5
                clear hK K
                try simp only [Act.put, List.setIfInBounds_toArray, List.set_cons_zero, List.set_cons_succ]
                refine wpAnyH_take (i := 7) (oi := { dst := some 52, op := Op.binOp BinOp.sub 3 (Operand.tmp 48) (Operand.tmp 51) 3, type := 3, pos := "l10_pairs.go:25", after := #[{ on := 3, ground := Ground.data }, { on := 6, ground := Ground.data }], guard := none }) (v := ?v32yx7) rfl (by kernel_rfl) (by kernel_rfl) (by kernel_rfl) (fun _ _ _ h => h) (Or.inl ⟨by rfl, ?hy32yx7⟩) (by with_reducible assumption) ?rest32yx7
                case hy32yx7 => (intro wS hSw; (try dsimp only at hSw); have z0 := cell_later hSw ca0; have z1 := cell_later hSw ca1; have z2 := cell_later hSw cb0; have z3 := cell_later hSw cb1; have z4 := cell_later hSw c70; have z5 := cell_later hSw c71; have z6 := cell_later hSw c80; have z7 := cell_later hSw c81; clear hSw; go_simp; try with_reducible rfl)
                case' rest32yx7 => (try simp only [Act.put, List.setIfInBounds_toArray, List.set_cons_zero, List.set_cons_succ])
                refine wpAnyH_take (i := 8) (oi := { dst := some 53, op := Op.binOp BinOp.mul 3 (Operand.tmp 45) (Operand.tmp 52) 3, type := 3, pos := "l10_pairs.go:25", after := #[{ on := 0, ground := Ground.data }, { on := 7, ground := Ground.data }], guard := none }) (v := ?v33yx8) rfl (by kernel_rfl) (by kernel_rfl) (by kernel_rfl) (fun _ _ _ h => h) (Or.inl ⟨by rfl, ?hy33yx8⟩) (by with_reducible assumption) ?rest33yx8
                case hy33yx8 => (intro wS hSw; (try dsimp only at hSw); have z0 := cell_later hSw ca0; have z1 := cell_later hSw ca1; have z2 := cell_later hSw cb0; have z3 := cell_later hSw cb1; have z4 := cell_later hSw c70; have z5 := cell_later hSw c71; have z6 := cell_later hSw c80; have z7 := cell_later hSw c81; clear hSw; go_simp; try with_reducible rfl)
                case' rest33yx8 => (try simp only [Act.put, List.setIfInBounds_toArray, List.set_cons_zero, List.set_cons_succ])
                refine wpAnyH_take (i := 9) (oi := { dst := some 54, op := Op.binOp BinOp.lss 3 (Operand.tmp 53) (Operand.const (Value.int IntKind.i64 0)) 3, type := 4, pos := "l10_pairs.go:25", after := #[{ on := 8, ground := Ground.data }], guard := none }) (v := ?v34yx9) rfl (by kernel_rfl) (by kernel_rfl) (by kernel_rfl) (fun _ _ _ h => h) (Or.inl ⟨by rfl, ?hy34yx9⟩) (by with_reducible assumption) ?rest34yx9
                case hy34yx9 => (intro wS hSw; (try dsimp only at hSw); have z0 := cell_later hSw ca0; have z1 := cell_later hSw ca1; have z2 := cell_later hSw cb0; have z3 := cell_later hSw cb1; have z4 := cell_later hSw c70; have z5 := cell_later hSw c71; have z6 := cell_later hSw c80; have z7 := cell_later hSw c81; clear hSw; go_simp; try with_reducible rfl)
                case' rest34yx9 => (try simp only [Act.put, List.setIfInBounds_toArray, List.set_cons_zero, List.set_cons_succ])
                refine wpAnyH_done (by kernel_rfl) ?_ _
                have hbx : Below wp.heap.size wp w5 := (by with_reducible assumption)
                clear ca0 ca1 cb0 cb1 c70 c71 c80 c81
                replace K7 := K7.later hbx
                replace K8 := K8.later hbx
                replace K4 := K4.later hbx
                replace K5 := K5.later hbx
                replace KA := KA.later hbx
                replace KB := KB.later hbx
                replace hbw := grew hbw hbx
                go_wp2
                go_roundw
                case rel =>
                  have h4 := HNX.out
                  unfold bstep at h4
                  rw [if_neg (by dsimp only; rw [HAB.out, HFS.out]; first | exact HEE.out | exact Int.not_lt.2 HEE.out)] at h4
                  exact ⟨m + 1, (fx, fy), (sx, sy), by omega, by go_num, h4, HGF.out, HGS.out, K7, K8, K4, K5, KA, hbw⟩
                case measure => simp [intOf]; omega
            · obtain rfl : m = r := by omega
              go_wp2
              go_roundw
              case rel =>
                have h4 := HST.out
                rw [left_end k l _ kk (by omega)] at h4
                exact ⟨kk + 1, (fx, fy), (sx, sy), by omega, by go_num, h4, HGF.out, HGS.out, K7, K8, K4, K5, hbw⟩
              case measure => simp [intOf]; omega
        · obtain rfl : kk = l.length := by omega
          have HE : Hid (((fx, fy), (sx, sy)) = bsV k l) := by
            unfold bsV
            rw [HK.out, ← HST.out, prs_end (Nat.le_refl _)]; rfl
          go_upto_region 15 with fail
          refine tellTwoSpec w.heap.size B7 B8 w.heap.size (w.heap.size + 1) fx fy sx sy (0, 0) (0, 0) _ _ _ _ _ _ _ _ _ _ _ _ _ _ _ _ _ _ _ _ _ _ _ _ _ _ _ _ _ _ _ _ _ _ _ _ _ _ _ _ _ _ _ _ _ _ _ _ _ _ _ _ _ _ _ _ _ _ _ K7 K8 K4 K5 n45 n47.symm n57.symm n48.symm n58.symm (Nat.le_refl _) (Nat.le_succ _) (fun _ _ _ _ _ h => h) ?_
          intro wz Z4 Z5 _ hz
          have r0 := Z4.c0
          have r1 := Z4.c1
          have r2 := Z5.c0
          have r3 := Z5.c1
          go_wp2
          refine bodyPost_ret (v := .tuple #[.agg #[.int .i64 fx, .int .i64 fy], .agg #[.int .i64 sx, .int .i64 sy], .bool true]) (by simp [results, Tryd.results50, go_sem, r0, r1, r2, r3]) rfl ?_
          exact ⟨ret_ppb (by rw [← HE.out]) (by rw [← HE.out]) (by rw [← HE.out]) (by rw [← HE.out]) HK.out.symm, hbw.trans hz⟩
end Go.Proofs.YtipiamhnngmjmaaDoor
