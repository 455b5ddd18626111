/-
  The nearest and the farthest two: the program's functions and the specification's (contracts for the walks).
  Conditions: as each theorem states them.
-/
import Derived.Test.YtipiamhnngmjmaaDoorNr3
namespace Go.Proofs.YtipiamhnngmjmaaDoor
open Go.RowKit Go.Shelf
set_option linter.unusedVariables false
set_option maxRecDepth 8000
set_option maxHeartbeats 2000000 in
theorem nearestImpl_c (l : List (Int × Int)) (a : Option Addr) (len cap : Nat) (w : World) (hl : l.length = len) (h1 : len ≤ 1048576) (hF : Fit a len cap) (hA : At w.heap.size a l w) (c0 : w.cell? ⟨0, 0, none⟩ = some (.int .i64 1000000)) :
    Calls Tryd.prog 18 #[.slice a len cap] w fun e w' => e = .returned (.tuple #[.agg #[.int .i64 (bsV 1 l).1.1, .int .i64 (bsV 1 l).1.2], .agg #[.int .i64 (bsV 1 l).2.1, .int .i64 (bsV 1 l).2.2], .bool (bsOk l)]) ∧ Below w.heap.size w w' := by
  subst hl
  have HA := hid hA
  have HF := hid hF
  have C0 := hid c0
  clear hA hF c0
  obtain ⟨⟨⟨e0, e1⟩, e2, e3⟩, hE⟩ : ∃ e, bsV 1 l = e := ⟨_, rfl⟩
  rw [hE]
  go_enter Tryd.func18, Tryd.ntmps18
  go_upto_region 1 with fail
  have K5 := BoxP.new (w.alloc (.cells #[.int .i64 0, .int .i64 0] 26)) 0 0
  have K4 := (BoxP.new w 0 0).later ((Below.refl _ (w.alloc (.cells #[.int .i64 0, .int .i64 0] 26))).alloc (Nat.le_refl _) (.cells #[.int .i64 0, .int .i64 0] 26))
  simp only [World.size_alloc] at K5
  have hb : Below w.heap.size w ((w.alloc (.cells #[.int .i64 0, .int .i64 0] 26)).alloc (.cells #[.int .i64 0, .int .i64 0] 26)) := by go_grown
  generalize (w.alloc (.cells #[.int .i64 0, .int .i64 0] 26)).alloc (.cells #[.int .i64 0, .int .i64 0] 26) = w0 at K4 K5 hb ⊢
  have n45 : w.heap.size ≠ w.heap.size + 1 := by omega
  go_wp2_with (go_at_call 51; refine (bestImpl_c 1 (-1) (by omega) l _ _ _ _ rfl h1 HF.out ((HA.out.later hb).mono hb.size) (cell_later hb C0.out)).mono ?_; rw [hE]; rintro e w1 ⟨rfl, hb1⟩; replace K4 := K4.later hb1; replace K5 := K5.later hb1; replace hb := grew hb hb1; have c40 := K4.c0; have c41 := K4.c1; have c50 := K5.c0; have c51 := K5.c1; have f40 := K4.f 0; have f41 := K4.f 1; have f50 := K5.f 0; have f51 := K5.f 1)
  have Z4 := ((K4.set e0 e1).other (i := 0) (B' := w.heap.size + 1) n45 (.int .i64 e2)).other (i := 1) (B' := w.heap.size + 1) n45 (.int .i64 e3)
  have Z5 := ((K5.other (i := 0) (B' := w.heap.size) n45.symm (.int .i64 e0)).other (i := 1) (B' := w.heap.size) n45.symm (.int .i64 e1)).set e2 e3
  have hz := (((hb.setCell (p := ⟨w.heap.size, 0, none⟩) (Nat.le_refl _) (.int .i64 e0)).setCell (p := ⟨w.heap.size, 1, none⟩) (Nat.le_refl _) (.int .i64 e1)).setCell (p := ⟨w.heap.size + 1, 0, none⟩) (Nat.le_succ _) (.int .i64 e2)).setCell (p := ⟨w.heap.size + 1, 1, none⟩) (Nat.le_succ _) (.int .i64 e3)
  generalize (((w1.setCell ⟨w.heap.size, 0, none⟩ (.int .i64 e0)).setCell ⟨w.heap.size, 1, none⟩ (.int .i64 e1)).setCell ⟨w.heap.size + 1, 0, none⟩ (.int .i64 e2)).setCell ⟨w.heap.size + 1, 1, none⟩ (.int .i64 e3) = wz at Z4 Z5 hz ⊢
  have r0 := Z4.c0
  have r1 := Z4.c1
  have r2 := Z5.c0
  have r3 := Z5.c1
  refine bodyPost_ret (v := .tuple #[.agg #[.int .i64 e0, .int .i64 e1], .agg #[.int .i64 e2, .int .i64 e3], .bool (bsOk l)]) (by simp [results, Tryd.results18, go_sem, r0, r1, r2, r3]) rfl ?_
  exact ⟨rfl, hz⟩
set_option maxHeartbeats 2000000 in
theorem nearestSpec_c (l : List (Int × Int)) (a : Option Addr) (len cap : Nat) (w : World) (hl : l.length = len) (h1 : len ≤ 1048576) (hF : Fit a len cap) (hA : At w.heap.size a l w) :
    Calls Tryd.prog 16 #[.slice a len cap] w fun e w' => e = .returned (.tuple #[.agg #[.int .i64 (bsV 1 l).1.1, .int .i64 (bsV 1 l).1.2], .agg #[.int .i64 (bsV 1 l).2.1, .int .i64 (bsV 1 l).2.2], .bool (bsOk l)]) ∧ Below w.heap.size w w' := by
  subst hl
  have HA := hid hA
  have HF := hid hF
  skip
  clear hA hF
  obtain ⟨⟨⟨e0, e1⟩, e2, e3⟩, hE⟩ : ∃ e, bsV 1 l = e := ⟨_, rfl⟩
  rw [hE]
  go_enter Tryd.func16, Tryd.ntmps16
  go_upto_region 1 with fail
  have K5 := BoxP.new (w.alloc (.cells #[.int .i64 0, .int .i64 0] 26)) 0 0
  have K4 := (BoxP.new w 0 0).later ((Below.refl _ (w.alloc (.cells #[.int .i64 0, .int .i64 0] 26))).alloc (Nat.le_refl _) (.cells #[.int .i64 0, .int .i64 0] 26))
  simp only [World.size_alloc] at K5
  have hb : Below w.heap.size w ((w.alloc (.cells #[.int .i64 0, .int .i64 0] 26)).alloc (.cells #[.int .i64 0, .int .i64 0] 26)) := by go_grown
  generalize (w.alloc (.cells #[.int .i64 0, .int .i64 0] 26)).alloc (.cells #[.int .i64 0, .int .i64 0] 26) = w0 at K4 K5 hb ⊢
  have n45 : w.heap.size ≠ w.heap.size + 1 := by omega
  go_wp2_with (go_at_call 50; refine (bestSpec_c 1 (by omega) l _ _ _ _ rfl h1 HF.out ((HA.out.later hb).mono hb.size)).mono ?_; rw [hE]; rintro e w1 ⟨rfl, hb1⟩; replace K4 := K4.later hb1; replace K5 := K5.later hb1; replace hb := grew hb hb1; have c40 := K4.c0; have c41 := K4.c1; have c50 := K5.c0; have c51 := K5.c1; have f40 := K4.f 0; have f41 := K4.f 1; have f50 := K5.f 0; have f51 := K5.f 1)
  have Z4 := ((K4.set e0 e1).other (i := 0) (B' := w.heap.size + 1) n45 (.int .i64 e2)).other (i := 1) (B' := w.heap.size + 1) n45 (.int .i64 e3)
  have Z5 := ((K5.other (i := 0) (B' := w.heap.size) n45.symm (.int .i64 e0)).other (i := 1) (B' := w.heap.size) n45.symm (.int .i64 e1)).set e2 e3
  have hz := (((hb.setCell (p := ⟨w.heap.size, 0, none⟩) (Nat.le_refl _) (.int .i64 e0)).setCell (p := ⟨w.heap.size, 1, none⟩) (Nat.le_refl _) (.int .i64 e1)).setCell (p := ⟨w.heap.size + 1, 0, none⟩) (Nat.le_succ _) (.int .i64 e2)).setCell (p := ⟨w.heap.size + 1, 1, none⟩) (Nat.le_succ _) (.int .i64 e3)
  generalize (((w1.setCell ⟨w.heap.size, 0, none⟩ (.int .i64 e0)).setCell ⟨w.heap.size, 1, none⟩ (.int .i64 e1)).setCell ⟨w.heap.size + 1, 0, none⟩ (.int .i64 e2)).setCell ⟨w.heap.size + 1, 1, none⟩ (.int .i64 e3) = wz at Z4 Z5 hz ⊢
  have r0 := Z4.c0
  have r1 := Z4.c1
  have r2 := Z5.c0
  have r3 := Z5.c1
  refine bodyPost_ret (v := .tuple #[.agg #[.int .i64 e0, .int .i64 e1], .agg #[.int .i64 e2, .int .i64 e3], .bool (bsOk l)]) (by simp [results, Tryd.results16, go_sem, r0, r1, r2, r3]) rfl ?_
  exact ⟨rfl, hz⟩
set_option maxHeartbeats 2000000 in
theorem farthestImpl_c (l : List (Int × Int)) (a : Option Addr) (len cap : Nat) (w : World) (hl : l.length = len) (h1 : len ≤ 1048576) (hF : Fit a len cap) (hA : At w.heap.size a l w) (c0 : w.cell? ⟨0, 0, none⟩ = some (.int .i64 1000000)) :
    Calls Tryd.prog 24 #[.slice a len cap] w fun e w' => e = .returned (.tuple #[.agg #[.int .i64 (bsV (-1) l).1.1, .int .i64 (bsV (-1) l).1.2], .agg #[.int .i64 (bsV (-1) l).2.1, .int .i64 (bsV (-1) l).2.2], .bool (bsOk l)]) ∧ Below w.heap.size w w' := by
  subst hl
  have HA := hid hA
  have HF := hid hF
  have C0 := hid c0
  clear hA hF c0
  obtain ⟨⟨⟨e0, e1⟩, e2, e3⟩, hE⟩ : ∃ e, bsV (-1) l = e := ⟨_, rfl⟩
  rw [hE]
  go_enter Tryd.func24, Tryd.ntmps24
  go_upto_region 1 with fail
  have K5 := BoxP.new (w.alloc (.cells #[.int .i64 0, .int .i64 0] 26)) 0 0
  have K4 := (BoxP.new w 0 0).later ((Below.refl _ (w.alloc (.cells #[.int .i64 0, .int .i64 0] 26))).alloc (Nat.le_refl _) (.cells #[.int .i64 0, .int .i64 0] 26))
  simp only [World.size_alloc] at K5
  have hb : Below w.heap.size w ((w.alloc (.cells #[.int .i64 0, .int .i64 0] 26)).alloc (.cells #[.int .i64 0, .int .i64 0] 26)) := by go_grown
  generalize (w.alloc (.cells #[.int .i64 0, .int .i64 0] 26)).alloc (.cells #[.int .i64 0, .int .i64 0] 26) = w0 at K4 K5 hb ⊢
  have n45 : w.heap.size ≠ w.heap.size + 1 := by omega
  go_wp2_with (go_at_call 51; refine (bestImpl_c (-1) 1 (by omega) l _ _ _ _ rfl h1 HF.out ((HA.out.later hb).mono hb.size) (cell_later hb C0.out)).mono ?_; rw [hE]; rintro e w1 ⟨rfl, hb1⟩; replace K4 := K4.later hb1; replace K5 := K5.later hb1; replace hb := grew hb hb1; have c40 := K4.c0; have c41 := K4.c1; have c50 := K5.c0; have c51 := K5.c1; have f40 := K4.f 0; have f41 := K4.f 1; have f50 := K5.f 0; have f51 := K5.f 1)
  have Z4 := ((K4.set e0 e1).other (i := 0) (B' := w.heap.size + 1) n45 (.int .i64 e2)).other (i := 1) (B' := w.heap.size + 1) n45 (.int .i64 e3)
  have Z5 := ((K5.other (i := 0) (B' := w.heap.size) n45.symm (.int .i64 e0)).other (i := 1) (B' := w.heap.size) n45.symm (.int .i64 e1)).set e2 e3
  have hz := (((hb.setCell (p := ⟨w.heap.size, 0, none⟩) (Nat.le_refl _) (.int .i64 e0)).setCell (p := ⟨w.heap.size, 1, none⟩) (Nat.le_refl _) (.int .i64 e1)).setCell (p := ⟨w.heap.size + 1, 0, none⟩) (Nat.le_succ _) (.int .i64 e2)).setCell (p := ⟨w.heap.size + 1, 1, none⟩) (Nat.le_succ _) (.int .i64 e3)
  generalize (((w1.setCell ⟨w.heap.size, 0, none⟩ (.int .i64 e0)).setCell ⟨w.heap.size, 1, none⟩ (.int .i64 e1)).setCell ⟨w.heap.size + 1, 0, none⟩ (.int .i64 e2)).setCell ⟨w.heap.size + 1, 1, none⟩ (.int .i64 e3) = wz at Z4 Z5 hz ⊢
  have r0 := Z4.c0
  have r1 := Z4.c1
  have r2 := Z5.c0
  have r3 := Z5.c1
  refine bodyPost_ret (v := .tuple #[.agg #[.int .i64 e0, .int .i64 e1], .agg #[.int .i64 e2, .int .i64 e3], .bool (bsOk l)]) (by simp [results, Tryd.results24, go_sem, r0, r1, r2, r3]) rfl ?_
  exact ⟨rfl, hz⟩
set_option maxHeartbeats 2000000 in
theorem farthestSpec_c (l : List (Int × Int)) (a : Option Addr) (len cap : Nat) (w : World) (hl : l.length = len) (h1 : len ≤ 1048576) (hF : Fit a len cap) (hA : At w.heap.size a l w) :
    Calls Tryd.prog 23 #[.slice a len cap] w fun e w' => e = .returned (.tuple #[.agg #[.int .i64 (bsV (-1) l).1.1, .int .i64 (bsV (-1) l).1.2], .agg #[.int .i64 (bsV (-1) l).2.1, .int .i64 (bsV (-1) l).2.2], .bool (bsOk l)]) ∧ Below w.heap.size w w' := by
  subst hl
  have HA := hid hA
  have HF := hid hF
  skip
  clear hA hF
  obtain ⟨⟨⟨e0, e1⟩, e2, e3⟩, hE⟩ : ∃ e, bsV (-1) l = e := ⟨_, rfl⟩
  rw [hE]
  go_enter Tryd.func23, Tryd.ntmps23
  go_upto_region 1 with fail
  have K5 := BoxP.new (w.alloc (.cells #[.int .i64 0, .int .i64 0] 26)) 0 0
  have K4 := (BoxP.new w 0 0).later ((Below.refl _ (w.alloc (.cells #[.int .i64 0, .int .i64 0] 26))).alloc (Nat.le_refl _) (.cells #[.int .i64 0, .int .i64 0] 26))
  simp only [World.size_alloc] at K5
  have hb : Below w.heap.size w ((w.alloc (.cells #[.int .i64 0, .int .i64 0] 26)).alloc (.cells #[.int .i64 0, .int .i64 0] 26)) := by go_grown
  generalize (w.alloc (.cells #[.int .i64 0, .int .i64 0] 26)).alloc (.cells #[.int .i64 0, .int .i64 0] 26) = w0 at K4 K5 hb ⊢
  have n45 : w.heap.size ≠ w.heap.size + 1 := by omega
  go_wp2_with (go_at_call 50; refine (bestSpec_c (-1) (by omega) l _ _ _ _ rfl h1 HF.out ((HA.out.later hb).mono hb.size)).mono ?_; rw [hE]; rintro e w1 ⟨rfl, hb1⟩; replace K4 := K4.later hb1; replace K5 := K5.later hb1; replace hb := grew hb hb1; have c40 := K4.c0; have c41 := K4.c1; have c50 := K5.c0; have c51 := K5.c1; have f40 := K4.f 0; have f41 := K4.f 1; have f50 := K5.f 0; have f51 := K5.f 1)
  have Z4 := ((K4.set e0 e1).other (i := 0) (B' := w.heap.size + 1) n45 (.int .i64 e2)).other (i := 1) (B' := w.heap.size + 1) n45 (.int .i64 e3)
  have Z5 := ((K5.other (i := 0) (B' := w.heap.size) n45.symm (.int .i64 e0)).other (i := 1) (B' := w.heap.size) n45.symm (.int .i64 e1)).set e2 e3
  have hz := (((hb.setCell (p := ⟨w.heap.size, 0, none⟩) (Nat.le_refl _) (.int .i64 e0)).setCell (p := ⟨w.heap.size, 1, none⟩) (Nat.le_refl _) (.int .i64 e1)).setCell (p := ⟨w.heap.size + 1, 0, none⟩) (Nat.le_succ _) (.int .i64 e2)).setCell (p := ⟨w.heap.size + 1, 1, none⟩) (Nat.le_succ _) (.int .i64 e3)
  generalize (((w1.setCell ⟨w.heap.size, 0, none⟩ (.int .i64 e0)).setCell ⟨w.heap.size, 1, none⟩ (.int .i64 e1)).setCell ⟨w.heap.size + 1, 0, none⟩ (.int .i64 e2)).setCell ⟨w.heap.size + 1, 1, none⟩ (.int .i64 e3) = wz at Z4 Z5 hz ⊢
  have r0 := Z4.c0
  have r1 := Z4.c1
  have r2 := Z5.c0
  have r3 := Z5.c1
  refine bodyPost_ret (v := .tuple #[.agg #[.int .i64 e0, .int .i64 e1], .agg #[.int .i64 e2, .int .i64 e3], .bool (bsOk l)]) (by simp [results, Tryd.results23, go_sem, r0, r1, r2, r3]) rfl ?_
  exact ⟨rfl, hz⟩
end Go.Proofs.YtipiamhnngmjmaaDoor
