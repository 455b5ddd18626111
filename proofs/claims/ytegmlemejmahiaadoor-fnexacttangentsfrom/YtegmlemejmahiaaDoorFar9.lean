/-
  TangentsFrom: the program's and the specification's (contracts for the walks).
  Conditions: as each theorem states them.
-/
import Derived.Test.YtegmlemejmahiaaDoorHold5
namespace Go.Proofs.YtegmlemejmahiaaDoor
open Go.RowKit Go.Shelf
set_option linter.unusedVariables false
set_option maxRecDepth 8000
theorem ret_ppb {p q r s : Int × Int} {a b : Bool} (h : p = q) (h2 : r = s) (k : a = b) : Ending.returned (.tuple #[.agg #[.int .i64 p.1, .int .i64 p.2], .agg #[.int .i64 r.1, .int .i64 r.2], .bool a]) = .returned (.tuple #[.agg #[.int .i64 q.1, .int .i64 q.2], .agg #[.int .i64 s.1, .int .i64 s.2], .bool b]) := by rw [h, h2, k]
set_option maxHeartbeats 8000000 in
theorem tangentsSpec_c (l : List (Int × Int)) (x y : Int) (a : Option Addr) (len cap : Nat) (w : World) (hl : l.length = len) (h1 : len ≤ 1048576) (hA : At w.heap.size a l w) :
    Calls Tryd.prog 19 #[.slice a len cap, .agg #[.int .i64 x, .int .i64 y]] w fun e w' => e = .returned (.tuple #[.agg #[.int .i64 (tgA l x y (-1)).1, .int .i64 (tgA l x y (-1)).2], .agg #[.int .i64 (tgA l x y 1).1, .int .i64 (tgA l x y 1).2], .bool (tgOk l x y)]) ∧ Below w.heap.size w w' := by
  subst hl
  have HA := hid hA
  clear hA
  have hbw : Below w.heap.size w (((w.alloc (.cells #[.int .i64 x, .int .i64 y] 26)).alloc (.cells #[.int .i64 0, .int .i64 0] 26)).alloc (.cells #[.int .i64 0, .int .i64 0] 26)) := by go_grown
  have K3 := BoxP.later (BoxP.later (BoxP.new w x y) ((Below.refl _ _).alloc (Nat.le_refl _) (.cells #[.int .i64 0, .int .i64 0] 26))) ((Below.refl _ _).alloc (Nat.le_refl _) (.cells #[.int .i64 0, .int .i64 0] 26))
  have K4 := BoxP.later (BoxP.new (w.alloc (.cells #[.int .i64 x, .int .i64 y] 26)) 0 0) ((Below.refl _ _).alloc (Nat.le_refl _) (.cells #[.int .i64 0, .int .i64 0] 26))
  have K5 := BoxP.new ((w.alloc (.cells #[.int .i64 x, .int .i64 y] 26)).alloc (.cells #[.int .i64 0, .int .i64 0] 26)) 0 0
  simp only [World.size_alloc] at K4 K5
  go_enter Tryd.func19, Tryd.ntmps19
  go_upto_region 1 with fail
  generalize (((w.alloc (.cells #[.int .i64 x, .int .i64 y] 26)).alloc (.cells #[.int .i64 0, .int .i64 0] 26)).alloc (.cells #[.int .i64 0, .int .i64 0] 26)) = w0 at hbw K3 K4 K5 ⊢
  have k0 := K3.c0
  have k1 := K3.c1
  have c40 := K4.c0
  have c41 := K4.c1
  have f40 := K4.f 0
  have f41 := K4.f 1
  have c50 := K5.c0
  have c51 := K5.c1
  have f50 := K5.f 0
  have f51 := K5.f 1
  cases hz : tgOk l x y
  · have HZ := hid hz
    go_upto_region 2 with (go_at_call 43; refine (outside_c l x y _ _ _ _ rfl h1 ((HA.out.later hbw).mono hbw.size)).mono ?_; rw [hz]; rintro e w1 ⟨rfl, hb⟩; replace hbw := grew hbw hb; replace K3 := K3.later hb; replace K4 := K4.later hb; replace K5 := K5.later hb; replace k0 := cell_later hb k0; replace k1 := cell_later hb k1; replace c40 := K4.c0; replace c41 := K4.c1; replace f40 := K4.f 0; replace f41 := K4.f 1; replace c50 := K5.c0; replace c51 := K5.c1; replace f50 := K5.f 0; replace f51 := K5.f 1; clear hb)
    have J4 := K4.set 0 0
    have J5 := (((K5.other (B' := w.heap.size + 1) (i := 0) (by omega) (.int .i64 0)).other (B' := w.heap.size + 1) (i := 1) (by omega) (.int .i64 0))).set 0 0
    replace J4 := ((J4.other (B' := w.heap.size + 2) (i := 0) (by omega) (.int .i64 0)).other (B' := w.heap.size + 2) (i := 1) (by omega) (.int .i64 0))
    have hb1 := (hbw.setCell (p := ⟨w.heap.size + 1, 0, none⟩) (by show w.heap.size ≤ w.heap.size + 1; omega) (.int .i64 0)).setCell (p := ⟨w.heap.size + 1, 1, none⟩) (by show w.heap.size ≤ w.heap.size + 1; omega) (.int .i64 0)
    have hbz := (hb1.setCell (p := ⟨w.heap.size + 2, 0, none⟩) (by show w.heap.size ≤ w.heap.size + 2; omega) (.int .i64 0)).setCell (p := ⟨w.heap.size + 2, 1, none⟩) (by show w.heap.size ≤ w.heap.size + 2; omega) (.int .i64 0)
    have g50 := (((K5.other (B' := w.heap.size + 1) (i := 0) (by omega) (.int .i64 0)).other (B' := w.heap.size + 1) (i := 1) (by omega) (.int .i64 0))).c0
    have g51 := (((K5.other (B' := w.heap.size + 1) (i := 0) (by omega) (.int .i64 0)).other (B' := w.heap.size + 1) (i := 1) (by omega) (.int .i64 0))).c1
    have h50 := (((K5.other (B' := w.heap.size + 1) (i := 0) (by omega) (.int .i64 0)).other (B' := w.heap.size + 1) (i := 1) (by omega) (.int .i64 0))).f 0
    have h51 := (((K5.other (B' := w.heap.size + 1) (i := 0) (by omega) (.int .i64 0)).other (B' := w.heap.size + 1) (i := 1) (by omega) (.int .i64 0))).f 1
    go_wp2
    have r0 := J4.c0
    have r1 := J4.c1
    have r2 := J5.c0
    have r3 := J5.c1
    clear g50 g51 h50 h51 J4 J5 hb1
    generalize (((w1.setCell ⟨w.heap.size + 1, 0, none⟩ (.int .i64 0)).setCell ⟨w.heap.size + 1, 1, none⟩ (.int .i64 0)).setCell ⟨w.heap.size + 2, 0, none⟩ (.int .i64 0)).setCell ⟨w.heap.size + 2, 1, none⟩ (.int .i64 0) = wz at r0 r1 r2 r3 hbz ⊢
    refine bodyPost_ret (v := .tuple #[.agg #[.int .i64 0, .int .i64 0], .agg #[.int .i64 0, .int .i64 0], .bool false]) (by simp [results, Tryd.results19, go_sem, r0, r1, r2, r3]) rfl ?_
    exact ⟨ret_ppb (p := (0, 0)) (r := (0, 0)) (by unfold tgA; rw [HZ.out]; rfl) (by unfold tgA; rw [HZ.out]; rfl) (by first | rfl | rw [HZ.out]), hbz⟩
  · have HZ := hid hz
    obtain ⟨hgh, hne, hl0, hgp, hwh⟩ := tgOk_parts hz
    obtain ⟨⟨ex0, ey0⟩, hE0⟩ : ∃ e, (frOf (frB l (x, y) (-1)) (farB (x, y)) l).1 = e := ⟨_, rfl⟩
    obtain ⟨⟨ex1, ey1⟩, hE1⟩ : ∃ e, (frOf (frB l (x, y) 1) (farB (x, y)) l).1 = e := ⟨_, rfl⟩
    have HE0 := hid (show tgA l x y (-1) = (ex0, ey0) by unfold tgA; rw [HZ.out, if_pos rfl]; exact hE0)
    have HE1 := hid (show tgA l x y 1 = (ex1, ey1) by unfold tgA; rw [HZ.out, if_pos rfl]; exact hE1)
    clear hgh hgp hwh hne
    go_upto_region 3 with (go_at_call 43; refine (outside_c l x y _ _ _ _ rfl h1 ((HA.out.later hbw).mono hbw.size)).mono ?_; rw [hz]; rintro e w1 ⟨rfl, hb⟩; replace hbw := grew hbw hb; replace K3 := K3.later hb; replace K4 := K4.later hb; replace K5 := K5.later hb; replace k0 := cell_later hb k0; replace k1 := cell_later hb k1; replace c40 := K4.c0; replace c41 := K4.c1; replace f40 := K4.f 0; replace f41 := K4.f 1; replace c50 := K5.c0; replace c51 := K5.c1; replace f50 := K5.f 0; replace f51 := K5.f 1; clear hb)
    refine wp_region_held_drew (S := (fun u => u.cell? ⟨w.heap.size, 0, none⟩ = some (.int .i64 x) ∧ u.cell? ⟨w.heap.size, 1, none⟩ = some (.int .i64 y) ∧ Below w.heap.size w u)) (by kernel_rfl) ?_ (fun hHeld => ?_)
    · exact ⟨cell_later (Below.refl _ _).drew k0, cell_later (Below.refl _ _).drew k1, grew hbw (Below.refl _ _).drew⟩
    clear f40 f41 c40 c41 f50 f51 c50 c51 k0 k1
    replace hbw := grew hbw (Below.refl _ _).drew
    replace K4 := K4.later (Below.refl _ _).drew
    replace K5 := K5.later (Below.refl _ _).drew
    generalize w1.drew = wd at hHeld hbw K4 K5 ⊢
    refine wpAnyH_take (i := 0) (oi := { dst := some 13, op := Op.move (Operand.tmp 0), type := 29, pos := "l5_far.go:65", after := #[], guard := none }) (v := ?v1x0) rfl (by kernel_rfl) (by kernel_rfl) (by kernel_rfl) (fun _ _ _ h => h) (Or.inl ⟨by rfl, ?hy1x0⟩) (by with_reducible assumption) ?rest1x0
    case hy1x0 => (intro w hSw; (try dsimp only at hSw); go_simp; try with_reducible rfl)
    case' rest1x0 => (try simp only [Act.put, List.setIfInBounds_toArray, List.set_cons_zero, List.set_cons_succ])
    refine wpAnyH_take (i := 1) (oi := { dst := some 14, op := Op.load 26 (Operand.tmp 3), type := 26, pos := "l5_far.go:65", after := #[], guard := none }) (v := ?v1x1) rfl (by kernel_rfl) (by kernel_rfl) (by kernel_rfl) (fun _ _ _ h => h) (Or.inl ⟨by rfl, ?hy1x1⟩) (by with_reducible assumption) ?rest1x1
    case hy1x1 => (intro w hSw; (try dsimp only at hSw); go_simp; try with_reducible rfl)
    case' rest1x1 => (try simp only [Act.put, List.setIfInBounds_toArray, List.set_cons_zero, List.set_cons_succ])
    refine wpAnyH_take (i := 3) (oi := { dst := some 16, op := Op.move (Operand.tmp 0), type := 29, pos := "l5_far.go:65", after := #[], guard := none }) (v := ?v1x3) rfl (by kernel_rfl) (by kernel_rfl) (by kernel_rfl) (fun _ _ _ h => h) (Or.inl ⟨by rfl, ?hy1x3⟩) (by with_reducible assumption) ?rest1x3
    case hy1x3 => (intro w hSw; (try dsimp only at hSw); go_simp; try with_reducible rfl)
    case' rest1x3 => (try simp only [Act.put, List.setIfInBounds_toArray, List.set_cons_zero, List.set_cons_succ])
    refine wpAnyH_take (i := 4) (oi := { dst := some 17, op := Op.load 26 (Operand.tmp 3), type := 26, pos := "l5_far.go:65", after := #[], guard := none }) (v := ?v1x4) rfl (by kernel_rfl) (by kernel_rfl) (by kernel_rfl) (fun _ _ _ h => h) (Or.inl ⟨by rfl, ?hy1x4⟩) (by with_reducible assumption) ?rest1x4
    case hy1x4 => (intro w hSw; (try dsimp only at hSw); go_simp; try with_reducible rfl)
    case' rest1x4 => (try simp only [Act.put, List.setIfInBounds_toArray, List.set_cons_zero, List.set_cons_succ])
    refine wpAnyH_ready (rs := [2]) (by kernel_rfl) (by simp) ?_
    refine AllReadyH.cons (o := { dst := some 15, op := Op.call { callee := Callee.value (Operand.func 44), args := #[Operand.tmp 13, Operand.tmp 14, Operand.const (Value.int IntKind.i64 (-1))], argTypes := #[29, 26, 3] }, type := 26, pos := "l5_far.go:65", after := #[{ on := 0, ground := Ground.data }, { on := 1, ground := Ground.data }], guard := none }) rfl (fun K hK => ?_) AllReadyH.nil
    go_simp
    refine (tangent_c l x y (-1) _ _ _ _ rfl h1 hl0 ((HA.out.later hbw).mono hbw.size)).mono ?_
    rw [hE0]
    rintro e w3 ⟨rfl, hb3⟩
    go_wp2_with fail
    refine hK.out _ _ ?_ (fun hHeld => ?_)
    · exact keep2 hb3 (by with_reducible assumption)
    clear hK K
    try simp only [Act.put, List.setIfInBounds_toArray, List.set_cons_zero, List.set_cons_succ]
    replace hbw := grew hbw hb3
    replace K4 := K4.later hb3
    replace K5 := K5.later hb3
    refine wpAnyH_ready (rs := [5]) (by kernel_rfl) (by simp) ?_
    refine AllReadyH.cons (o := { dst := some 18, op := Op.call { callee := Callee.value (Operand.func 44), args := #[Operand.tmp 16, Operand.tmp 17, Operand.const (Value.int IntKind.i64 1)], argTypes := #[29, 26, 3] }, type := 26, pos := "l5_far.go:65", after := #[{ on := 3, ground := Ground.data }, { on := 4, ground := Ground.data }, { on := 2, ground := Ground.chain }], guard := none }) rfl (fun K hK => ?_) AllReadyH.nil
    go_simp
    refine (tangent_c l x y (1) _ _ _ _ rfl h1 hl0 ((HA.out.later hbw).mono hbw.size)).mono ?_
    rw [hE1]
    rintro e w5 ⟨rfl, hb5⟩
    go_wp2_with fail
    refine hK.out _ _ ?_ (fun hHeld => ?_)
    · exact keep2 hb5 (by with_reducible assumption)
    clear hK K
    try simp only [Act.put, List.setIfInBounds_toArray, List.set_cons_zero, List.set_cons_succ]
    replace hbw := grew hbw hb5
    replace K4 := K4.later hb5
    replace K5 := K5.later hb5
    have f40 := K4.f 0
    have f41 := K4.f 1
    have c40 := K4.c0
    have c41 := K4.c1
    refine wpAnyH_ready (rs := [6]) (by kernel_rfl) (by simp) ?_
    refine AllReadyH.cons (o := { dst := none, op := Op.store 26 (Operand.tmp 4) (Operand.tmp 15), type := 0, pos := "l5_far.go:65", after := #[{ on := 2, ground := Ground.data }, { on := 5, ground := Ground.chain }, { on := 0, ground := Ground.phase }, { on := 1, ground := Ground.phase }, { on := 2, ground := Ground.phase }, { on := 3, ground := Ground.textOnly Departure.lateStores }, { on := 4, ground := Ground.textOnly Departure.lateStores }, { on := 5, ground := Ground.textOnly Departure.lateStoresUnsure }], guard := none }) rfl (fun K hK => ?_) AllReadyH.nil
    go_simp
    refine hK.out _ _ ?_ (fun hHeld => ?_)
    · exact keepSt (B := w.heap.size + 1) hHeld (by omega) _ _
    clear hK K
    try simp only [Act.put, List.setIfInBounds_toArray, List.set_cons_zero, List.set_cons_succ]
    replace K4 := K4.set ex0 ey0
    replace K5 := ((K5.other (B' := w.heap.size + 1) (i := 0) (by omega) (.int .i64 ex0)).other (B' := w.heap.size + 1) (i := 1) (by omega) (.int .i64 ey0))
    generalize (w5.setCell ⟨w.heap.size + 1, 0, none⟩ (.int .i64 ex0)).setCell ⟨w.heap.size + 1, 1, none⟩ (.int .i64 ey0) = wS0 at hHeld K4 K5 ⊢
    have f50 := K5.f 0
    have f51 := K5.f 1
    have c50 := K5.c0
    have c51 := K5.c1
    refine wpAnyH_ready (rs := [7]) (by kernel_rfl) (by simp) ?_
    refine AllReadyH.cons (o := { dst := none, op := Op.store 26 (Operand.tmp 5) (Operand.tmp 18), type := 0, pos := "l5_far.go:65", after := #[{ on := 5, ground := Ground.data }, { on := 6, ground := Ground.chain }, { on := 0, ground := Ground.phase }, { on := 1, ground := Ground.phase }, { on := 2, ground := Ground.phase }, { on := 3, ground := Ground.phase }, { on := 4, ground := Ground.phase }, { on := 5, ground := Ground.phase }, { on := 6, ground := Ground.phase }], guard := none }) rfl (fun K hK => ?_) AllReadyH.nil
    go_simp
    refine hK.out _ _ ?_ (fun hHeld => ?_)
    · exact keepSt (B := w.heap.size + 2) hHeld (by omega) _ _
    clear hK K
    try simp only [Act.put, List.setIfInBounds_toArray, List.set_cons_zero, List.set_cons_succ]
    replace K5 := K5.set ex1 ey1
    replace K4 := ((K4.other (B' := w.heap.size + 2) (i := 0) (by omega) (.int .i64 ex1)).other (B' := w.heap.size + 2) (i := 1) (by omega) (.int .i64 ey1))
    generalize (wS0.setCell ⟨w.heap.size + 2, 0, none⟩ (.int .i64 ex1)).setCell ⟨w.heap.size + 2, 1, none⟩ (.int .i64 ey1) = wS1 at hHeld K5 K4 ⊢
    have f50 := K5.f 0
    have f51 := K5.f 1
    have c50 := K5.c0
    have c51 := K5.c1
    refine wpAnyH_take (i := 8) (oi := { dst := some 6, op := Op.assign (Operand.const (Value.bool true)), type := 4, pos := "l5_far.go:65", after := #[{ on := 7, ground := Ground.chain }, { on := 0, ground := Ground.phase }, { on := 1, ground := Ground.phase }, { on := 2, ground := Ground.phase }, { on := 3, ground := Ground.phase }, { on := 4, ground := Ground.phase }, { on := 5, ground := Ground.phase }, { on := 6, ground := Ground.phase }, { on := 7, ground := Ground.phase }], guard := none }) (v := ?v1x8) rfl (by kernel_rfl) (by kernel_rfl) (by kernel_rfl) (fun _ _ _ h => h) (Or.inl ⟨by rfl, ?hy1x8⟩) (by with_reducible assumption) ?rest1x8
    case hy1x8 => (intro w hSw; (try dsimp only at hSw); go_simp; try with_reducible rfl)
    case' rest1x8 => (try simp only [Act.put, List.setIfInBounds_toArray, List.set_cons_zero, List.set_cons_succ])
    refine wpAnyH_done (by kernel_rfl) ?_ _
    go_wp2
    have r0 := K4.c0
    have r1 := K4.c1
    have r2 := K5.c0
    have r3 := K5.c1
    refine bodyPost_ret (v := .tuple #[.agg #[.int .i64 ex0, .int .i64 ey0], .agg #[.int .i64 ex1, .int .i64 ey1], .bool true]) (by simp [results, Tryd.results19, go_sem, r0, r1, r2, r3]) rfl ?_
    exact ⟨ret_ppb (p := (ex0, ey0)) (r := (ex1, ey1)) HE0.out.symm HE1.out.symm (by first | rfl | rw [HZ.out]), hHeld.2.2⟩
set_option maxHeartbeats 8000000 in
theorem tangentsImpl_c (l : List (Int × Int)) (x y : Int) (a : Option Addr) (len cap : Nat) (w : World) (hl : l.length = len) (h1 : len ≤ 1048576) (hA : At w.heap.size a l w) (c0 : w.cell? ⟨0, 0, none⟩ = some (.int .i64 1000000)) :
    Calls Tryd.prog 20 #[.slice a len cap, .agg #[.int .i64 x, .int .i64 y]] w fun e w' => e = .returned (.tuple #[.agg #[.int .i64 (tgA l x y (-1)).1, .int .i64 (tgA l x y (-1)).2], .agg #[.int .i64 (tgA l x y 1).1, .int .i64 (tgA l x y 1).2], .bool (tgOk l x y)]) ∧ Below w.heap.size w w' := by
  subst hl
  have HA := hid hA
  have C0 := hid c0
  clear hA c0
  have hbw : Below w.heap.size w (((w.alloc (.cells #[.int .i64 x, .int .i64 y] 26)).alloc (.cells #[.int .i64 0, .int .i64 0] 26)).alloc (.cells #[.int .i64 0, .int .i64 0] 26)) := by go_grown
  have K3 := BoxP.later (BoxP.later (BoxP.new w x y) ((Below.refl _ _).alloc (Nat.le_refl _) (.cells #[.int .i64 0, .int .i64 0] 26))) ((Below.refl _ _).alloc (Nat.le_refl _) (.cells #[.int .i64 0, .int .i64 0] 26))
  have K4 := BoxP.later (BoxP.new (w.alloc (.cells #[.int .i64 x, .int .i64 y] 26)) 0 0) ((Below.refl _ _).alloc (Nat.le_refl _) (.cells #[.int .i64 0, .int .i64 0] 26))
  have K5 := BoxP.new ((w.alloc (.cells #[.int .i64 x, .int .i64 y] 26)).alloc (.cells #[.int .i64 0, .int .i64 0] 26)) 0 0
  simp only [World.size_alloc] at K4 K5
  go_enter Tryd.func20, Tryd.ntmps20
  go_upto_region 1 with fail
  generalize (((w.alloc (.cells #[.int .i64 x, .int .i64 y] 26)).alloc (.cells #[.int .i64 0, .int .i64 0] 26)).alloc (.cells #[.int .i64 0, .int .i64 0] 26)) = w0 at hbw K3 K4 K5 ⊢
  have k0 := K3.c0
  have k1 := K3.c1
  have c40 := K4.c0
  have c41 := K4.c1
  have f40 := K4.f 0
  have f41 := K4.f 1
  have c50 := K5.c0
  have c51 := K5.c1
  have f50 := K5.f 0
  have f51 := K5.f 1
  cases hz : tgOk l x y
  · have HZ := hid hz
    go_upto_region 2 with (go_at_call 45; refine (seenFrom_c l x y _ _ _ _ rfl h1 ((HA.out.later hbw).mono hbw.size) (cell_later hbw C0.out)).mono ?_; rw [hz]; rintro e w1 ⟨rfl, hb⟩; replace hbw := grew hbw hb; replace K3 := K3.later hb; replace K4 := K4.later hb; replace K5 := K5.later hb; replace k0 := cell_later hb k0; replace k1 := cell_later hb k1; replace c40 := K4.c0; replace c41 := K4.c1; replace f40 := K4.f 0; replace f41 := K4.f 1; replace c50 := K5.c0; replace c51 := K5.c1; replace f50 := K5.f 0; replace f51 := K5.f 1; clear hb)
    have J4 := K4.set 0 0
    have J5 := (((K5.other (B' := w.heap.size + 1) (i := 0) (by omega) (.int .i64 0)).other (B' := w.heap.size + 1) (i := 1) (by omega) (.int .i64 0))).set 0 0
    replace J4 := ((J4.other (B' := w.heap.size + 2) (i := 0) (by omega) (.int .i64 0)).other (B' := w.heap.size + 2) (i := 1) (by omega) (.int .i64 0))
    have hb1 := (hbw.setCell (p := ⟨w.heap.size + 1, 0, none⟩) (by show w.heap.size ≤ w.heap.size + 1; omega) (.int .i64 0)).setCell (p := ⟨w.heap.size + 1, 1, none⟩) (by show w.heap.size ≤ w.heap.size + 1; omega) (.int .i64 0)
    have hbz := (hb1.setCell (p := ⟨w.heap.size + 2, 0, none⟩) (by show w.heap.size ≤ w.heap.size + 2; omega) (.int .i64 0)).setCell (p := ⟨w.heap.size + 2, 1, none⟩) (by show w.heap.size ≤ w.heap.size + 2; omega) (.int .i64 0)
    have g50 := (((K5.other (B' := w.heap.size + 1) (i := 0) (by omega) (.int .i64 0)).other (B' := w.heap.size + 1) (i := 1) (by omega) (.int .i64 0))).c0
    have g51 := (((K5.other (B' := w.heap.size + 1) (i := 0) (by omega) (.int .i64 0)).other (B' := w.heap.size + 1) (i := 1) (by omega) (.int .i64 0))).c1
    have h50 := (((K5.other (B' := w.heap.size + 1) (i := 0) (by omega) (.int .i64 0)).other (B' := w.heap.size + 1) (i := 1) (by omega) (.int .i64 0))).f 0
    have h51 := (((K5.other (B' := w.heap.size + 1) (i := 0) (by omega) (.int .i64 0)).other (B' := w.heap.size + 1) (i := 1) (by omega) (.int .i64 0))).f 1
    go_wp2
    have r0 := J4.c0
    have r1 := J4.c1
    have r2 := J5.c0
    have r3 := J5.c1
    clear g50 g51 h50 h51 J4 J5 hb1
    generalize (((w1.setCell ⟨w.heap.size + 1, 0, none⟩ (.int .i64 0)).setCell ⟨w.heap.size + 1, 1, none⟩ (.int .i64 0)).setCell ⟨w.heap.size + 2, 0, none⟩ (.int .i64 0)).setCell ⟨w.heap.size + 2, 1, none⟩ (.int .i64 0) = wz at r0 r1 r2 r3 hbz ⊢
    refine bodyPost_ret (v := .tuple #[.agg #[.int .i64 0, .int .i64 0], .agg #[.int .i64 0, .int .i64 0], .bool false]) (by simp [results, Tryd.results20, go_sem, r0, r1, r2, r3]) rfl ?_
    exact ⟨ret_ppb (p := (0, 0)) (r := (0, 0)) (by unfold tgA; rw [HZ.out]; rfl) (by unfold tgA; rw [HZ.out]; rfl) (by first | rfl | rw [HZ.out]), hbz⟩
  · have HZ := hid hz
    obtain ⟨hgh, hne, hl0, hgp, hwh⟩ := tgOk_parts hz
    obtain ⟨⟨ex0, ey0⟩, hE0⟩ : ∃ e, farOf (tsB (x, y) (-1)) l = e := ⟨_, rfl⟩
    obtain ⟨⟨ex1, ey1⟩, hE1⟩ : ∃ e, farOf (tsB (x, y) 1) l = e := ⟨_, rfl⟩
    have HE0 := hid (show tgA l x y (-1) = (ex0, ey0) by unfold tgA; rw [HZ.out, if_pos rfl, ← (tgR (q := (x, y)) hgh hgp hne hwh).1]; exact hE0)
    have HE1 := hid (show tgA l x y 1 = (ex1, ey1) by unfold tgA; rw [HZ.out, if_pos rfl, ← (tgL (q := (x, y)) hgh hgp hne hwh).1]; exact hE1)
    clear hgh hgp hwh hne
    go_upto_region 3 with (go_at_call 45; refine (seenFrom_c l x y _ _ _ _ rfl h1 ((HA.out.later hbw).mono hbw.size) (cell_later hbw C0.out)).mono ?_; rw [hz]; rintro e w1 ⟨rfl, hb⟩; replace hbw := grew hbw hb; replace K3 := K3.later hb; replace K4 := K4.later hb; replace K5 := K5.later hb; replace k0 := cell_later hb k0; replace k1 := cell_later hb k1; replace c40 := K4.c0; replace c41 := K4.c1; replace f40 := K4.f 0; replace f41 := K4.f 1; replace c50 := K5.c0; replace c51 := K5.c1; replace f50 := K5.f 0; replace f51 := K5.f 1; clear hb)
    refine wp_region_held_drew (S := (fun u => u.cell? ⟨w.heap.size, 0, none⟩ = some (.int .i64 x) ∧ u.cell? ⟨w.heap.size, 1, none⟩ = some (.int .i64 y) ∧ Below w.heap.size w u)) (by kernel_rfl) ?_ (fun hHeld => ?_)
    · exact ⟨cell_later (Below.refl _ _).drew k0, cell_later (Below.refl _ _).drew k1, grew hbw (Below.refl _ _).drew⟩
    clear f40 f41 c40 c41 f50 f51 c50 c51 k0 k1
    replace hbw := grew hbw (Below.refl _ _).drew
    replace K4 := K4.later (Below.refl _ _).drew
    replace K5 := K5.later (Below.refl _ _).drew
    generalize w1.drew = wd at hHeld hbw K4 K5 ⊢
    refine wpAnyH_take (i := 0) (oi := { dst := some 13, op := Op.load 26 (Operand.tmp 3), type := 26, pos := "l5_far.go:34", after := #[], guard := none }) (v := ?v2x0) rfl (by kernel_rfl) (by kernel_rfl) (by kernel_rfl) (fun _ _ _ h => h) (Or.inl ⟨by rfl, ?hy2x0⟩) (by with_reducible assumption) ?rest2x0
    case hy2x0 => (intro w hSw; (try dsimp only at hSw); go_simp; try with_reducible rfl)
    case' rest2x0 => (try simp only [Act.put, List.setIfInBounds_toArray, List.set_cons_zero, List.set_cons_succ])
    refine wpAnyH_take (i := 2) (oi := { dst := some 15, op := Op.move (Operand.tmp 0), type := 29, pos := "l5_far.go:34", after := #[], guard := none }) (v := ?v2x2) rfl (by kernel_rfl) (by kernel_rfl) (by kernel_rfl) (fun _ _ _ h => h) (Or.inl ⟨by rfl, ?hy2x2⟩) (by with_reducible assumption) ?rest2x2
    case hy2x2 => (intro w hSw; (try dsimp only at hSw); go_simp; try with_reducible rfl)
    case' rest2x2 => (try simp only [Act.put, List.setIfInBounds_toArray, List.set_cons_zero, List.set_cons_succ])
    refine wpAnyH_take (i := 4) (oi := { dst := some 17, op := Op.load 26 (Operand.tmp 3), type := 26, pos := "l5_far.go:34", after := #[], guard := none }) (v := ?v2x4) rfl (by kernel_rfl) (by kernel_rfl) (by kernel_rfl) (fun _ _ _ h => h) (Or.inl ⟨by rfl, ?hy2x4⟩) (by with_reducible assumption) ?rest2x4
    case hy2x4 => (intro w hSw; (try dsimp only at hSw); go_simp; try with_reducible rfl)
    case' rest2x4 => (try simp only [Act.put, List.setIfInBounds_toArray, List.set_cons_zero, List.set_cons_succ])
    refine wpAnyH_take (i := 6) (oi := { dst := some 19, op := Op.move (Operand.tmp 0), type := 29, pos := "l5_far.go:34", after := #[], guard := none }) (v := ?v2x6) rfl (by kernel_rfl) (by kernel_rfl) (by kernel_rfl) (fun _ _ _ h => h) (Or.inl ⟨by rfl, ?hy2x6⟩) (by with_reducible assumption) ?rest2x6
    case hy2x6 => (intro w hSw; (try dsimp only at hSw); go_simp; try with_reducible rfl)
    case' rest2x6 => (try simp only [Act.put, List.setIfInBounds_toArray, List.set_cons_zero, List.set_cons_succ])
    refine wpAnyH_ready (rs := [1]) (by kernel_rfl) (by simp) ?_
    refine AllReadyH.cons (o := { dst := some 14, op := Op.call { callee := Callee.value (Operand.func 46), args := #[Operand.tmp 13, Operand.const (Value.int IntKind.i64 (-1))], argTypes := #[26, 3] }, type := 59, pos := "l5_far.go:34", after := #[{ on := 0, ground := Ground.data }], guard := none }) rfl (fun K hK => ?_) AllReadyH.nil
    go_simp
    refine (toSide_c _ _ _ _).mono ?_
    rintro e w2 ⟨B1, V1, rfl, KB, KV, _, _, hb2⟩
    go_wp2_with fail
    refine hK.out _ _ ?_ (fun hHeld => ?_)
    · exact keep2 hb2 (by with_reducible assumption)
    clear hK K
    try simp only [Act.put, List.setIfInBounds_toArray, List.set_cons_zero, List.set_cons_succ]
    replace hbw := grew hbw hb2
    replace K4 := K4.later hb2
    replace K5 := K5.later hb2
    refine wpAnyH_ready (rs := [3]) (by kernel_rfl) (by simp) ?_
    refine AllReadyH.cons (o := { dst := some 16, op := Op.call { callee := Callee.value (Operand.func 41), args := #[Operand.tmp 14, Operand.tmp 15], argTypes := #[59, 29] }, type := 26, pos := "l5_far.go:34", after := #[{ on := 1, ground := Ground.data }, { on := 2, ground := Ground.data }, { on := 1, ground := Ground.chain }], guard := none }) rfl (fun K hK => ?_) AllReadyH.nil
    go_simp
    refine (farSide_c l x y _ _ _ _ rfl h1 hl0 ((HA.out.later hbw).mono hbw.size) (cell_later hbw C0.out) (-1) B1 V1 (.inr rfl) KB KV).mono ?_
    rw [hE0]
    rintro e w3 ⟨rfl, hb3⟩
    go_wp2_with fail
    refine hK.out _ _ ?_ (fun hHeld => ?_)
    · exact keep2 hb3 (by with_reducible assumption)
    clear hK K
    try simp only [Act.put, List.setIfInBounds_toArray, List.set_cons_zero, List.set_cons_succ]
    replace hbw := grew hbw hb3
    replace K4 := K4.later hb3
    replace K5 := K5.later hb3
    clear KB KV
    refine wpAnyH_ready (rs := [5]) (by kernel_rfl) (by simp) ?_
    refine AllReadyH.cons (o := { dst := some 18, op := Op.call { callee := Callee.value (Operand.func 46), args := #[Operand.tmp 17, Operand.const (Value.int IntKind.i64 1)], argTypes := #[26, 3] }, type := 59, pos := "l5_far.go:34", after := #[{ on := 4, ground := Ground.data }, { on := 3, ground := Ground.chain }], guard := none }) rfl (fun K hK => ?_) AllReadyH.nil
    go_simp
    refine (toSide_c _ _ _ _).mono ?_
    rintro e w4 ⟨B2, V2, rfl, KB, KV, _, _, hb4⟩
    go_wp2_with fail
    refine hK.out _ _ ?_ (fun hHeld => ?_)
    · exact keep2 hb4 (by with_reducible assumption)
    clear hK K
    try simp only [Act.put, List.setIfInBounds_toArray, List.set_cons_zero, List.set_cons_succ]
    replace hbw := grew hbw hb4
    replace K4 := K4.later hb4
    replace K5 := K5.later hb4
    refine wpAnyH_ready (rs := [7]) (by kernel_rfl) (by simp) ?_
    refine AllReadyH.cons (o := { dst := some 20, op := Op.call { callee := Callee.value (Operand.func 41), args := #[Operand.tmp 18, Operand.tmp 19], argTypes := #[59, 29] }, type := 26, pos := "l5_far.go:34", after := #[{ on := 5, ground := Ground.data }, { on := 6, ground := Ground.data }, { on := 5, ground := Ground.chain }], guard := none }) rfl (fun K hK => ?_) AllReadyH.nil
    go_simp
    refine (farSide_c l x y _ _ _ _ rfl h1 hl0 ((HA.out.later hbw).mono hbw.size) (cell_later hbw C0.out) (1) B2 V2 (.inl rfl) KB KV).mono ?_
    rw [hE1]
    rintro e w5 ⟨rfl, hb5⟩
    go_wp2_with fail
    refine hK.out _ _ ?_ (fun hHeld => ?_)
    · exact keep2 hb5 (by with_reducible assumption)
    clear hK K
    try simp only [Act.put, List.setIfInBounds_toArray, List.set_cons_zero, List.set_cons_succ]
    replace hbw := grew hbw hb5
    replace K4 := K4.later hb5
    replace K5 := K5.later hb5
    have f40 := K4.f 0
    have f41 := K4.f 1
    have c40 := K4.c0
    have c41 := K4.c1
    refine wpAnyH_ready (rs := [8]) (by kernel_rfl) (by simp) ?_
    refine AllReadyH.cons (o := { dst := none, op := Op.store 26 (Operand.tmp 4) (Operand.tmp 16), type := 0, pos := "l5_far.go:34", after := #[{ on := 3, ground := Ground.data }, { on := 7, ground := Ground.chain }, { on := 0, ground := Ground.phase }, { on := 1, ground := Ground.phase }, { on := 2, ground := Ground.phase }, { on := 3, ground := Ground.phase }, { on := 4, ground := Ground.textOnly Departure.lateStores }, { on := 5, ground := Ground.textOnly Departure.lateStoresUnsure }, { on := 6, ground := Ground.textOnly Departure.lateStores }, { on := 7, ground := Ground.textOnly Departure.lateStoresUnsure }], guard := none }) rfl (fun K hK => ?_) AllReadyH.nil
    go_simp
    refine hK.out _ _ ?_ (fun hHeld => ?_)
    · exact keepSt (B := w.heap.size + 1) hHeld (by omega) _ _
    clear hK K
    try simp only [Act.put, List.setIfInBounds_toArray, List.set_cons_zero, List.set_cons_succ]
    replace K4 := K4.set ex0 ey0
    replace K5 := ((K5.other (B' := w.heap.size + 1) (i := 0) (by omega) (.int .i64 ex0)).other (B' := w.heap.size + 1) (i := 1) (by omega) (.int .i64 ey0))
    generalize (w5.setCell ⟨w.heap.size + 1, 0, none⟩ (.int .i64 ex0)).setCell ⟨w.heap.size + 1, 1, none⟩ (.int .i64 ey0) = wS0 at hHeld K4 K5 ⊢
    have f50 := K5.f 0
    have f51 := K5.f 1
    have c50 := K5.c0
    have c51 := K5.c1
    refine wpAnyH_ready (rs := [9]) (by kernel_rfl) (by simp) ?_
    refine AllReadyH.cons (o := { dst := none, op := Op.store 26 (Operand.tmp 5) (Operand.tmp 20), type := 0, pos := "l5_far.go:34", after := #[{ on := 7, ground := Ground.data }, { on := 8, ground := Ground.chain }, { on := 0, ground := Ground.phase }, { on := 1, ground := Ground.phase }, { on := 2, ground := Ground.phase }, { on := 3, ground := Ground.phase }, { on := 4, ground := Ground.phase }, { on := 5, ground := Ground.phase }, { on := 6, ground := Ground.phase }, { on := 7, ground := Ground.phase }, { on := 8, ground := Ground.phase }], guard := none }) rfl (fun K hK => ?_) AllReadyH.nil
    go_simp
    refine hK.out _ _ ?_ (fun hHeld => ?_)
    · exact keepSt (B := w.heap.size + 2) hHeld (by omega) _ _
    clear hK K
    try simp only [Act.put, List.setIfInBounds_toArray, List.set_cons_zero, List.set_cons_succ]
    replace K5 := K5.set ex1 ey1
    replace K4 := ((K4.other (B' := w.heap.size + 2) (i := 0) (by omega) (.int .i64 ex1)).other (B' := w.heap.size + 2) (i := 1) (by omega) (.int .i64 ey1))
    generalize (wS0.setCell ⟨w.heap.size + 2, 0, none⟩ (.int .i64 ex1)).setCell ⟨w.heap.size + 2, 1, none⟩ (.int .i64 ey1) = wS1 at hHeld K5 K4 ⊢
    have f50 := K5.f 0
    have f51 := K5.f 1
    have c50 := K5.c0
    have c51 := K5.c1
    refine wpAnyH_take (i := 10) (oi := { dst := some 6, op := Op.assign (Operand.const (Value.bool true)), type := 4, pos := "l5_far.go:34", after := #[{ on := 9, ground := Ground.chain }, { on := 0, ground := Ground.phase }, { on := 1, ground := Ground.phase }, { on := 2, ground := Ground.phase }, { on := 3, ground := Ground.phase }, { on := 4, ground := Ground.phase }, { on := 5, ground := Ground.phase }, { on := 6, ground := Ground.phase }, { on := 7, ground := Ground.phase }, { on := 8, ground := Ground.phase }, { on := 9, ground := Ground.phase }], guard := none }) (v := ?v2x10) rfl (by kernel_rfl) (by kernel_rfl) (by kernel_rfl) (fun _ _ _ h => h) (Or.inl ⟨by rfl, ?hy2x10⟩) (by with_reducible assumption) ?rest2x10
    case hy2x10 => (intro w hSw; (try dsimp only at hSw); go_simp; try with_reducible rfl)
    case' rest2x10 => (try simp only [Act.put, List.setIfInBounds_toArray, List.set_cons_zero, List.set_cons_succ])
    refine wpAnyH_done (by kernel_rfl) ?_ _
    go_wp2
    have r0 := K4.c0
    have r1 := K4.c1
    have r2 := K5.c0
    have r3 := K5.c1
    refine bodyPost_ret (v := .tuple #[.agg #[.int .i64 ex0, .int .i64 ey0], .agg #[.int .i64 ex1, .int .i64 ey1], .bool true]) (by simp [results, Tryd.results20, go_sem, r0, r1, r2, r3]) rfl ?_
    exact ⟨ret_ppb (p := (ex0, ey0)) (r := (ex1, ey1)) HE0.out.symm HE1.out.symm (by first | rfl | rw [HZ.out]), hHeld.2.2⟩
end Go.Proofs.YtegmlemejmahiaaDoor
