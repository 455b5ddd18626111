/-
  The points counted one by one: the program's function and the specification's (contracts for the walks).
  Conditions: as each theorem states them.
-/
import Derived.Test.YtohcllojjmhbcaaDoorAr8C
namespace Go.Proofs.YtohcllojjmhbcaaDoor
open Go.RowKit Go.Shelf
set_option linter.unusedVariables false
set_option maxRecDepth 8000
def ciN (v : Int) (l : List (Int × Int)) : Int := if shB l = true then cntC (whS l) v 81 else 0
theorem shB_gh {l : List (Int × Int)} (h : shB l = true) : ghB l = true := by
  unfold shB at h; rw [Bool.and_eq_true] at h; exact h.2
theorem whS_val (l : List (Int × Int)) (q : Int × Int) : whS l q = 0 ∨ whS l q = 1 ∨ whS l q = 2 := by
  unfold whS; split
  · exact .inr (.inl rfl)
  · split
    · exact .inl rfl
    · split
      · exact .inr (.inr rfl)
      · exact .inl rfl
theorem cntR_yes {f : Int × Int → Int} {v x : Int} {k : Nat} (e : f (x, (k : Int) - 40) = v) : cntR f v x (k + 1) = cntR f v x k + 1 := by
  show cntR f v x k + (if f (x, (k : Int) - 40) = v then 1 else 0) = _
  rw [if_pos e]
theorem cntR_no {f : Int × Int → Int} {v x : Int} {k : Nat} (e : ¬ f (x, (k : Int) - 40) = v) : cntR f v x (k + 1) = cntR f v x k := by
  show cntR f v x k + (if f (x, (k : Int) - 40) = v then 1 else 0) = _
  rw [if_neg e, Int.add_zero]
theorem ret_iib {a b c d : Int} {x y : Bool} (h : a = b) (k : c = d) (e : x = y) : Ending.returned (.tuple #[.int .i64 a, .int .i64 c, .bool x]) = .returned (.tuple #[.int .i64 b, .int .i64 d, .bool y]) := by rw [h, k, e]
set_option maxHeartbeats 8000000 in
theorem countSpec_c (l : List (Int × Int)) (a : Option Addr) (len cap : Nat) (w : World) (hl : l.length = len) (h1 : len ≤ 1048576) (hA : At w.heap.size a l w) :
    Calls Tryd.prog 35 #[.slice a len cap] w fun e w' => e = .returned (.tuple #[.int .i64 (ciN 2 l), .int .i64 (ciN 1 l), .bool (shB l)]) ∧ Below w.heap.size w w' := by
  subst hl
  have HA := hid hA
  clear hA
  cases hG : shB l
  · have E := hid hG
    go_enter Tryd.func35, Tryd.ntmps35
    go_wp2_with (go_at_call 55; refine (smallSpec_c l _ _ _ _ rfl h1 HA.out).mono ?_; rw [hG]; rintro e w1 ⟨rfl, hb1⟩)
    refine bodyPost_ret (v := .tuple #[.int .i64 0, .int .i64 0, .bool false]) (by simp [results, Tryd.results35, go_sem]) rfl ?_
    exact ⟨ret_iib (by unfold ciN; rw [E.out]; rfl) (by unfold ciN; rw [E.out]; rfl) (by first | rfl | exact E.out.symm), hb1⟩
  · have E := hid hG
    go_enter Tryd.func35, Tryd.ntmps35
    go_wp2_with (go_at_call 55; refine (smallSpec_c l _ _ _ _ rfl h1 HA.out).mono ?_; rw [hG]; rintro e w1 ⟨rfl, hb1⟩)
    go_loopw [5, 6, 7] (fun p r x wr => ∃ i : Nat, i ≤ 81 ∧ p = .int .i64 (cntC (whS l) 2 i) ∧ r = .int .i64 (cntC (whS l) 1 i) ∧ x = .int .i64 ((i : Int) - 40) ∧ Below w.heap.size w wr) (fun _ _ x _ => 81 - (intOf x + 40).toNat)
    case atStart => exact ⟨0, by omega, rfl, rfl, rfl, hb1⟩
    case round =>
      obtain ⟨i, hi, rfl, rfl, rfl, hbw⟩ := hrel
      have HB2 := cntC_small (whS l) 2 i
      have HB1 := cntC_small (whS l) 1 i
      have hp2 := hid (show cntC (whS l) 2 (i + 1) = cntC (whS l) 2 i + cntR (whS l) 2 ((i : Int) - 40) 81 from rfl)
      have hp1 := hid (show cntC (whS l) 1 (i + 1) = cntC (whS l) 1 i + cntR (whS l) 1 ((i : Int) - 40) 81 from rfl)
      by_cases hil : i < 81
      · generalize cntC (whS l) 2 i = P2 at HB2 hp2 ⊢
        generalize cntC (whS l) 1 i = P1 at HB1 hp1 ⊢
        obtain ⟨X, hX⟩ : ∃ X, (i : Int) - 40 = X := ⟨_, rfl⟩
        have hX1 : X ≤ 40 := by omega
        have HX := hid hX
        rw [hX] at hp2 hp1
        simp only [hX]
        have hwX : IntKind.i64.wrap (X + 1) = X + 1 := by rw [IntKind.wrap_i64]; omega
        clear hX hb1
        go_wp2
        generalize wr = wo at hbw ⊢
        go_loopw [5, 6, 8] (fun p r y wr => ∃ j : Nat, j ≤ 81 ∧ p = .int .i64 (P2 + cntR (whS l) 2 X j) ∧ r = .int .i64 (P1 + cntR (whS l) 1 X j) ∧ y = .int .i64 ((j : Int) - 40) ∧ Below w.heap.size w wr) (fun _ _ y _ => 81 - (intOf y + 40).toNat)
        case atStart => exact ⟨0, by omega, by simp [cntR], by simp [cntR], rfl, hbw⟩
        case round =>
          clear hbw
          obtain ⟨j, hj, rfl, rfl, rfl, hbw⟩ := hrel
          have HR2 := cntR_small (whS l) 2 X j
          have HR1 := cntR_small (whS l) 1 X j
          by_cases hjl : j < 81
          · obtain ⟨Y, hY⟩ : ∃ Y, (j : Int) - 40 = Y := ⟨_, rfl⟩
            have HW := hid (l4Where_c l X Y a l.length cap wr rfl h1 ((HA.out.later hbw).mono hbw.size))
            have hY1 : Y ≤ 40 := by omega
            have hwY : IntKind.i64.wrap (Y + 1) = Y + 1 := by rw [IntKind.wrap_i64]; omega
            have HY := hid hY
            rcases whS_val l (X, Y) with h | h | h
            · have n2 := hid (cntR_no (f := whS l) (v := 2) (x := X) (k := j) (by rw [hY, h]; decide))
              have n1 := hid (cntR_no (f := whS l) (v := 1) (x := X) (k := j) (by rw [hY, h]; decide))
              rw [h] at HW
              simp only [hY]
              generalize cntR (whS l) 2 X j = R2 at HR2 n2 ⊢
              generalize cntR (whS l) 1 X j = R1 at HR1 n1 ⊢
              clear hY h
              go_wp2_with (go_at_call 65; refine HW.out.mono ?_; rintro e w2 ⟨rfl, hb2⟩)
              go_roundw
              case rel => exact ⟨j + 1, by omega, by rw [n2.out], by rw [n1.out], congrArg (Value.int IntKind.i64) (by have := HY.out; push_cast; omega), grew hbw hb2⟩
              case measure => simp [intOf]; have := HY.out; omega
            · have n2 := hid (cntR_no (f := whS l) (v := 2) (x := X) (k := j) (by rw [hY, h]; decide))
              have n1 := hid (cntR_yes (f := whS l) (v := 1) (x := X) (k := j) (by rw [hY, h]))
              rw [h] at HW
              simp only [hY]
              generalize cntR (whS l) 2 X j = R2 at HR2 n2 ⊢
              generalize cntR (whS l) 1 X j = R1 at HR1 n1 ⊢
              have hw1 : IntKind.i64.wrap (P1 + R1 + 1) = P1 + R1 + 1 := by rw [IntKind.wrap_i64]; omega
              clear hY h
              go_wp2_with (go_at_call 65; refine HW.out.mono ?_; rintro e w2 ⟨rfl, hb2⟩)
              go_roundw
              case rel => exact ⟨j + 1, by omega, by rw [n2.out], by rw [n1.out, ← Int.add_assoc], congrArg (Value.int IntKind.i64) (by have := HY.out; push_cast; omega), grew hbw hb2⟩
              case measure => simp [intOf]; have := HY.out; omega
            · have n2 := hid (cntR_yes (f := whS l) (v := 2) (x := X) (k := j) (by rw [hY, h]))
              have n1 := hid (cntR_no (f := whS l) (v := 1) (x := X) (k := j) (by rw [hY, h]; decide))
              rw [h] at HW
              simp only [hY]
              generalize cntR (whS l) 2 X j = R2 at HR2 n2 ⊢
              generalize cntR (whS l) 1 X j = R1 at HR1 n1 ⊢
              have hw1 : IntKind.i64.wrap (P2 + R2 + 1) = P2 + R2 + 1 := by rw [IntKind.wrap_i64]; omega
              clear hY h
              go_wp2_with (go_at_call 65; refine HW.out.mono ?_; rintro e w2 ⟨rfl, hb2⟩)
              go_roundw
              case rel => exact ⟨j + 1, by omega, by rw [n2.out, ← Int.add_assoc], by rw [n1.out], congrArg (Value.int IntKind.i64) (by have := HY.out; push_cast; omega), grew hbw hb2⟩
              case measure => simp [intOf]; have := HY.out; omega
          · obtain rfl : j = 81 := by omega
            generalize cntR (whS l) 2 X 81 = R2 at hp2 ⊢
            generalize cntR (whS l) 1 X 81 = R1 at hp1 ⊢
            go_wp2
            go_roundw
            case rel => exact ⟨i + 1, by omega, by rw [hp2.out], by rw [hp1.out], congrArg (Value.int IntKind.i64) (by have := HX.out; push_cast; omega), hbw⟩
            case measure => simp [intOf]; have := HX.out; omega
      · obtain rfl : i = 81 := by omega
        have e2 := hid (show ciN 2 l = cntC (whS l) 2 81 by unfold ciN; rw [E.out, if_pos rfl])
        have e1 := hid (show ciN 1 l = cntC (whS l) 1 81 by unfold ciN; rw [E.out, if_pos rfl])
        generalize cntC (whS l) 2 81 = P2 at e2 ⊢
        generalize cntC (whS l) 1 81 = P1 at e1 ⊢
        go_wp2
        refine bodyPost_ret (v := .tuple #[.int .i64 P2, .int .i64 P1, .bool true]) (by simp [results, Tryd.results35, go_sem]) rfl ?_
        exact ⟨ret_iib e2.out.symm e1.out.symm (by first | rfl | exact E.out.symm), hbw⟩
/-- A box of three numbers. -/
def Box3 (W : World) (B : Nat) (x y z : Int) : Prop := W.heap[B]? = some (.cells #[.int .i64 x, .int .i64 y, .int .i64 z] 76 (0, 0))
theorem Box3.c0 {W : World} {B : Nat} {x y z : Int} (h : Box3 W B x y z) : W.cell? ⟨B, 0, none⟩ = some (.int .i64 x) := by simp [World.cell?, show W.heap[B]? = _ from h]
theorem Box3.c1 {W : World} {B : Nat} {x y z : Int} (h : Box3 W B x y z) : W.cell? ⟨B, 1, none⟩ = some (.int .i64 y) := by simp [World.cell?, show W.heap[B]? = _ from h]
theorem Box3.c2 {W : World} {B : Nat} {x y z : Int} (h : Box3 W B x y z) : W.cell? ⟨B, 2, none⟩ = some (.int .i64 z) := by simp [World.cell?, show W.heap[B]? = _ from h]
theorem Box3.f {W : World} {B : Nat} {x y z : Int} (h : Box3 W B x y z) (i : Nat) : W.frozen? ⟨B, i, none⟩ = false := by simp [World.frozen?, show W.heap[B]? = _ from h]
theorem Box3.lt {W : World} {B : Nat} {x y z : Int} (h : Box3 W B x y z) : B < W.heap.size := (Array.getElem?_eq_some_iff.1 h).1
theorem Box3.later {W W' : World} {B : Nat} {x y z : Int} (h : Box3 W B x y z) (hb : Below W.heap.size W W') : Box3 W' B x y z := (hb.block B h.lt).trans h
theorem Box3.new (W : World) (x y z : Int) : Box3 (W.alloc (.cells #[.int .i64 x, .int .i64 y, .int .i64 z] 76)) W.heap.size x y z := World.alloc_heap_new W _
theorem Box3.set0 {W : World} {B : Nat} {x y z : Int} (h : Box3 W B x y z) (u : Int) : Box3 (W.setCell ⟨B, 0, none⟩ (.int .i64 u)) B u y z := by
  obtain ⟨hlt, hk⟩ := Array.getElem?_eq_some_iff.1 h
  show (W.heap.modify B _)[B]? = _
  rw [Array.getElem?_eq_getElem (by rw [Array.size_modify]; exact hlt), Array.getElem_modify_self, hk]
  rfl
theorem Box3.set1 {W : World} {B : Nat} {x y z : Int} (h : Box3 W B x y z) (u : Int) : Box3 (W.setCell ⟨B, 1, none⟩ (.int .i64 u)) B x u z := by
  obtain ⟨hlt, hk⟩ := Array.getElem?_eq_some_iff.1 h
  show (W.heap.modify B _)[B]? = _
  rw [Array.getElem?_eq_getElem (by rw [Array.size_modify]; exact hlt), Array.getElem_modify_self, hk]
  rfl
theorem Box3.set2 {W : World} {B : Nat} {x y z : Int} (h : Box3 W B x y z) (u : Int) : Box3 (W.setCell ⟨B, 2, none⟩ (.int .i64 u)) B x y u := by
  obtain ⟨hlt, hk⟩ := Array.getElem?_eq_some_iff.1 h
  show (W.heap.modify B _)[B]? = _
  rw [Array.getElem?_eq_getElem (by rw [Array.size_modify]; exact hlt), Array.getElem_modify_self, hk]
  rfl
theorem ci_eq {l : List (Int × Int)} (h : shB l = true) (v : Int) : cntC (whI l) v 81 = cntC (whS l) v 81 :=
  cntC_congr (fun i j hi hj => wh_eq (ghB_all (shB_gh h)) (decide_eq_true (by omega))) 81 (Nat.le_refl _)
theorem whI_val {l : List (Int × Int)} (h : shB l = true) {x y : Int} (hx : -40 ≤ x ∧ x ≤ 40) (hy : -40 ≤ y ∧ y ≤ 40) : whI l (x, y) = 0 ∨ whI l (x, y) = 1 ∨ whI l (x, y) = 2 := by
  rw [wh_eq (ghB_all (shB_gh h)) (decide_eq_true (by simp only; omega))]
  exact whS_val l _
set_option maxHeartbeats 8000000 in
theorem countImpl_c (l : List (Int × Int)) (a : Option Addr) (len cap : Nat) (w : World) (hl : l.length = len) (h1 : len ≤ 1048576) (hA : At w.heap.size a l w) (c0 : w.cell? ⟨0, 0, none⟩ = some (.int .i64 1000000)) (c3 : w.cell? ⟨0, 3, none⟩ = some (.int .i64 40)) :
    Calls Tryd.prog 36 #[.slice a len cap] w fun e w' => e = .returned (.tuple #[.int .i64 (ciN 2 l), .int .i64 (ciN 1 l), .bool (shB l)]) ∧ Below w.heap.size w w' := by
  subst hl
  have HA := hid hA
  have C0 := hid c0
  have C3 := hid c3
  clear hA c0 c3
  cases hG : shB l
  · have E := hid hG
    go_enter Tryd.func36, Tryd.ntmps36
    go_wp2_with (go_at_call 51; refine (smallImpl_c l _ _ _ _ rfl h1 HA.out C0.out C3.out).mono ?_; rw [hG]; rintro e w1 ⟨rfl, hb1⟩)
    refine bodyPost_ret (v := .tuple #[.int .i64 0, .int .i64 0, .bool false]) (by simp [results, Tryd.results36, go_sem]) rfl ?_
    exact ⟨ret_iib (by unfold ciN; rw [E.out]; rfl) (by unfold ciN; rw [E.out]; rfl) (by first | rfl | exact E.out.symm), hb1⟩
  · have E := hid hG
    go_enter Tryd.func36, Tryd.ntmps36
    go_upto_region 4 with (go_at_call 51; refine (smallImpl_c l _ _ _ _ rfl h1 HA.out C0.out C3.out).mono ?_; rw [hG]; rintro e w1 ⟨rfl, hb1⟩)
    have KT := Box3.new w1 0 0 0
    have hbA : Below w1.heap.size w1 (w1.alloc (.cells #[.int .i64 0, .int .i64 0, .int .i64 0] 76)) := by go_grown
    have hBlt : w.heap.size ≤ w1.heap.size := hb1.size
    have hbw := grew hb1 hbA
    generalize w1.alloc (.cells #[.int .i64 0, .int .i64 0, .int .i64 0] 76) = w2 at *
    generalize w1.heap.size = B at *
    clear hb1 hbA
    go_wp2
    go_loopw [11] (fun x wr => ∃ i : Nat, i ≤ 81 ∧ x = .int .i64 (i : Int) ∧ Box3 wr B (cntC (whI l) 0 i) (cntC (whI l) 1 i) (cntC (whI l) 2 i) ∧ Below w.heap.size w wr) (fun x _ => 81 - (intOf x).toNat)
    case atStart => exact ⟨0, by omega, rfl, KT, hbw⟩
    case round =>
      clear KT hbw
      obtain ⟨i, hi, rfl, KT, hbw⟩ := hrel
      have HB2 := cntC_small (whI l) 2 i
      have HB1 := cntC_small (whI l) 1 i
      have HB0 := cntC_small (whI l) 0 i
      have hp2 := hid (show cntC (whI l) 2 (i + 1) = cntC (whI l) 2 i + cntR (whI l) 2 ((i : Int) - 40) 81 from rfl)
      have hp1 := hid (show cntC (whI l) 1 (i + 1) = cntC (whI l) 1 i + cntR (whI l) 1 ((i : Int) - 40) 81 from rfl)
      have hp0 := hid (show cntC (whI l) 0 (i + 1) = cntC (whI l) 0 i + cntR (whI l) 0 ((i : Int) - 40) 81 from rfl)
      by_cases hil : i < 81
      · have hii : (i : Int) < 81 := by omega
        generalize cntC (whI l) 2 i = P2 at HB2 hp2 KT
        generalize cntC (whI l) 1 i = P1 at HB1 hp1 KT
        generalize cntC (whI l) 0 i = P0 at HB0 hp0 KT
        have HX := hid (show (-40 : Int) ≤ (i : Int) - 40 ∧ (i : Int) - 40 ≤ 40 by omega)
        have hwX : IntKind.i64.wrap ((i : Int) - 40) = (i : Int) - 40 := by rw [IntKind.wrap_i64]; omega
        go_wp2
        generalize wr = wo at KT hbw ⊢
        go_loopw [14] (fun y wr => ∃ j : Nat, j ≤ 81 ∧ y = .int .i64 (j : Int) ∧ Box3 wr B (P0 + cntR (whI l) 0 ((i : Int) - 40) j) (P1 + cntR (whI l) 1 ((i : Int) - 40) j) (P2 + cntR (whI l) 2 ((i : Int) - 40) j) ∧ Below w.heap.size w wr) (fun y _ => 81 - (intOf y).toNat)
        case atStart => exact ⟨0, by omega, rfl, by simpa [cntR] using KT, hbw⟩
        case round =>
          clear hbw KT
          obtain ⟨j, hj, rfl, KT, hbw⟩ := hrel
          have HR2 := cntR_small (whI l) 2 ((i : Int) - 40) j
          have HR1 := cntR_small (whI l) 1 ((i : Int) - 40) j
          have HR0 := cntR_small (whI l) 0 ((i : Int) - 40) j
          by_cases hjl : j < 81
          · have hjj : (j : Int) < 81 := by omega
            have hwY : IntKind.i64.wrap ((j : Int) - 40) = (j : Int) - 40 := by rw [IntKind.wrap_i64]; omega
            have HW := hid (whereImpl_c l ((i : Int) - 40) ((j : Int) - 40) a l.length cap wr rfl h1 ((HA.out.later hbw).mono hbw.size) (cell_later hbw C0.out))
            have hv := whI_val E.out (x := (i : Int) - 40) (y := (j : Int) - 40) HX.out (by omega)
            obtain ⟨X, hX⟩ : ∃ X, (i : Int) - 40 = X := ⟨_, rfl⟩
            obtain ⟨Y, hY⟩ : ∃ Y, (j : Int) - 40 = Y := ⟨_, rfl⟩
            rw [hX, hY] at HW hv
            have hwX2 : IntKind.i64.wrap ((i : Int) - 40) = X := by rw [hwX]; exact hX
            have hwY2 : IntKind.i64.wrap ((j : Int) - 40) = Y := by rw [hwY]; exact hY
            clear hwY hwX
            rcases hv with h | h | h
            · have n0 := hid (cntR_yes (f := whI l) (v := 0) (x := (i : Int) - 40) (k := j) (by rw [hX, hY, h]))
              have n1 := hid (cntR_no (f := whI l) (v := 1) (x := (i : Int) - 40) (k := j) (by rw [hX, hY, h]; decide))
              have n2 := hid (cntR_no (f := whI l) (v := 2) (x := (i : Int) - 40) (k := j) (by rw [hX, hY, h]; decide))
              generalize cntR (whI l) 0 ((i : Int) - 40) j = R0 at HR0 n0 KT
              generalize cntR (whI l) 1 ((i : Int) - 40) j = R1 at HR1 n1 KT
              generalize cntR (whI l) 2 ((i : Int) - 40) j = R2 at HR2 n2 KT
              rw [h] at HW
              have hw1 : IntKind.i64.wrap (P0 + R0 + 1) = P0 + R0 + 1 := by rw [IntKind.wrap_i64]; omega
              clear h hX hY
              go_wp2_with (go_at_call 66; refine HW.out.mono ?_; rintro e w3 ⟨rfl, hb3⟩; have KT3 := KT.later hb3; have c0 := KT3.c0; have c1 := KT3.c1; have c2 := KT3.c2; have f0 := KT3.f 0; have f1 := KT3.f 1; have f2 := KT3.f 2)
              go_roundw
              case rel => exact ⟨j + 1, by omega, by go_num, by rw [n0.out, n1.out, n2.out]; simpa only [Int.add_assoc] using KT3.set0 (P0 + R0 + 1), (grew hbw hb3).setCell (p := ⟨B, 0, none⟩) hBlt _⟩
              case measure => simp [intOf]; omega
            · have n0 := hid (cntR_no (f := whI l) (v := 0) (x := (i : Int) - 40) (k := j) (by rw [hX, hY, h]; decide))
              have n1 := hid (cntR_yes (f := whI l) (v := 1) (x := (i : Int) - 40) (k := j) (by rw [hX, hY, h]))
              have n2 := hid (cntR_no (f := whI l) (v := 2) (x := (i : Int) - 40) (k := j) (by rw [hX, hY, h]; decide))
              generalize cntR (whI l) 0 ((i : Int) - 40) j = R0 at HR0 n0 KT
              generalize cntR (whI l) 1 ((i : Int) - 40) j = R1 at HR1 n1 KT
              generalize cntR (whI l) 2 ((i : Int) - 40) j = R2 at HR2 n2 KT
              rw [h] at HW
              have hw1 : IntKind.i64.wrap (P1 + R1 + 1) = P1 + R1 + 1 := by rw [IntKind.wrap_i64]; omega
              clear h hX hY
              go_wp2_with (go_at_call 66; refine HW.out.mono ?_; rintro e w3 ⟨rfl, hb3⟩; have KT3 := KT.later hb3; have c0 := KT3.c0; have c1 := KT3.c1; have c2 := KT3.c2; have f0 := KT3.f 0; have f1 := KT3.f 1; have f2 := KT3.f 2)
              go_roundw
              case rel => exact ⟨j + 1, by omega, by go_num, by rw [n0.out, n1.out, n2.out]; simpa only [Int.add_assoc] using KT3.set1 (P1 + R1 + 1), (grew hbw hb3).setCell (p := ⟨B, 1, none⟩) hBlt _⟩
              case measure => simp [intOf]; omega
            · have n0 := hid (cntR_no (f := whI l) (v := 0) (x := (i : Int) - 40) (k := j) (by rw [hX, hY, h]; decide))
              have n1 := hid (cntR_no (f := whI l) (v := 1) (x := (i : Int) - 40) (k := j) (by rw [hX, hY, h]; decide))
              have n2 := hid (cntR_yes (f := whI l) (v := 2) (x := (i : Int) - 40) (k := j) (by rw [hX, hY, h]))
              generalize cntR (whI l) 0 ((i : Int) - 40) j = R0 at HR0 n0 KT
              generalize cntR (whI l) 1 ((i : Int) - 40) j = R1 at HR1 n1 KT
              generalize cntR (whI l) 2 ((i : Int) - 40) j = R2 at HR2 n2 KT
              rw [h] at HW
              have hw1 : IntKind.i64.wrap (P2 + R2 + 1) = P2 + R2 + 1 := by rw [IntKind.wrap_i64]; omega
              clear h hX hY
              go_wp2_with (go_at_call 66; refine HW.out.mono ?_; rintro e w3 ⟨rfl, hb3⟩; have KT3 := KT.later hb3; have c0 := KT3.c0; have c1 := KT3.c1; have c2 := KT3.c2; have f0 := KT3.f 0; have f1 := KT3.f 1; have f2 := KT3.f 2)
              go_roundw
              case rel => exact ⟨j + 1, by omega, by go_num, by rw [n0.out, n1.out, n2.out]; simpa only [Int.add_assoc] using KT3.set2 (P2 + R2 + 1), (grew hbw hb3).setCell (p := ⟨B, 2, none⟩) hBlt _⟩
              case measure => simp [intOf]; omega
          · obtain rfl : j = 81 := by omega
            generalize cntR (whI l) 2 ((i : Int) - 40) 81 = R2 at hp2 KT
            generalize cntR (whI l) 1 ((i : Int) - 40) 81 = R1 at hp1 KT
            generalize cntR (whI l) 0 ((i : Int) - 40) 81 = R0 at hp0 KT
            go_wp2
            go_roundw
            case rel => exact ⟨i + 1, by omega, by go_num, by rw [hp2.out, hp1.out, hp0.out]; exact KT, hbw⟩
            case measure => simp [intOf]; omega
      · obtain rfl : i = 81 := by omega
        have e2 := hid (show ciN 2 l = cntC (whI l) 2 81 by unfold ciN; rw [E.out, if_pos rfl, ci_eq E.out])
        have e1 := hid (show ciN 1 l = cntC (whI l) 1 81 by unfold ciN; rw [E.out, if_pos rfl, ci_eq E.out])
        generalize cntC (whI l) 2 81 = P2 at e2 KT
        generalize cntC (whI l) 1 81 = P1 at e1 KT
        have c1 := KT.c1
        have c2 := KT.c2
        go_wp2
        go_quiet (fail)
        go_wp2
        refine bodyPost_ret (v := .tuple #[.int .i64 P2, .int .i64 P1, .bool true]) (by simp [results, Tryd.results36, go_sem]) rfl ?_
        exact ⟨ret_iib e2.out.symm e1.out.symm (by first | rfl | exact E.out.symm), grew hbw (drewN_below _ _)⟩
end Go.Proofs.YtohcllojjmhbcaaDoor
