/-
  A look by halves (a contract for the walks).
  Conditions: as each theorem states them.
-/
import Derived.Test.YtegmlemejmahiaaDoorSet4
namespace Go.Proofs.YtegmlemejmahiaaDoor
open Go.RowKit
set_option linter.unusedVariables false
set_option maxHeartbeats 8000000 in
theorem search_c (l : List (Int × Int)) (x y : Int) (a : Option Addr) (len cap : Nat) (w : World) (hl : l.length = len) (h1 : len ≤ 1048576) (hr : RisesTo l (l.length - 1)) (hA : At w.heap.size a l w) :
    Calls Tryd.prog 87 #[.slice a len cap, .agg #[.int .i64 x, .int .i64 y]] w fun e w' => e = .returned (.tuple #[.int .i64 (plc l x y), .bool (hasB l x y)]) ∧ Below w.heap.size w w' := by
  subst hl
  have HA := hid hA
  have HR := hid hr
  clear hA hr
  go_enter Tryd.func87, Tryd.ntmps87
  go_wp2
  go_loopw [6, 7] (fun i j wr => ∃ lo hi : Nat, (lo ≤ hi ∧ hi ≤ l.length) ∧ i = .int .i64 lo ∧ j = .int .i64 hi ∧ Half l x y lo hi ∧ wr.cell? ⟨w.heap.size, 0, none⟩ = some (.int .i64 x) ∧ wr.cell? ⟨w.heap.size, 1, none⟩ = some (.int .i64 y) ∧ Below w.heap.size w wr) (fun i j _ => (intOf j).toNat - (intOf i).toNat)
  case atStart => exact ⟨0, l.length, ⟨Nat.zero_le _, Nat.le_refl _⟩, rfl, rfl, Half.start l x y, box0 _ _ _ _, box1 _ _ _ _, by go_grown⟩
  case round =>
    obtain ⟨lo, hi, hk, rfl, rfl, hC, r0, r1, hbw⟩ := hrel
    have HC := hid hC
    clear hC
    by_cases hkl : lo < hi
    · obtain ⟨m, hm⟩ : ∃ m : Nat, m = lo + (hi - lo) / 2 := ⟨_, rfl⟩
      have hm1 : lo ≤ m := by omega
      have hm2 : m < hi := by omega
      have hm3 : m < l.length := by omega
      obtain ⟨b, off, rfl, hbN, g0, g1⟩ := HA.out m hm3
      have q0 := cell_later hbw g0
      have q1 := cell_later hbw g1
      clear g0 g1
      have hi1 : (0 : Int) ≤ (m : Int) := by omega
      have hi2 : (m : Int) < (l.length : Int) := by omega
      have hd1 : IntKind.i64.wrap ((hi : Int) - (lo : Int)) = ((hi - lo : Nat) : Int) := by rw [IntKind.wrap_i64]; omega
      have hd2 : (lo : Int) + ((hi - lo : Nat) : Int) / 2 = (m : Int) := by omega
      have hmm : m ≤ 1048576 := by omega
      clear hm
      cases hE : lessB (px l m) (py l m) x y
      all_goals go_wp2
      all_goals go_region_held3 (fun u => u.cell? ⟨w.heap.size, 0, none⟩ = some (.int .i64 x) ∧ u.cell? ⟨w.heap.size, 1, none⟩ = some (.int .i64 y) ∧ u.cell? ⟨b, off + m * 2, none⟩ = some (.int .i64 (px l m)) ∧ u.cell? ⟨b, off + m * 2 + 1, none⟩ = some (.int .i64 (py l m)) ∧ Below w.heap.size w u) (first | exact keep4 (by with_reducible assumption) (by with_reducible assumption) | exact start4 (Below.refl _ _).drew r0 r1 q0 q1 hbw) (first | (go_at_call 152; refine (lessThan_c _ _ _ _ _).mono ?_; rintro e w' ⟨rfl, hb⟩))
      · go_wp2
        go_roundw
        case rel => exact ⟨lo, m, ⟨hm1, by omega⟩, rfl, rfl, HC.out.down HR.out hm1 hm2 hE, box4 (by with_reducible assumption)⟩
        case measure => simp [intOf]; omega
      · go_wp2
        go_roundw
        case rel => exact ⟨m + 1, hi, ⟨by omega, hk.2⟩, by go_num, rfl, HC.out.up HR.out hm2 hE, box4 (by with_reducible assumption)⟩
        case measure => simp [intOf]; omega
    · obtain rfl : lo = hi := by omega
      have hP : plc l x y = lo := HC.out.plc (by omega)
      by_cases hin : lo < l.length
      · have hF : lessB (px l lo) (py l lo) x y = false := HC.out.above lo (Nat.le_refl _) hin
        have hH : hasB l x y = !lessB x y (px l lo) (py l lo) := by rw [hasB, hP, decide_eq_true hin, Bool.true_and, less_eq hF]
        have HP := hid hP
        have HH := hid hH
        clear hP hH hF
        obtain ⟨b, off, rfl, hbN, g0, g1⟩ := HA.out lo hin
        have q0 := cell_later hbw g0
        have q1 := cell_later hbw g1
        clear g0 g1
        have hi1 : (0 : Int) ≤ (lo : Int) := by omega
        have hi2 : (lo : Int) < (l.length : Int) := by omega
        cases hE : lessB x y (px l lo) (py l lo)
        all_goals go_wp2
        all_goals go_region_held3 (fun u => u.cell? ⟨w.heap.size, 0, none⟩ = some (.int .i64 x) ∧ u.cell? ⟨w.heap.size, 1, none⟩ = some (.int .i64 y) ∧ u.cell? ⟨b, off + lo * 2, none⟩ = some (.int .i64 (px l lo)) ∧ u.cell? ⟨b, off + lo * 2 + 1, none⟩ = some (.int .i64 (py l lo)) ∧ Below w.heap.size w u) (first | exact keep4 (by with_reducible assumption) (by with_reducible assumption) | exact start4 (Below.refl _ _).drew r0 r1 q0 q1 hbw) (first | (go_at_call 152; refine (lessThan_c _ _ _ _ _).mono ?_; rintro e w' ⟨rfl, hb⟩))
        all_goals go_wp2
        all_goals go_ret2
        all_goals exact ⟨by rw [HP.out, HH.out, hE]; rfl, fin4 (by with_reducible assumption)⟩
      · have hH : hasB l x y = false := by rw [hasB, hP, decide_eq_false hin, Bool.false_and]
        have hd : decide (lo < l.length) = false := decide_eq_false hin
        have HP := hid hP
        have HH := hid hH
        clear hP hH
        go_wp2
        refine wp_region_held_drew (S := (fun u => u.cell? ⟨w.heap.size, 0, none⟩ = some (.int .i64 x) ∧ u.cell? ⟨w.heap.size, 1, none⟩ = some (.int .i64 y) ∧ Below w.heap.size w u)) (by kernel_rfl) ?_ (fun hHeld => ?_)
        · exact ⟨cell_later (Below.refl _ _).drew r0, cell_later (Below.refl _ _).drew r1, hbw.drew⟩
        refine wpAnyH_take (i := 0) (oi := { dst := some 30, op := Op.move (Operand.tmp 6), type := 3, pos := "l2_set.go:140", after := #[], guard := none }) (v := ?v2x0) rfl (by kernel_rfl) (by kernel_rfl) (by kernel_rfl) (fun _ _ _ h => h) (Or.inl ⟨by rfl, ?hy2x0⟩) (by with_reducible assumption) ?rest2x0
        case hy2x0 => (intro w hSw; (try dsimp only at hSw); go_simp; try with_reducible rfl)
        case' rest2x0 => (try simp only [Act.put, List.setIfInBounds_toArray, List.set_cons_zero, List.set_cons_succ])
        refine wpAnyH_take (i := 1) (oi := { dst := some 31, op := Op.move (Operand.tmp 6), type := 3, pos := "l2_set.go:140", after := #[], guard := none }) (v := ?v2x1) rfl (by kernel_rfl) (by kernel_rfl) (by kernel_rfl) (fun _ _ _ h => h) (Or.inl ⟨by rfl, ?hy2x1⟩) (by with_reducible assumption) ?rest2x1
        case hy2x1 => (intro w hSw; (try dsimp only at hSw); go_simp; try with_reducible rfl)
        case' rest2x1 => (try simp only [Act.put, List.setIfInBounds_toArray, List.set_cons_zero, List.set_cons_succ])
        refine wpAnyH_take (i := 2) (oi := { dst := some 32, op := Op.move (Operand.tmp 0), type := 69, pos := "l2_set.go:140", after := #[], guard := none }) (v := ?v2x2) rfl (by kernel_rfl) (by kernel_rfl) (by kernel_rfl) (fun _ _ _ h => h) (Or.inl ⟨by rfl, ?hy2x2⟩) (by with_reducible assumption) ?rest2x2
        case hy2x2 => (intro w hSw; (try dsimp only at hSw); go_simp; try with_reducible rfl)
        case' rest2x2 => (try simp only [Act.put, List.setIfInBounds_toArray, List.set_cons_zero, List.set_cons_succ])
        refine wpAnyH_take (i := 3) (oi := { dst := some 33, op := Op.call { callee := Callee.builtin Builtin.len, args := #[Operand.tmp 32], argTypes := #[69] }, type := 3, pos := "l2_set.go:140", after := #[{ on := 2, ground := Ground.data }], guard := none }) (v := ?v2x3) rfl (by kernel_rfl) (by kernel_rfl) (by kernel_rfl) (fun _ _ _ h => h) (Or.inl ⟨by rfl, ?hy2x3⟩) (by with_reducible assumption) ?rest2x3
        case hy2x3 => (intro w hSw; (try dsimp only at hSw); go_simp; try with_reducible rfl)
        case' rest2x3 => (try simp only [Act.put, List.setIfInBounds_toArray, List.set_cons_zero, List.set_cons_succ])
        refine wpAnyH_take (i := 4) (oi := { dst := some 34, op := Op.binOp BinOp.lss 3 (Operand.tmp 31) (Operand.tmp 33) 3, type := 4, pos := "l2_set.go:140", after := #[{ on := 1, ground := Ground.data }, { on := 3, ground := Ground.data }], guard := none }) (v := ?v2x4) rfl (by kernel_rfl) (by kernel_rfl) (by kernel_rfl) (fun _ _ _ h => h) (Or.inl ⟨by rfl, ?hy2x4⟩) (by with_reducible assumption) ?rest2x4
        case hy2x4 => (intro w hSw; (try dsimp only at hSw); go_simp; try with_reducible rfl)
        case' rest2x4 => (try simp only [Act.put, List.setIfInBounds_toArray, List.set_cons_zero, List.set_cons_succ])
        refine wpAnyH_take (i := 5) (oi := { dst := some 35, op := Op.move (Operand.tmp 34), type := 4, pos := "l2_set.go:140", after := #[{ on := 4, ground := Ground.data }], guard := none }) (v := ?v2x5) rfl (by kernel_rfl) (by kernel_rfl) (by kernel_rfl) (fun _ _ _ h => h) (Or.inl ⟨by rfl, ?hy2x5⟩) (by with_reducible assumption) ?rest2x5
        case hy2x5 => (intro w hSw; (try dsimp only at hSw); go_simp; try with_reducible rfl)
        case' rest2x5 => (try simp only [Act.put, List.setIfInBounds_toArray, List.set_cons_zero, List.set_cons_succ])
        refine wpAnyH_take (i := 6) (oi := { dst := some 36, op := Op.load 26 (Operand.tmp 3), type := 26, pos := "l2_set.go:140", after := #[{ on := 5, ground := Ground.guard }], guard := some (5, true) }) (v := undef) rfl (by kernel_rfl) (by kernel_rfl) (by kernel_rfl) (fun _ _ _ h => h) (Or.inr ⟨by rfl, rfl⟩) (by with_reducible assumption) ?rest2x6
        case' rest2x6 => (try simp only [Act.put, List.setIfInBounds_toArray, List.set_cons_zero, List.set_cons_succ])
        refine wpAnyH_take (i := 7) (oi := { dst := some 37, op := Op.makeInterface 26 (Operand.tmp 36), type := 20, pos := "l2_set.go:140", after := #[{ on := 6, ground := Ground.data }, { on := 5, ground := Ground.guard }], guard := some (5, true) }) (v := undef) rfl (by kernel_rfl) (by kernel_rfl) (by kernel_rfl) (fun _ _ _ h => h) (Or.inr ⟨by rfl, rfl⟩) (by with_reducible assumption) ?rest2x7
        case' rest2x7 => (try simp only [Act.put, List.setIfInBounds_toArray, List.set_cons_zero, List.set_cons_succ])
        refine wpAnyH_take (i := 8) (oi := { dst := some 38, op := Op.move (Operand.tmp 0), type := 69, pos := "l2_set.go:140", after := #[{ on := 5, ground := Ground.guard }], guard := some (5, true) }) (v := undef) rfl (by kernel_rfl) (by kernel_rfl) (by kernel_rfl) (fun _ _ _ h => h) (Or.inr ⟨by rfl, rfl⟩) (by with_reducible assumption) ?rest2x8
        case' rest2x8 => (try simp only [Act.put, List.setIfInBounds_toArray, List.set_cons_zero, List.set_cons_succ])
        refine wpAnyH_take (i := 9) (oi := { dst := some 39, op := Op.move (Operand.tmp 6), type := 3, pos := "l2_set.go:140", after := #[{ on := 5, ground := Ground.guard }], guard := some (5, true) }) (v := undef) rfl (by kernel_rfl) (by kernel_rfl) (by kernel_rfl) (fun _ _ _ h => h) (Or.inr ⟨by rfl, rfl⟩) (by with_reducible assumption) ?rest2x9
        case' rest2x9 => (try simp only [Act.put, List.setIfInBounds_toArray, List.set_cons_zero, List.set_cons_succ])
        refine wpAnyH_take (i := 10) (oi := { dst := some 40, op := Op.indexAddr 69 (Operand.tmp 38) (Operand.tmp 39), type := 0, pos := "l2_set.go:140", after := #[{ on := 8, ground := Ground.data }, { on := 9, ground := Ground.data }, { on := 5, ground := Ground.guard }], guard := some (5, true) }) (v := undef) rfl (by kernel_rfl) (by kernel_rfl) (by kernel_rfl) (fun _ _ _ h => h) (Or.inr ⟨by rfl, rfl⟩) (by with_reducible assumption) ?rest2x10
        case' rest2x10 => (try simp only [Act.put, List.setIfInBounds_toArray, List.set_cons_zero, List.set_cons_succ])
        refine wpAnyH_take (i := 11) (oi := { dst := some 41, op := Op.load 26 (Operand.tmp 40), type := 26, pos := "l2_set.go:140", after := #[{ on := 10, ground := Ground.data }, { on := 5, ground := Ground.guard }], guard := some (5, true) }) (v := undef) rfl (by kernel_rfl) (by kernel_rfl) (by kernel_rfl) (fun _ _ _ h => h) (Or.inr ⟨by rfl, rfl⟩) (by with_reducible assumption) ?rest2x11
        case' rest2x11 => (try simp only [Act.put, List.setIfInBounds_toArray, List.set_cons_zero, List.set_cons_succ])
        refine wpAnyH_ready (rs := [12]) (by kernel_rfl) (by simp) ?_
        refine AllReadyH.cons (o := { dst := some 42, op := Op.call { callee := Callee.invoke (Operand.tmp 37) "loop.example/g00780/impl.lessThan", args := #[Operand.tmp 41], argTypes := #[26] }, type := 4, pos := "l2_set.go:140", after := #[{ on := 7, ground := Ground.data }, { on := 11, ground := Ground.data }, { on := 5, ground := Ground.chain }, { on := 5, ground := Ground.guard }], guard := some (5, true) }) rfl (fun K hK => ?_) AllReadyH.nil
        go_simp
        refine hK.out _ _ ?_ (fun hHeld => ?_)
        · with_reducible assumption
        clear hK K
        try simp only [Act.put, List.setIfInBounds_toArray, List.set_cons_zero, List.set_cons_succ]
        refine wpAnyH_take (i := 13) (oi := { dst := some 43, op := Op.unOp UnOp.not 4 (Operand.tmp 42), type := 4, pos := "l2_set.go:140", after := #[{ on := 12, ground := Ground.data }, { on := 5, ground := Ground.guard }, { on := 15, ground := Ground.gcOnly Departure.lateStores }], guard := some (5, true) }) (v := undef) rfl (by kernel_rfl) (by kernel_rfl) (by kernel_rfl) (fun _ _ _ h => h) (Or.inr ⟨by rfl, rfl⟩) (by with_reducible assumption) ?rest2x13
        case' rest2x13 => (try simp only [Act.put, List.setIfInBounds_toArray, List.set_cons_zero, List.set_cons_succ])
        refine wpAnyH_take (i := 14) (oi := { dst := some 44, op := Op.pick (Operand.tmp 35) (Operand.tmp 43) (Operand.const (Value.bool false)), type := 4, pos := "l2_set.go:140", after := #[{ on := 5, ground := Ground.data }, { on := 13, ground := Ground.data }, { on := 15, ground := Ground.gcOnly Departure.lateStores }], guard := none }) (v := ?v2x14) rfl (by kernel_rfl) (by kernel_rfl) (by kernel_rfl) (fun _ _ _ h => h) (Or.inl ⟨by rfl, ?hy2x14⟩) (by with_reducible assumption) ?rest2x14
        case hy2x14 => (intro w hSw; (try dsimp only at hSw); go_simp; try with_reducible rfl)
        case' rest2x14 => (try simp only [Act.put, List.setIfInBounds_toArray, List.set_cons_zero, List.set_cons_succ])
        refine wpAnyH_take (i := 15) (oi := { dst := some 4, op := Op.assign (Operand.tmp 30), type := 3, pos := "l2_set.go:140", after := #[{ on := 0, ground := Ground.data }, { on := 12, ground := Ground.chain }, { on := 0, ground := Ground.phase }, { on := 1, ground := Ground.textOnly Departure.lateStores }, { on := 2, ground := Ground.textOnly Departure.lateStores }, { on := 3, ground := Ground.textOnly Departure.lateStoresUnsure }, { on := 4, ground := Ground.textOnly Departure.lateStores }, { on := 5, ground := Ground.textOnly Departure.lateStores }, { on := 6, ground := Ground.textOnly Departure.lateStores }, { on := 7, ground := Ground.textOnly Departure.lateStores }, { on := 8, ground := Ground.textOnly Departure.lateStores }, { on := 9, ground := Ground.textOnly Departure.lateStores }, { on := 10, ground := Ground.textOnly Departure.lateStores }, { on := 11, ground := Ground.textOnly Departure.lateStores }, { on := 12, ground := Ground.textOnly Departure.lateStoresUnsure }, { on := 13, ground := Ground.textOnly Departure.lateStores }, { on := 14, ground := Ground.textOnly Departure.lateStores }], guard := none }) (v := ?v2x15) rfl (by kernel_rfl) (by kernel_rfl) (by kernel_rfl) (fun _ _ _ h => h) (Or.inl ⟨by rfl, ?hy2x15⟩) (by with_reducible assumption) ?rest2x15
        case hy2x15 => (intro w hSw; (try dsimp only at hSw); go_simp; try with_reducible rfl)
        case' rest2x15 => (try simp only [Act.put, List.setIfInBounds_toArray, List.set_cons_zero, List.set_cons_succ])
        refine wpAnyH_take (i := 16) (oi := { dst := some 5, op := Op.assign (Operand.tmp 44), type := 4, pos := "l2_set.go:140", after := #[{ on := 14, ground := Ground.data }, { on := 15, ground := Ground.chain }, { on := 0, ground := Ground.phase }, { on := 1, ground := Ground.phase }, { on := 2, ground := Ground.phase }, { on := 3, ground := Ground.phase }, { on := 4, ground := Ground.phase }, { on := 5, ground := Ground.phase }, { on := 6, ground := Ground.phase }, { on := 7, ground := Ground.phase }, { on := 8, ground := Ground.phase }, { on := 9, ground := Ground.phase }, { on := 10, ground := Ground.phase }, { on := 11, ground := Ground.phase }, { on := 12, ground := Ground.phase }, { on := 13, ground := Ground.phase }, { on := 14, ground := Ground.phase }, { on := 15, ground := Ground.phase }], guard := none }) (v := ?v2x16) rfl (by kernel_rfl) (by kernel_rfl) (by kernel_rfl) (fun _ _ _ h => h) (Or.inl ⟨by rfl, ?hy2x16⟩) (by with_reducible assumption) ?rest2x16
        case hy2x16 => (intro w hSw; (try dsimp only at hSw); go_simp; try with_reducible rfl)
        case' rest2x16 => (try simp only [Act.put, List.setIfInBounds_toArray, List.set_cons_zero, List.set_cons_succ])
        refine wpAnyH_done (by kernel_rfl) ?_ _
        go_wp2
        go_ret2
        exact ⟨by rw [HP.out, HH.out]; rfl, fin2 (by with_reducible assumption)⟩
end Go.Proofs.YtegmlemejmahiaaDoor
