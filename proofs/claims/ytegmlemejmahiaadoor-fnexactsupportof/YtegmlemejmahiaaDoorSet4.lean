/-
  The place of a point in a list of points, told one by one or by halves (contracts for the walks).
  Conditions: as each theorem states them.
-/
import Derived.Test.YtegmlemejmahiaaDoorSet3
import Derived.Deep.QuietTactic
import Derived.BigQuiet
namespace Go.Proofs.YtegmlemejmahiaaDoor
open Go.RowKit
set_option linter.unusedVariables false
/-- How many points at the head of a list are less than (x, y). -/
def plc (l : List (Int × Int)) (x y : Int) : Nat := (l.takeWhile fun q => lessB q.1 q.2 x y).length
/-- Whether (x, y) stands at its place. -/
def hasB (l : List (Int × Int)) (x y : Int) : Bool := decide (plc l x y < l.length) && eqB (px l (plc l x y)) (py l (plc l x y)) x y
theorem plc_is (l : List (Int × Int)) (x y : Int) : ∀ k : Nat, k ≤ l.length → (∀ i, i < k → lessB (px l i) (py l i) x y = true) → (k < l.length → lessB (px l k) (py l k) x y = false) → plc l x y = k := by
  induction l with
  | nil => intro k hk _ _; simp at hk; subst hk; rfl
  | cons q l ih =>
    intro k hk h1 h2
    cases k with
    | zero =>
      have := h2 (by simp)
      simp [px, py] at this
      simp [plc, List.takeWhile, this]
    | succ k =>
      have h0 := h1 0 (by omega)
      simp [px, py] at h0
      have e := ih k (by simpa using hk) (fun i hi => by simpa [px, py] using h1 (i + 1) (by omega)) (fun hk' => by simpa [px, py] using h2 (by simpa using hk'))
      simp [plc, List.takeWhile, h0] at e ⊢
      exact e
theorem less_trans {a b c d e f : Int} (h : lessB a b c d = true) (k : lessB c d e f = true) : lessB a b e f = true := by
  have h' := of_decide_eq_true h
  have k' := of_decide_eq_true k
  exact decide_eq_true (by omega)
theorem less_irrefl (a b : Int) : lessB a b a b = false := decide_eq_false (by omega)
theorem less_eq {a b x y : Int} (h : lessB a b x y = false) : eqB a b x y = !lessB x y a b := by
  have h' := of_decide_eq_false h
  by_cases e : a = x ∧ b = y
  · obtain ⟨rfl, rfl⟩ := e
    rw [less_irrefl, eqB, decide_eq_true ⟨rfl, rfl⟩]; rfl
  · rw [eqB, decide_eq_false e, lessB, decide_eq_true (show x < a ∨ x = a ∧ y < b by omega)]; rfl
theorem rises_lt {l : List (Int × Int)} {n : Nat} (h : RisesTo l n) : ∀ d i, i + d + 1 ≤ n → lessB (px l i) (py l i) (px l (i + d + 1)) (py l (i + d + 1)) = true := by
  intro d
  induction d with
  | zero => intro i hi; exact h i (by omega)
  | succ d ih => intro i hi; exact less_trans (ih i (by omega)) (h (i + d + 1) (by omega))
/-- What a look by halves knows. -/
structure Half (l : List (Int × Int)) (x y : Int) (lo hi : Nat) : Prop where
  le : lo ≤ hi
  top : hi ≤ l.length
  below : ∀ i, i < lo → lessB (px l i) (py l i) x y = true
  above : ∀ i, hi ≤ i → i < l.length → lessB (px l i) (py l i) x y = false
theorem Half.start (l : List (Int × Int)) (x y : Int) : Half l x y 0 l.length := ⟨Nat.zero_le _, Nat.le_refl _, fun i h => absurd h (Nat.not_lt_zero _), fun i h k => by omega⟩
theorem Half.up {l : List (Int × Int)} {x y : Int} {lo hi m : Nat} (h : Half l x y lo hi) (hr : RisesTo l (l.length - 1)) (h2 : m < hi) (e : lessB (px l m) (py l m) x y = true) : Half l x y (m + 1) hi :=
  ⟨h2, h.top, fun i hi' => by
    by_cases hm : i = m
    · subst hm; exact e
    · have := h.top
      have k := rises_lt hr (m - i - 1) i (by omega)
      rw [show i + (m - i - 1) + 1 = m by omega] at k
      exact less_trans k e, h.above⟩
theorem Half.down {l : List (Int × Int)} {x y : Int} {lo hi m : Nat} (h : Half l x y lo hi) (hr : RisesTo l (l.length - 1)) (h1 : lo ≤ m) (h2 : m < hi) (e : lessB (px l m) (py l m) x y = false) : Half l x y lo m :=
  ⟨h1, by have := h.top; omega, h.below, fun i hi' hl => by
    by_cases hm : i = m
    · subst hm; exact e
    · have k := rises_lt hr (i - m - 1) m (by omega)
      rw [show m + (i - m - 1) + 1 = i by omega] at k
      cases f : lessB (px l i) (py l i) x y
      · rfl
      · rw [less_trans k f] at e; cases e⟩
theorem Half.plc {l : List (Int × Int)} {x y : Int} {lo hi : Nat} (h : Half l x y lo hi) (e : ¬ lo < hi) : plc l x y = lo := by
  have := h.le
  have := h.top
  exact plc_is l x y lo (by omega) h.below (fun hl => h.above lo (by omega) hl)
theorem drewN_below (n : Nat) (w : World) : Below w.heap.size w (w.drewN n) := by
  induction n with
  | zero => exact Below.refl _ _
  | succ n ih => exact ih.drew
theorem box4 {w W : World} {a0 a1 a2 a3 : Addr} {v0 v1 v2 v3 : Value} (h : W.cell? a0 = some v0 ∧ W.cell? a1 = some v1 ∧ W.cell? a2 = some v2 ∧ W.cell? a3 = some v3 ∧ Below w.heap.size w W) : W.cell? a0 = some v0 ∧ W.cell? a1 = some v1 ∧ Below w.heap.size w W := ⟨h.1, h.2.1, h.2.2.2.2⟩
theorem box0 (w : World) (x y : Int) (t : TypeId) : (w.alloc (.cells #[.int .i64 x, .int .i64 y] t)).cell? ⟨w.heap.size, 0, none⟩ = some (.int .i64 x) := by simp [go_sem]
theorem box1 (w : World) (x y : Int) (t : TypeId) : (w.alloc (.cells #[.int .i64 x, .int .i64 y] t)).cell? ⟨w.heap.size, 1, none⟩ = some (.int .i64 y) := by simp [go_sem]
set_option maxHeartbeats 4000000 in
theorem l2Place_c (l : List (Int × Int)) (x y : Int) (a : Option Addr) (len cap : Nat) (w : World) (hl : l.length = len) (h1 : len ≤ 1048576) (hA : At w.heap.size a l w) :
    Calls Tryd.prog 102 #[.slice a len cap, .agg #[.int .i64 x, .int .i64 y]] w fun e w' => e = .returned (.int .i64 (plc l x y)) ∧ Below w.heap.size w w' := by
  subst hl
  have HA := hid hA
  clear hA
  go_enter Tryd.func102, Tryd.ntmps102
  go_wp2
  go_loopw [5] (fun i wr => ∃ k : Nat, k ≤ l.length ∧ i = .int .i64 k ∧ (∀ i, i < k → lessB (px l i) (py l i) x y = true) ∧ wr.cell? ⟨w.heap.size, 0, none⟩ = some (.int .i64 x) ∧ wr.cell? ⟨w.heap.size, 1, none⟩ = some (.int .i64 y) ∧ Below w.heap.size w wr) (fun i _ => l.length - (intOf i).toNat)
  case atStart => exact ⟨0, Nat.zero_le _, rfl, fun i h => absurd h (Nat.not_lt_zero _), box0 _ _ _ _, box1 _ _ _ _, by go_grown⟩
  case round =>
    obtain ⟨k, hk, rfl, hC, r0, r1, hbw⟩ := hrel
    have HC := hid hC
    clear hC
    by_cases hkl : k < l.length
    · obtain ⟨b, off, rfl, hbN, g0, g1⟩ := HA.out k (by omega)
      have q0 := cell_later hbw g0
      have q1 := cell_later hbw g1
      clear g0 g1
      have hi1 : (0 : Int) ≤ (k : Int) := by omega
      have hi2 : (k : Int) < (l.length : Int) := by omega
      cases hE : lessB (px l k) (py l k) x y
      all_goals go_wp2
      all_goals go_region_held3 (fun u => u.cell? ⟨w.heap.size, 0, none⟩ = some (.int .i64 x) ∧ u.cell? ⟨w.heap.size, 1, none⟩ = some (.int .i64 y) ∧ u.cell? ⟨b, off + k * 2, none⟩ = some (.int .i64 (px l k)) ∧ u.cell? ⟨b, off + k * 2 + 1, none⟩ = some (.int .i64 (py l k)) ∧ Below w.heap.size w u) (first | exact keep4 (by with_reducible assumption) (by with_reducible assumption) | exact start4 (Below.refl _ _).drew r0 r1 q0 q1 hbw) (first | (go_at_call 64; refine (lessSpec_c _ _ _ _ _).mono ?_; rintro e w' ⟨rfl, hb⟩))
      · go_wp2
        go_ret
        exact ⟨by rw [plc_is l x y k hk HC.out (fun _ => hE)]; rfl, fin4 (by with_reducible assumption)⟩
      · go_wp2
        go_roundw
        case rel =>
          refine ⟨k + 1, by omega, by go_num, fun i hi => ?_, box4 (by with_reducible assumption)⟩
          by_cases hik : i = k
          · rw [hik]; exact hE
          · exact HC.out i (by omega)
        case measure => simp [intOf]; omega
    · obtain rfl : k = l.length := by omega
      have hd : decide (l.length < l.length) = false := decide_eq_false (by omega)
      go_wp2
      refine wp_region_held_drew (S := (fun u => u.cell? ⟨w.heap.size, 0, none⟩ = some (.int .i64 x) ∧ u.cell? ⟨w.heap.size, 1, none⟩ = some (.int .i64 y) ∧ Below w.heap.size w u)) (by kernel_rfl) ?_ (fun hHeld => ?_)
      · exact ⟨cell_later (Below.refl _ _).drew r0, cell_later (Below.refl _ _).drew r1, hbw.drew⟩
      refine wpAnyH_take (i := 0) (oi := { dst := some 6, op := Op.move (Operand.tmp 5), type := 3, pos := "l2_set.go:21", after := #[], guard := none }) (v := ?v1x0) rfl (by kernel_rfl) (by kernel_rfl) (by kernel_rfl) (fun _ _ _ h => h) (Or.inl ⟨by rfl, ?hy1x0⟩) (by with_reducible assumption) ?rest1x0
      case hy1x0 => (intro w hSw; (try dsimp only at hSw); go_simp; try with_reducible rfl)
      case' rest1x0 => (try simp only [Act.put, List.setIfInBounds_toArray, List.set_cons_zero, List.set_cons_succ])
      refine wpAnyH_take (i := 1) (oi := { dst := some 7, op := Op.move (Operand.tmp 0), type := 29, pos := "l2_set.go:21", after := #[], guard := none }) (v := ?v1x1) rfl (by kernel_rfl) (by kernel_rfl) (by kernel_rfl) (fun _ _ _ h => h) (Or.inl ⟨by rfl, ?hy1x1⟩) (by with_reducible assumption) ?rest1x1
      case hy1x1 => (intro w hSw; (try dsimp only at hSw); go_simp; try with_reducible rfl)
      case' rest1x1 => (try simp only [Act.put, List.setIfInBounds_toArray, List.set_cons_zero, List.set_cons_succ])
      refine wpAnyH_take (i := 2) (oi := { dst := some 8, op := Op.call { callee := Callee.builtin Builtin.len, args := #[Operand.tmp 7], argTypes := #[29] }, type := 3, pos := "l2_set.go:21", after := #[{ on := 1, ground := Ground.data }], guard := none }) (v := ?v1x2) rfl (by kernel_rfl) (by kernel_rfl) (by kernel_rfl) (fun _ _ _ h => h) (Or.inl ⟨by rfl, ?hy1x2⟩) (by with_reducible assumption) ?rest1x2
      case hy1x2 => (intro w hSw; (try dsimp only at hSw); go_simp; try with_reducible rfl)
      case' rest1x2 => (try simp only [Act.put, List.setIfInBounds_toArray, List.set_cons_zero, List.set_cons_succ])
      refine wpAnyH_take (i := 3) (oi := { dst := some 9, op := Op.binOp BinOp.lss 3 (Operand.tmp 6) (Operand.tmp 8) 3, type := 4, pos := "l2_set.go:21", after := #[{ on := 0, ground := Ground.data }, { on := 2, ground := Ground.data }], guard := none }) (v := ?v1x3) rfl (by kernel_rfl) (by kernel_rfl) (by kernel_rfl) (fun _ _ _ h => h) (Or.inl ⟨by rfl, ?hy1x3⟩) (by with_reducible assumption) ?rest1x3
      case hy1x3 => (intro w hSw; (try dsimp only at hSw); go_simp; try with_reducible rfl)
      case' rest1x3 => (try simp only [Act.put, List.setIfInBounds_toArray, List.set_cons_zero, List.set_cons_succ])
      refine wpAnyH_take (i := 4) (oi := { dst := some 10, op := Op.move (Operand.tmp 9), type := 4, pos := "l2_set.go:21", after := #[{ on := 3, ground := Ground.data }], guard := none }) (v := ?v1x4) rfl (by kernel_rfl) (by kernel_rfl) (by kernel_rfl) (fun _ _ _ h => h) (Or.inl ⟨by rfl, ?hy1x4⟩) (by with_reducible assumption) ?rest1x4
      case hy1x4 => (intro w hSw; (try dsimp only at hSw); go_simp; try with_reducible rfl)
      case' rest1x4 => (try simp only [Act.put, List.setIfInBounds_toArray, List.set_cons_zero, List.set_cons_succ])
      refine wpAnyH_take (i := 5) (oi := { dst := some 11, op := Op.move (Operand.tmp 0), type := 29, pos := "l2_set.go:21", after := #[{ on := 4, ground := Ground.guard }], guard := some (4, true) }) (v := undef) rfl (by kernel_rfl) (by kernel_rfl) (by kernel_rfl) (fun _ _ _ h => h) (Or.inr ⟨by rfl, rfl⟩) (by with_reducible assumption) ?rest1x5
      case' rest1x5 => (try simp only [Act.put, List.setIfInBounds_toArray, List.set_cons_zero, List.set_cons_succ])
      refine wpAnyH_take (i := 6) (oi := { dst := some 12, op := Op.move (Operand.tmp 5), type := 3, pos := "l2_set.go:21", after := #[{ on := 4, ground := Ground.guard }], guard := some (4, true) }) (v := undef) rfl (by kernel_rfl) (by kernel_rfl) (by kernel_rfl) (fun _ _ _ h => h) (Or.inr ⟨by rfl, rfl⟩) (by with_reducible assumption) ?rest1x6
      case' rest1x6 => (try simp only [Act.put, List.setIfInBounds_toArray, List.set_cons_zero, List.set_cons_succ])
      refine wpAnyH_take (i := 7) (oi := { dst := some 13, op := Op.indexAddr 29 (Operand.tmp 11) (Operand.tmp 12), type := 0, pos := "l2_set.go:21", after := #[{ on := 5, ground := Ground.data }, { on := 6, ground := Ground.data }, { on := 4, ground := Ground.guard }], guard := some (4, true) }) (v := undef) rfl (by kernel_rfl) (by kernel_rfl) (by kernel_rfl) (fun _ _ _ h => h) (Or.inr ⟨by rfl, rfl⟩) (by with_reducible assumption) ?rest1x7
      case' rest1x7 => (try simp only [Act.put, List.setIfInBounds_toArray, List.set_cons_zero, List.set_cons_succ])
      refine wpAnyH_take (i := 8) (oi := { dst := some 14, op := Op.load 26 (Operand.tmp 13), type := 26, pos := "l2_set.go:21", after := #[{ on := 7, ground := Ground.data }, { on := 4, ground := Ground.guard }], guard := some (4, true) }) (v := undef) rfl (by kernel_rfl) (by kernel_rfl) (by kernel_rfl) (fun _ _ _ h => h) (Or.inr ⟨by rfl, rfl⟩) (by with_reducible assumption) ?rest1x8
      case' rest1x8 => (try simp only [Act.put, List.setIfInBounds_toArray, List.set_cons_zero, List.set_cons_succ])
      refine wpAnyH_take (i := 9) (oi := { dst := some 15, op := Op.load 26 (Operand.tmp 3), type := 26, pos := "l2_set.go:21", after := #[{ on := 4, ground := Ground.guard }], guard := some (4, true) }) (v := undef) rfl (by kernel_rfl) (by kernel_rfl) (by kernel_rfl) (fun _ _ _ h => h) (Or.inr ⟨by rfl, rfl⟩) (by with_reducible assumption) ?rest1x9
      case' rest1x9 => (try simp only [Act.put, List.setIfInBounds_toArray, List.set_cons_zero, List.set_cons_succ])
      refine wpAnyH_ready (rs := [10]) (by kernel_rfl) (by simp) ?_
      refine AllReadyH.cons (o := { dst := some 16, op := Op.call { callee := Callee.value (Operand.func 64), args := #[Operand.tmp 14, Operand.tmp 15], argTypes := #[26, 26] }, type := 4, pos := "l2_set.go:21", after := #[{ on := 8, ground := Ground.data }, { on := 9, ground := Ground.data }, { on := 4, ground := Ground.chain }, { on := 4, ground := Ground.guard }], guard := some (4, true) }) rfl (fun K hK => ?_) AllReadyH.nil
      go_simp
      refine hK.out _ _ ?_ (fun hHeld => ?_)
      · with_reducible assumption
      clear hK K
      try simp only [Act.put, List.setIfInBounds_toArray, List.set_cons_zero, List.set_cons_succ]
      refine wpAnyH_take (i := 11) (oi := { dst := some 17, op := Op.pick (Operand.tmp 10) (Operand.tmp 16) (Operand.const (Value.bool false)), type := 4, pos := "l2_set.go:21", after := #[{ on := 4, ground := Ground.data }, { on := 10, ground := Ground.data }], guard := none }) (v := ?v1x11) rfl (by kernel_rfl) (by kernel_rfl) (by kernel_rfl) (fun _ _ _ h => h) (Or.inl ⟨by rfl, ?hy1x11⟩) (by with_reducible assumption) ?rest1x11
      case hy1x11 => (intro w hSw; (try dsimp only at hSw); go_simp; try with_reducible rfl)
      case' rest1x11 => (try simp only [Act.put, List.setIfInBounds_toArray, List.set_cons_zero, List.set_cons_succ])
      refine wpAnyH_done (by kernel_rfl) ?_ _
      go_wp2
      go_ret
      exact ⟨by rw [plc_is l x y _ hk HC.out (fun h => absurd h (by omega))]; rfl, fin2 (by with_reducible assumption)⟩
end Go.Proofs.YtegmlemejmahiaaDoor
