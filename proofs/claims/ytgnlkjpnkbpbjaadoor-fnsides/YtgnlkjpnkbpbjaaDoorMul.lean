/-
  Products in two words, their differences and signs: what the program's and the specification's small functions answer (contracts for the walks).
  Conditions: as each theorem states them.
-/
import Derived.Test.YtgnlkjpnkbpbjaaDoorRows
import Derived.WalkKit
import Derived.ProofKit
import Derived.OpenShut
import Derived.Handy
import Derived.WalkSpells
import Derived.Lib.Mul64
import Derived.Laws.Bits64b
import Derived.Shelf.Bits.Mul64
import Derived.Shelf.Spec.BitsCarry
namespace Go.Proofs.YtgnlkjpnkbpbjaaDoor
open Go.RowKit Go.Lib
set_option linter.unusedVariables false
theorem hid {p : Prop} (h : p) : Hid p := h
/-- The school method on halves of 32 bits: of the four products nothing wraps, and what it makes is the product's two words. -/
theorem school (x y a b c d : Nat) (hx : x < 18446744073709551616) (hy : y < 18446744073709551616) (ea : x / 4294967296 * (y / 4294967296) = a) (eb : x / 4294967296 * (y % 4294967296) = b) (ec : x % 4294967296 * (y / 4294967296) = c) (ed : x % 4294967296 * (y % 4294967296) = d) :
    (a < 18446744073709551616 ∧ b < 18446744073709551616 ∧ c < 18446744073709551616 ∧ d < 18446744073709551616) ∧ b + d / 4294967296 < 18446744073709551616 ∧ c + (b + d / 4294967296) % 4294967296 < 18446744073709551616 ∧ a + (b + d / 4294967296) / 4294967296 < 18446744073709551616 ∧
      a + (b + d / 4294967296) / 4294967296 + (c + (b + d / 4294967296) % 4294967296) / 4294967296 = x * y / 18446744073709551616 ∧
      x * y / 18446744073709551616 < 18446744073709551616 ∧ (c + (b + d / 4294967296) % 4294967296) % 4294967296 * 4294967296 + d % 4294967296 = x * y % 18446744073709551616 := by
  have e := Lib.split_mul (x / 4294967296) (x % 4294967296) (y / 4294967296) (y % 4294967296) 4294967296
  rw [Nat.div_add_mod', Nat.div_add_mod', ea, eb, ec, ed] at e
  have ka := Lib.half_mul_le (a := x / 4294967296) (b := y / 4294967296) (by omega) (by omega)
  have kb := Lib.half_mul_le (a := x / 4294967296) (b := y % 4294967296) (by omega) (by omega)
  have kc := Lib.half_mul_le (a := x % 4294967296) (b := y / 4294967296) (by omega) (by omega)
  have kd := Lib.half_mul_le (a := x % 4294967296) (b := y % 4294967296) (by omega) (by omega)
  rw [ea] at ka
  rw [eb] at kb
  rw [ec] at kc
  rw [ed] at kd
  rw [e]
  clear e ea eb ec ed hx hy
  omega
set_option maxHeartbeats 1000000 in
theorem mul64N (x y : Nat) (hx : x < 18446744073709551616) (hy : y < 18446744073709551616) (w : World) :
    Calls Tryd.prog 50 #[.int .u64 x, .int .u64 y] w fun e w' => e = .returned (.tuple #[.int .u64 ((x * y / 18446744073709551616 : Nat) : Int), .int .u64 ((x * y % 18446744073709551616 : Nat) : Int)]) ∧ w = w' := by
  have H := hid (school x y _ _ _ _ hx hy rfl rfl rfl rfl)
  go_enter Tryd.func50, Tryd.ntmps50
  go_wp2
  obtain ⟨⟨ka, kb, kc, kd⟩, kt, kw, kh, hhi, kq, _⟩ := H.out
  rw [Nat.add_comm (x % 4294967296 * (y / 4294967296))] at kw hhi
  have kz := hhi ▸ kq
  simp only [Mul64.maskN x hx, Mul64.maskN y hy, Mul64.divN, Mul64.mulN, Mul64.addN, Mul64.wrapN _ ka, Mul64.wrapN _ kb, Mul64.wrapN _ kc, Mul64.wrapN _ kd, Mul64.wrapN _ kt, Mul64.maskN _ kt, Mul64.wrapN _ kw, Mul64.wrapN _ kh, Mul64.wrapN _ kz, Mul64.wrapM (x * y)]
  rw [hhi]
  go_ret2
  exact ⟨rfl, rfl⟩
theorem orN (o d : Nat) (hd : d < 4294967296) : bits .or .u64 (((o * 4294967296 % 18446744073709551616 : Nat) : Int)) (d : Int) = ((o % 4294967296 * 4294967296 + d : Nat) : Int) := by
  have e0 : o * 4294967296 % 18446744073709551616 = o % 4294967296 * 4294967296 := by omega
  have e : (o % 4294967296 * 4294967296) ||| d = o % 4294967296 * 4294967296 + d := by
    have := Nat.shiftLeft_add_eq_or_of_lt (i := 32) (b := d) (by omega) (o % 4294967296)
    rw [Nat.shiftLeft_eq] at this
    exact this.symm
  rw [e0, bits_or_u64_nat (o % 4294967296 * 4294967296) d (by omega) (by omega), e]
set_option maxHeartbeats 1000000 in
theorem l1mulN (x y : Nat) (hx : x < 18446744073709551616) (hy : y < 18446744073709551616) (w : World) :
    Calls Tryd.prog 52 #[.int .u64 x, .int .u64 y] w fun e w' => e = .returned (.tuple #[.int .u64 ((x * y / 18446744073709551616 : Nat) : Int), .int .u64 ((x * y % 18446744073709551616 : Nat) : Int)]) ∧ w = w' := by
  have H := hid (school x y _ _ _ _ hx hy rfl rfl rfl rfl)
  go_enter Tryd.func52, Tryd.ntmps52
  go_wp2
  obtain ⟨⟨ka, kb, kc, kd⟩, kt, kw, kh, hhi, kq, hlo⟩ := H.out
  have kz := hhi ▸ kq
  simp only [Mul64.maskN x hx, Mul64.maskN y hy, Mul64.divN, Mul64.mulN, Mul64.addN, Mul64.wrapN _ ka, Mul64.wrapN _ kb, Mul64.wrapN _ kc, Mul64.wrapN _ kd, Mul64.wrapN _ kt, Mul64.maskN _ kt, Mul64.maskN _ kd, Mul64.wrapN _ kw, Mul64.wrapN _ kh, Mul64.wrapN _ kz]
  rw [hhi]
  go_ret2
  refine ⟨?_, rfl⟩
  have eo : ∀ o : Nat, IntKind.u64.wrap ((o : Int) * 4294967296) = ((o * 4294967296 % 18446744073709551616 : Nat) : Int) := fun o => by rw [IntKind.wrap_u64]; omega
  have ret : ∀ {a b : Int}, a = b → Ending.returned (.tuple #[.int .u64 ((x * y / 18446744073709551616 : Nat) : Int), .int .u64 a]) = .returned (.tuple #[.int .u64 ((x * y / 18446744073709551616 : Nat) : Int), .int .u64 b]) := fun h => by rw [h]
  exact ret (by rw [eo, orN _ _ (by omega), hlo])
def mulHi (x y : Int) : Int := wrap64 (x * y / 18446744073709551616)
def mulLo (x y : Int) : Int := x * y % 18446744073709551616
def absI (x : Int) : Int := if x < 0 then -x else x
theorem ret_pair {a b c d : Int} (h : a = c) (k : b = d) : Ending.returned (.agg #[.int .i64 a, .int .u64 b]) = .returned (.agg #[.int .i64 c, .int .u64 d]) := by rw [h, k]
def subLo (y0 y1 : Int) : Int := (y0 - y1) % 18446744073709551616
def subHi (x0 y0 x1 y1 : Int) : Int := if y0 < y1 then wrap64 (x0 - x1 - 1) else wrap64 (x0 - x1)
theorem uneg {x : Int} (h : x < 0) (h' : -9223372036854775808 ≤ x) : IntKind.u64.wrap x = x + 18446744073709551616 := by rw [IntKind.wrap_u64]; omega
theorem upos {x : Int} (h : ¬ x < 0) (h' : x ≤ 9223372036854775807) : IntKind.u64.wrap x = x := by rw [IntKind.wrap_u64]; omega
theorem prod_nn {x y hi lo : Int} (hx : x < 0) (hx' : -9223372036854775808 ≤ x) (hy : y < 0) (hy' : -9223372036854775808 ≤ y)
    (hhi : hi = IntKind.u64.wrap x * IntKind.u64.wrap y / 18446744073709551616) (hlo : lo = IntKind.u64.wrap x * IntKind.u64.wrap y % 18446744073709551616) :
    wrap64 (IntKind.u64.wrap (IntKind.u64.wrap (hi - IntKind.u64.wrap y) - IntKind.u64.wrap x)) = mulHi x y ∧ lo = mulLo x y := by
  rw [uneg hx hx', uneg hy hy'] at *
  have e : (x + 18446744073709551616) * (y + 18446744073709551616) = x * y + 18446744073709551616 * x + 18446744073709551616 * y + 18446744073709551616 * 18446744073709551616 := by rw [Int.add_mul, Int.mul_add, Int.mul_add]; omega
  rw [e] at hhi hlo
  unfold mulHi mulLo
  generalize x * y = P at *
  simp only [IntKind.wrap_u64, wrap64]
  omega
theorem prod_np {x y hi lo : Int} (hx : x < 0) (hx' : -9223372036854775808 ≤ x) (hy : ¬ y < 0) (hy' : y ≤ 9223372036854775807)
    (hhi : hi = IntKind.u64.wrap x * IntKind.u64.wrap y / 18446744073709551616) (hlo : lo = IntKind.u64.wrap x * IntKind.u64.wrap y % 18446744073709551616) :
    wrap64 (IntKind.u64.wrap (hi - IntKind.u64.wrap y)) = mulHi x y ∧ lo = mulLo x y := by
  rw [uneg hx hx', upos hy hy'] at *
  have e : (x + 18446744073709551616) * y = x * y + 18446744073709551616 * y := by rw [Int.add_mul]
  rw [e] at hhi hlo
  unfold mulHi mulLo
  generalize x * y = P at *
  simp only [IntKind.wrap_u64, wrap64]
  omega
theorem prod_pn {x y hi lo : Int} (hx : ¬ x < 0) (hx' : x ≤ 9223372036854775807) (hy : y < 0) (hy' : -9223372036854775808 ≤ y)
    (hhi : hi = IntKind.u64.wrap x * IntKind.u64.wrap y / 18446744073709551616) (hlo : lo = IntKind.u64.wrap x * IntKind.u64.wrap y % 18446744073709551616) :
    wrap64 (IntKind.u64.wrap (hi - IntKind.u64.wrap x)) = mulHi x y ∧ lo = mulLo x y := by
  rw [upos hx hx', uneg hy hy'] at *
  have e : x * (y + 18446744073709551616) = x * y + 18446744073709551616 * x := by rw [Int.mul_add]; omega
  rw [e] at hhi hlo
  unfold mulHi mulLo
  generalize x * y = P at *
  simp only [IntKind.wrap_u64, wrap64]
  omega
theorem prod_pp {x y hi lo : Int} (hx : ¬ x < 0) (hx' : x ≤ 9223372036854775807) (hy : ¬ y < 0) (hy' : y ≤ 9223372036854775807)
    (hhi : hi = IntKind.u64.wrap x * IntKind.u64.wrap y / 18446744073709551616) (hlo : lo = IntKind.u64.wrap x * IntKind.u64.wrap y % 18446744073709551616) :
    wrap64 hi = mulHi x y ∧ lo = mulLo x y := by
  rw [upos hx hx', upos hy hy'] at *
  exact ⟨by rw [hhi]; rfl, hlo⟩
theorem spec_same {x y hi lo : Int} (h : (x < 0) ↔ (y < 0)) (hhi : hi = absI x * absI y / 18446744073709551616) (hlo : lo = absI x * absI y % 18446744073709551616) : wrap64 hi = mulHi x y ∧ lo = mulLo x y := by
  have e : absI x * absI y = x * y := by
    unfold absI
    by_cases hx : x < 0
    · rw [if_pos hx, if_pos (h.1 hx), Int.neg_mul_neg]
    · rw [if_neg hx, if_neg (fun k => hx (h.2 k))]
  rw [e] at hhi hlo
  exact ⟨by rw [hhi]; rfl, hlo⟩
theorem spec_other {x y hi lo : Int} (h : ¬ ((x < 0) ↔ (y < 0))) (hhi : hi = absI x * absI y / 18446744073709551616) (hlo : lo = absI x * absI y % 18446744073709551616) : subHi 0 0 (wrap64 hi) lo = mulHi x y ∧ subLo 0 lo = mulLo x y := by
  have e : absI x * absI y = -(x * y) := by
    unfold absI
    by_cases hx : x < 0
    · have hy : ¬ y < 0 := fun k => h ⟨fun _ => k, fun _ => hx⟩
      rw [if_pos hx, if_neg hy, Int.neg_mul]
    · have hy : y < 0 := by
        apply Classical.byContradiction
        intro k
        exact h ⟨fun a => absurd a hx, fun a => absurd a k⟩
      rw [if_neg hx, if_pos hy, Int.mul_neg]
  rw [e] at hhi hlo
  unfold mulHi mulLo subHi subLo
  generalize x * y = P at *
  simp only [wrap64]
  constructor
  · split <;> omega
  · omega
theorem castq (x y : Nat) : ((x * y / 18446744073709551616 : Nat) : Int) = (x : Int) * (y : Int) / 18446744073709551616 ∧ ((x * y % 18446744073709551616 : Nat) : Int) = (x : Int) * (y : Int) % 18446744073709551616 := by
  rw [← Int.natCast_mul]
  generalize x * y = P
  omega
theorem mul64E (x y : Int) (hx : 0 ≤ x) (hx' : x ≤ 18446744073709551615) (hy : 0 ≤ y) (hy' : y ≤ 18446744073709551615) :
    ∃ hi lo : Int, (∀ w : World, Calls Tryd.prog 50 #[.int .u64 x, .int .u64 y] w fun e w' => e = .returned (.tuple #[.int .u64 hi, .int .u64 lo]) ∧ w = w') ∧ Hid (hi = x * y / 18446744073709551616) ∧ Hid (lo = x * y % 18446744073709551616) := by
  obtain ⟨x, rfl⟩ := Int.eq_ofNat_of_zero_le hx
  obtain ⟨y, rfl⟩ := Int.eq_ofNat_of_zero_le hy
  exact ⟨_, _, fun w => mul64N x y (by omega) (by omega) w, (castq x y).1, (castq x y).2⟩
theorem l1mulE (x y : Int) (hx : 0 ≤ x) (hx' : x ≤ 18446744073709551615) (hy : 0 ≤ y) (hy' : y ≤ 18446744073709551615) :
    ∃ hi lo : Int, (∀ w : World, Calls Tryd.prog 52 #[.int .u64 x, .int .u64 y] w fun e w' => e = .returned (.tuple #[.int .u64 hi, .int .u64 lo]) ∧ w = w') ∧ Hid (hi = x * y / 18446744073709551616) ∧ Hid (lo = x * y % 18446744073709551616) := by
  obtain ⟨x, rfl⟩ := Int.eq_ofNat_of_zero_le hx
  obtain ⟨y, rfl⟩ := Int.eq_ofNat_of_zero_le hy
  exact ⟨_, _, fun w => l1mulN x y (by omega) (by omega) w, (castq x y).1, (castq x y).2⟩
theorem u64_lo (x : Int) : 0 ≤ IntKind.u64.wrap x := by rw [IntKind.wrap_u64]; omega
theorem u64_hi (x : Int) : IntKind.u64.wrap x ≤ 18446744073709551615 := by rw [IntKind.wrap_u64]; omega
set_option maxHeartbeats 1000000 in
theorem product_c (x y : Int) (bx : -9223372036854775808 ≤ x) (bx' : x ≤ 9223372036854775807) (b_y : -9223372036854775808 ≤ y) (b_y' : y ≤ 9223372036854775807) (w : World) :
    Calls Tryd.prog 34 #[.int .i64 x, .int .i64 y] w fun e w' => e = .returned (.agg #[.int .i64 (mulHi x y), .int .u64 (mulLo x y)]) ∧ Below w.heap.size w w' := by
  obtain ⟨hi, lo, hc, hhi, hlo⟩ := mul64E (IntKind.u64.wrap x) (IntKind.u64.wrap y) (u64_lo _) (u64_hi _) (u64_lo _) (u64_hi _)
  have hc' := hid hc
  clear hc
  by_cases hx : x < 0
  · by_cases hy : y < 0
    · obtain ⟨e1, e2⟩ := prod_nn hx bx hy b_y hhi.out hlo.out
      have E1 := hid e1
      have E2 := hid e2
      clear e1 e2 hhi hlo bx bx' b_y b_y'
      go_enter Tryd.func34, Tryd.ntmps34
      go_wp2_with (go_at_call 50; refine (hc'.out _).mono ?_; rintro e w' ⟨rfl, rfl⟩)
      go_returns
      exact ⟨ret_pair E1.out E2.out, by go_grown⟩
    · obtain ⟨e1, e2⟩ := prod_np hx bx hy b_y' hhi.out hlo.out
      have E1 := hid e1
      have E2 := hid e2
      clear e1 e2 hhi hlo bx bx' b_y b_y'
      go_enter Tryd.func34, Tryd.ntmps34
      go_wp2_with (go_at_call 50; refine (hc'.out _).mono ?_; rintro e w' ⟨rfl, rfl⟩)
      go_returns
      exact ⟨ret_pair E1.out E2.out, by go_grown⟩
  · by_cases hy : y < 0
    · obtain ⟨e1, e2⟩ := prod_pn hx bx' hy b_y hhi.out hlo.out
      have E1 := hid e1
      have E2 := hid e2
      clear e1 e2 hhi hlo bx bx' b_y b_y'
      go_enter Tryd.func34, Tryd.ntmps34
      go_wp2_with (go_at_call 50; refine (hc'.out _).mono ?_; rintro e w' ⟨rfl, rfl⟩)
      go_returns
      exact ⟨ret_pair E1.out E2.out, by go_grown⟩
    · obtain ⟨e1, e2⟩ := prod_pp hx bx' hy b_y' hhi.out hlo.out
      have E1 := hid e1
      have E2 := hid e2
      clear e1 e2 hhi hlo bx bx' b_y b_y'
      go_enter Tryd.func34, Tryd.ntmps34
      go_wp2_with (go_at_call 50; refine (hc'.out _).mono ?_; rintro e w' ⟨rfl, rfl⟩)
      go_returns
      exact ⟨ret_pair E1.out E2.out, by go_grown⟩
theorem abs_c (n : Int) (b : -4611686018427387904 ≤ n) (b' : n ≤ 4611686018427387904) (w : World) : Calls Tryd.prog 53 #[.int .i64 n] w fun e w' => e = .returned (.int .u64 (absI n)) ∧ w = w' := by
  by_cases h : n < 0
  · have e : absI n = -n := by unfold absI; rw [if_pos h]
    go_enter Tryd.func53, Tryd.ntmps53
    go_wp2
    go_ret
    exact ⟨by first | rfl | (rw [e]; rfl), rfl⟩
  · have e : absI n = n := by unfold absI; rw [if_neg h]
    go_enter Tryd.func53, Tryd.ntmps53
    go_wp2
    go_ret
    exact ⟨by first | rfl | (rw [e]; rfl), rfl⟩
theorem abs_lo (n : Int) : 0 ≤ absI n := by unfold absI; split <;> omega
theorem abs_hi (n : Int) (b : -4611686018427387904 ≤ n) (b' : n ≤ 4611686018427387904) : absI n ≤ 18446744073709551615 := by unfold absI; split <;> omega
theorem subSpec_c (x0 y0 x1 y1 : Int) (w : World) (b0 : 0 ≤ y0) (b0' : y0 ≤ 18446744073709551615) (b1 : 0 ≤ y1) (b1' : y1 ≤ 18446744073709551615) :
    Calls Tryd.prog 27 #[.agg #[.int .i64 x0, .int .u64 y0], .agg #[.int .i64 x1, .int .u64 y1]] w fun e w' => e = .returned (.agg #[.int .i64 (subHi x0 y0 x1 y1), .int .u64 (subLo y0 y1)]) ∧ Below w.heap.size w w' := by
  by_cases h1 : y0 < y1
  · have hlo : Hid (IntKind.u64.wrap (y0 - y1) = subLo y0 y1) := by unfold subLo; show _ = _; rw [IntKind.wrap_u64]
    have hhi : Hid (wrap64 (wrap64 (x0 - x1) - 1) = subHi x0 y0 x1 y1) := by show _ = _; unfold subHi wrap64; rw [if_pos h1]; omega
    go_enter Tryd.func27, Tryd.ntmps27
    go_wp2
    go_returns
    exact ⟨ret_pair hhi.out hlo.out, by go_grown⟩
  · have hlo : Hid (y0 - y1 = subLo y0 y1) := by unfold subLo; show _ = _; omega
    have hhi : Hid (wrap64 (x0 - x1) = subHi x0 y0 x1 y1) := by show _ = _; unfold subHi; rw [if_neg h1]
    go_enter Tryd.func27, Tryd.ntmps27
    go_wp2
    go_returns
    exact ⟨ret_pair hhi.out hlo.out, by go_grown⟩
def sg (n : Int) : Int := if n < 0 then -1 else if 0 < n then 1 else 0
theorem signImpl_c (n : Int) (w : World) : Calls Tryd.prog 30 #[.int .i64 n] w fun e w' => e = .returned (.int .i64 (sg n)) ∧ w = w' := by
  by_cases h1 : n < 0
  · have e : sg n = -1 := by unfold sg; rw [if_pos h1]
    go_enter Tryd.func30, Tryd.ntmps30
    go_wp2
    go_ret
    exact ⟨by first | rfl | (rw [e]; rfl), rfl⟩
  · by_cases h2 : 0 < n
    · have e : sg n = 1 := by unfold sg; rw [if_neg h1, if_pos h2]
      go_enter Tryd.func30, Tryd.ntmps30
      go_wp2
      go_ret
      exact ⟨by first | rfl | (rw [e]; rfl), rfl⟩
    · have e : sg n = 0 := by unfold sg; rw [if_neg h1, if_neg h2]
      go_enter Tryd.func30, Tryd.ntmps30
      go_wp2
      go_ret
      exact ⟨by first | rfl | (rw [e]; rfl), rfl⟩
set_option maxHeartbeats 1000000 in
theorem l1MulWide_c (x y : Int) (bx : -4611686018427387904 ≤ x) (bx' : x ≤ 4611686018427387904) (b_y : -4611686018427387904 ≤ y) (b_y' : y ≤ 4611686018427387904) (w : World) :
    Calls Tryd.prog 39 #[.int .i64 x, .int .i64 y] w fun e w' => e = .returned (.agg #[.int .i64 (mulHi x y), .int .u64 (mulLo x y)]) ∧ Below w.heap.size w w' := by
  obtain ⟨hi, lo, hc, hhi, hlo⟩ := l1mulE (absI x) (absI y) (abs_lo _) (abs_hi _ bx bx') (abs_lo _) (abs_hi _ b_y b_y')
  have l0 : 0 ≤ lo := by have := hlo.out; omega
  have l1 : lo ≤ 18446744073709551615 := by have := hlo.out; omega
  have hc' := hid hc
  clear hc
  by_cases hx : x < 0
  · by_cases hy : y < 0
    · obtain ⟨e1, e2⟩ := spec_same ⟨fun _ => hy, fun _ => hx⟩ hhi.out hlo.out
      have E1 := hid e1
      have E2 := hid e2
      clear e1 e2 hhi hlo
      go_enter Tryd.func39, Tryd.ntmps39
      go_wp2_with (first | (go_at_call 53; refine (abs_c _ ?_ ?_ _).mono ?_; omega; omega; rintro e w' ⟨rfl, rfl⟩) | (go_at_call 52; refine (hc'.out _).mono ?_; rintro e w' ⟨rfl, rfl⟩))
      go_returns
      exact ⟨ret_pair E1.out E2.out, by go_grown⟩
    · obtain ⟨e1, e2⟩ := spec_other (fun h => hy (h.1 hx)) hhi.out hlo.out
      have dy : decide (y < 0) = false := decide_eq_false hy
      have E1 := hid e1
      have E2 := hid e2
      clear e1 e2 hhi hlo
      go_enter Tryd.func39, Tryd.ntmps39
      go_wp2_with (first | (go_at_call 53; refine (abs_c _ ?_ ?_ _).mono ?_; omega; omega; rintro e w' ⟨rfl, rfl⟩) | (go_at_call 52; refine (hc'.out _).mono ?_; rintro e w' ⟨rfl, rfl⟩) | (go_at_call 27; refine (subSpec_c _ _ _ _ _ ?_ ?_ ?_ ?_).mono ?_; omega; omega; omega; omega; rintro e w' ⟨rfl, hb⟩; have hc0 : w'.cell? ⟨w.heap.size, 0, none⟩ = some (.int .i64 0) := (hb.cell (by go_size)).trans (by go_simp); have hc1 : w'.cell? ⟨w.heap.size, 1, none⟩ = some (.int .u64 0) := (hb.cell (by go_size)).trans (by go_simp); have hf0 : w'.frozen? ⟨w.heap.size, 0, none⟩ = false := (hb.frozen (by go_size)).trans (by go_simp); have hf1 : w'.frozen? ⟨w.heap.size, 1, none⟩ = false := (hb.frozen (by go_size)).trans (by go_simp)))
      refine bodyPost_ret (v := .agg #[.int .i64 (subHi 0 0 (wrap64 hi) lo), .int .u64 (subLo 0 lo)]) (by simp [results, Tryd.results39, go_sem, hc0, hc1]) rfl ⟨ret_pair E1.out E2.out, ?_⟩
      exact (by go_grown : Below w.heap.size w _).trans (((hb.mono (by go_size)).setCell (by go_size) _).setCell (by go_size) _)
  · by_cases hy : y < 0
    · obtain ⟨e1, e2⟩ := spec_other (fun h => hx (h.2 hy)) hhi.out hlo.out
      have dx : decide (x < 0) = false := decide_eq_false hx
      have E1 := hid e1
      have E2 := hid e2
      clear e1 e2 hhi hlo
      go_enter Tryd.func39, Tryd.ntmps39
      go_wp2_with (first | (go_at_call 53; refine (abs_c _ ?_ ?_ _).mono ?_; omega; omega; rintro e w' ⟨rfl, rfl⟩) | (go_at_call 52; refine (hc'.out _).mono ?_; rintro e w' ⟨rfl, rfl⟩) | (go_at_call 27; refine (subSpec_c _ _ _ _ _ ?_ ?_ ?_ ?_).mono ?_; omega; omega; omega; omega; rintro e w' ⟨rfl, hb⟩; have hc0 : w'.cell? ⟨w.heap.size, 0, none⟩ = some (.int .i64 0) := (hb.cell (by go_size)).trans (by go_simp); have hc1 : w'.cell? ⟨w.heap.size, 1, none⟩ = some (.int .u64 0) := (hb.cell (by go_size)).trans (by go_simp); have hf0 : w'.frozen? ⟨w.heap.size, 0, none⟩ = false := (hb.frozen (by go_size)).trans (by go_simp); have hf1 : w'.frozen? ⟨w.heap.size, 1, none⟩ = false := (hb.frozen (by go_size)).trans (by go_simp)))
      refine bodyPost_ret (v := .agg #[.int .i64 (subHi 0 0 (wrap64 hi) lo), .int .u64 (subLo 0 lo)]) (by simp [results, Tryd.results39, go_sem, hc0, hc1]) rfl ⟨ret_pair E1.out E2.out, ?_⟩
      exact (by go_grown : Below w.heap.size w _).trans (((hb.mono (by go_size)).setCell (by go_size) _).setCell (by go_size) _)
    · obtain ⟨e1, e2⟩ := spec_same ⟨fun h => absurd h hx, fun h => absurd h hy⟩ hhi.out hlo.out
      have dx : decide (x < 0) = false := decide_eq_false hx
      have dy : decide (y < 0) = false := decide_eq_false hy
      have E1 := hid e1
      have E2 := hid e2
      clear e1 e2 hhi hlo
      go_enter Tryd.func39, Tryd.ntmps39
      go_wp2_with (first | (go_at_call 53; refine (abs_c _ ?_ ?_ _).mono ?_; omega; omega; rintro e w' ⟨rfl, rfl⟩) | (go_at_call 52; refine (hc'.out _).mono ?_; rintro e w' ⟨rfl, rfl⟩))
      go_returns
      exact ⟨ret_pair E1.out E2.out, by go_grown⟩
/-- The call of math/bits.Sub64, as the model runs it. -/
theorem sub64 (x y b : Nat) (hb : b ≤ 1) (w : World) :
    (callFunc 46 #[.int .u64 x, .int .u64 y, .int .u64 b]).run Tryd.prog w =
      .ok (.value (.tuple #[.int .u64 (((x + 18446744073709551616 - y - b) % 18446744073709551616 : Nat) : Int), .int .u64 ((if x < y + b then 1 else 0 : Nat) : Int)])) w := by
  rw [run_callFunc_extern Tryd.func46 (by kernel_rfl) (by kernel_rfl) (by kernel_rfl) (e := sub64Entry) (by kernel_rfl), run_sub64 x y b hb]
  rfl
theorem sub64I (x y b : Int) (hx : 0 ≤ x) (hy : 0 ≤ y) (hy' : y ≤ 18446744073709551615) (hb0 : 0 ≤ b) (hb : b ≤ 1) :
    ∃ d o : Int, (∀ w, (callFunc 46 #[.int .u64 x, .int .u64 y, .int .u64 b]).run Tryd.prog w = .ok (.value (.tuple #[.int .u64 d, .int .u64 o])) w) ∧ Hid (d = (x - y - b) % 18446744073709551616) ∧ o = if x < y + b then 1 else 0 := by
  obtain ⟨x, rfl⟩ := Int.eq_ofNat_of_zero_le hx
  obtain ⟨y, rfl⟩ := Int.eq_ofNat_of_zero_le hy
  obtain ⟨b, rfl⟩ := Int.eq_ofNat_of_zero_le hb0
  refine ⟨_, _, fun w => sub64 x y b (by omega) w, ?_, ?_⟩
  · show _ = _
    omega
  · split <;> split <;> omega
theorem hi_eq {x0 x1 d b : Int} (hd : d = (IntKind.u64.wrap x0 - IntKind.u64.wrap x1 - b) % 18446744073709551616) : wrap64 d = wrap64 (x0 - x1 - b) := by
  rw [IntKind.wrap_u64, IntKind.wrap_u64] at hd
  unfold wrap64
  omega
theorem subImpl_c (x0 y0 x1 y1 : Int) (w : World) (b0 : 0 ≤ y0) (b0' : y0 ≤ 18446744073709551615) (b1 : 0 ≤ y1) (b1' : y1 ≤ 18446744073709551615) :
    Calls Tryd.prog 24 #[.agg #[.int .i64 x0, .int .u64 y0], .agg #[.int .i64 x1, .int .u64 y1]] w fun e w' => e = .returned (.agg #[.int .i64 (subHi x0 y0 x1 y1), .int .u64 (subLo y0 y1)]) ∧ Below w.heap.size w w' := by
  obtain ⟨d, o, hrun, hd, ho⟩ := sub64I y0 y1 0 b0 (by omega) b1' (by omega) (by omega)
  have hlo : Hid (d = subLo y0 y1) := by have := hd.out; unfold subLo; show _ = _; omega
  by_cases h1 : y0 < y1
  · rw [if_pos (by omega)] at ho
    subst ho
    obtain ⟨d2, o2, hrun2, hd2, ho2⟩ := sub64I (IntKind.u64.wrap x0) (IntKind.u64.wrap x1) 1 (u64_lo _) (u64_lo _) (u64_hi _) (by omega) (by omega)
    clear ho2 hd
    have hhi : Hid (wrap64 d2 = subHi x0 y0 x1 y1) := by
      show _ = _
      rw [hi_eq hd2.out]; unfold subHi; rw [if_pos h1]
    go_enter Tryd.func24, Tryd.ntmps24
    go_wp2
    go_returns
    exact ⟨ret_pair hhi.out hlo.out, by go_grown⟩
  · rw [if_neg (by omega)] at ho
    subst ho
    obtain ⟨d2, o2, hrun2, hd2, ho2⟩ := sub64I (IntKind.u64.wrap x0) (IntKind.u64.wrap x1) 0 (u64_lo _) (u64_lo _) (u64_hi _) (by omega) (by omega)
    clear ho2 hd
    have hhi : Hid (wrap64 d2 = subHi x0 y0 x1 y1) := by
      show _ = _
      rw [hi_eq hd2.out]; unfold subHi; rw [if_neg h1, Int.sub_zero]
    go_enter Tryd.func24, Tryd.ntmps24
    go_wp2
    go_returns
    exact ⟨ret_pair hhi.out hlo.out, by go_grown⟩
def sgP (hi lo : Int) : Int := if hi < 0 then -1 else if 0 < hi ∨ 0 < lo then 1 else 0
theorem signOfSpec_c (x y : Int) (b0 : 0 ≤ y) (w : World) : Calls Tryd.prog 28 #[.agg #[.int .i64 x, .int .u64 y]] w fun e w' => e = .returned (.int .i64 (sgP x y)) ∧ Below w.heap.size w w' := by
  by_cases h1 : x < 0
  · have e : sgP x y = -1 := by unfold sgP; rw [if_pos h1]
    have h2 : ¬ 0 < x := by omega
    have h3 : (x == 0) = false := by simp; omega
    go_enter Tryd.func28, Tryd.ntmps28
    go_wp2
    go_ret
    exact ⟨by first | rfl | (rw [e]; rfl), by go_grown⟩
  · by_cases h2 : 0 < x
    · have e : sgP x y = 1 := by unfold sgP; rw [if_neg h1, if_pos (.inl h2)]
      have h3 : (x == 0) = false := by simp; omega
      go_enter Tryd.func28, Tryd.ntmps28
      go_wp2
      go_ret
      exact ⟨by first | rfl | (rw [e]; rfl), by go_grown⟩
    · obtain rfl : x = 0 := by omega
      by_cases h4 : 0 < y
      · have e : sgP 0 y = 1 := by unfold sgP; rw [if_neg h1, if_pos (.inr h4)]
        have h5 : (y == 0) = false := by simp; omega
        go_enter Tryd.func28, Tryd.ntmps28
        go_wp2
        go_ret
        exact ⟨by first | rfl | (rw [e]; rfl), by go_grown⟩
      · obtain rfl : y = 0 := by omega
        have e : sgP 0 0 = 0 := by unfold sgP; rw [if_neg h1, if_neg (by omega)]
        go_enter Tryd.func28, Tryd.ntmps28
        go_wp2
        go_ret
        exact ⟨by first | rfl | (rw [e]; rfl), by go_grown⟩
theorem signOfImpl_c (x y : Int) (b0 : 0 ≤ y) (w : World) : Calls Tryd.prog 23 #[.agg #[.int .i64 x, .int .u64 y]] w fun e w' => e = .returned (.int .i64 (sgP x y)) ∧ Below w.heap.size w w' := by
  by_cases h1 : x < 0
  · have e : sgP x y = -1 := by unfold sgP; rw [if_pos h1]
    have h2 : ¬ 0 < x := by omega
    have h3 : (x == 0) = false := by simp; omega
    go_enter Tryd.func23, Tryd.ntmps23
    go_wp2
    go_ret
    exact ⟨by first | rfl | (rw [e]; rfl), by go_grown⟩
  · by_cases h2 : 0 < x
    · have e : sgP x y = 1 := by unfold sgP; rw [if_neg h1, if_pos (.inl h2)]
      have h3 : (x == 0) = false := by simp; omega
      go_enter Tryd.func23, Tryd.ntmps23
      go_wp2
      go_ret
      exact ⟨by first | rfl | (rw [e]; rfl), by go_grown⟩
    · obtain rfl : x = 0 := by omega
      by_cases h4 : 0 < y
      · have e : sgP 0 y = 1 := by unfold sgP; rw [if_neg h1, if_pos (.inr h4)]
        have h5 : (y == 0) = false := by simp; omega
        go_enter Tryd.func23, Tryd.ntmps23
        go_wp2
        go_ret
        exact ⟨by first | rfl | (rw [e]; rfl), by go_grown⟩
      · obtain rfl : y = 0 := by omega
        have e : sgP 0 0 = 0 := by unfold sgP; rw [if_neg h1, if_neg (by omega)]
        go_enter Tryd.func23, Tryd.ntmps23
        go_wp2
        go_ret
        exact ⟨by first | rfl | (rw [e]; rfl), by go_grown⟩
def inW (n : Int) : Bool := decide (-1099511627776 ≤ n ∧ n ≤ 1099511627776)
theorem inW_b {n : Int} (h : inW n = true) : -1099511627776 ≤ n ∧ n ≤ 1099511627776 := of_decide_eq_true h
theorem l1In_c (n : Int) (w : World) : Calls Tryd.prog 38 #[.int .i64 n, .int .i64 (-1099511627776), .int .i64 1099511627776] w fun e w' => e = .returned (.bool (inW n)) ∧ w = w' := by
  by_cases h1 : -1099511627776 ≤ n
  · by_cases h2 : n ≤ 1099511627776
    · have e : inW n = true := decide_eq_true (by omega)
      go_enter Tryd.func38, Tryd.ntmps38
      go_wp2
      go_ret
      exact ⟨by first | rfl | (rw [e]; rfl), rfl⟩
    · have e : inW n = false := decide_eq_false (by omega)
      go_enter Tryd.func38, Tryd.ntmps38
      go_wp2
      go_ret
      exact ⟨by first | rfl | (rw [e]; rfl), rfl⟩
  · have e : inW n = false := decide_eq_false (by omega)
    go_enter Tryd.func38, Tryd.ntmps38
    go_wp2
    go_ret
    exact ⟨by first | rfl | (rw [e]; rfl), rfl⟩
theorem inB1_c (n : Int) (w : World) (c1 : w.cell? ⟨0, 1, none⟩ = some (.int .i64 1099511627776)) : Calls Tryd.prog 44 #[.int .i64 n, .int .i64 1] w fun e w' => e = .returned (.bool (inW n)) ∧ w = w' := by
  have hz : 0 < w.heap.size := World.block_lt_of_cell? w _ c1
  by_cases h1 : -1099511627776 ≤ n
  · by_cases h2 : n ≤ 1099511627776
    · have e : inW n = true := decide_eq_true (by omega)
      go_enter Tryd.func44, Tryd.ntmps44
      go_wp2
      go_ret
      exact ⟨by first | rfl | (rw [e]; rfl), rfl⟩
    · have e : inW n = false := decide_eq_false (by omega)
      go_enter Tryd.func44, Tryd.ntmps44
      go_wp2
      go_ret
      exact ⟨by first | rfl | (rw [e]; rfl), rfl⟩
  · have e : inW n = false := decide_eq_false (by omega)
    go_enter Tryd.func44, Tryd.ntmps44
    go_wp2
    go_ret
    exact ⟨by first | rfl | (rw [e]; rfl), rfl⟩
theorem pointIn_c (x y : Int) (w : World) (c1 : w.cell? ⟨0, 1, none⟩ = some (.int .i64 1099511627776)) : Calls Tryd.prog 33 #[.agg #[.int .i64 x, .int .i64 y], .int .i64 1] w fun e w' => e = .returned (.bool (inW x && inW y)) ∧ w.alloc (.cells #[.int .i64 x, .int .i64 y] 25) = w' := by
  have C1 := hid c1
  clear c1
  cases hX : inW x
  · go_enter Tryd.func33, Tryd.ntmps33
    go_wp2_with (go_at_call 44; refine (inB1_c _ _ ?_).mono ?_; exact cell_later (by go_grown : Below w.heap.size w _) C1.out; rintro e w' ⟨rfl, rfl⟩)
    go_ret
    exact ⟨rfl, rfl⟩
  · go_enter Tryd.func33, Tryd.ntmps33
    go_wp2_with (go_at_call 44; refine (inB1_c _ _ ?_).mono ?_; exact cell_later (by go_grown : Below w.heap.size w _) C1.out; rintro e w' ⟨rfl, rfl⟩)
    go_ret
    exact ⟨rfl, rfl⟩
def swOk (ax ay bx b_y cx cy : Int) : Bool := (inW ax && inW ay) && (inW bx && inW b_y) && (inW cx && inW cy)
def swS (ax ay bx b_y cx cy : Int) : Int := sgP (subHi (mulHi (bx - ax) (cy - ay)) (mulLo (bx - ax) (cy - ay)) (mulHi (b_y - ay) (cx - ax)) (mulLo (b_y - ay) (cx - ax))) (subLo (mulLo (bx - ax) (cy - ay)) (mulLo (b_y - ay) (cx - ax)))
def swN (ax ay bx b_y cx cy : Int) : Int := if swOk ax ay bx b_y cx cy then swS ax ay bx b_y cx cy else 0
theorem mulLo_b (x y : Int) : 0 ≤ mulLo x y ∧ mulLo x y ≤ 18446744073709551615 := by unfold mulLo; omega
theorem subLo_b (x y : Int) : 0 ≤ subLo x y := by unfold subLo; omega
theorem ret_ib {a b : Int} {c d : Bool} (h : a = b) (k : c = d) : Ending.returned (.tuple #[.int .i64 a, .bool c]) = .returned (.tuple #[.int .i64 b, .bool d]) := by rw [h, k]
def wideB (n : Int) : Bool := decide (-4398046511104 ≤ n ∧ n ≤ 4398046511104)
theorem l1Wide_c (n : Int) (w : World) : Calls Tryd.prog 45 #[.int .i64 n] w fun e w' => e = .returned (.bool (wideB n)) ∧ w = w' := by
  by_cases h1 : -4398046511104 ≤ n
  · by_cases h2 : n ≤ 4398046511104
    · have e : wideB n = true := decide_eq_true (by omega)
      go_enter Tryd.func45, Tryd.ntmps45
      go_wp2
      go_ret
      exact ⟨by first | rfl | (rw [e]; rfl), rfl⟩
    · have e : wideB n = false := decide_eq_false (by omega)
      go_enter Tryd.func45, Tryd.ntmps45
      go_wp2
      go_ret
      exact ⟨by first | rfl | (rw [e]; rfl), rfl⟩
  · have e : wideB n = false := decide_eq_false (by omega)
    go_enter Tryd.func45, Tryd.ntmps45
    go_wp2
    go_ret
    exact ⟨by first | rfl | (rw [e]; rfl), rfl⟩
theorem inB2_c (n : Int) (w : World) (c2 : w.cell? ⟨0, 2, none⟩ = some (.int .i64 4398046511104)) : Calls Tryd.prog 44 #[.int .i64 n, .int .i64 2] w fun e w' => e = .returned (.bool (wideB n)) ∧ w = w' := by
  have hz : 0 < w.heap.size := World.block_lt_of_cell? w _ c2
  by_cases h1 : -4398046511104 ≤ n
  · by_cases h2 : n ≤ 4398046511104
    · have e : wideB n = true := decide_eq_true (by omega)
      go_enter Tryd.func44, Tryd.ntmps44
      go_wp2
      go_ret
      exact ⟨by first | rfl | (rw [e]; rfl), rfl⟩
    · have e : wideB n = false := decide_eq_false (by omega)
      go_enter Tryd.func44, Tryd.ntmps44
      go_wp2
      go_ret
      exact ⟨by first | rfl | (rw [e]; rfl), rfl⟩
  · have e : wideB n = false := decide_eq_false (by omega)
    go_enter Tryd.func44, Tryd.ntmps44
    go_wp2
    go_ret
    exact ⟨by first | rfl | (rw [e]; rfl), rfl⟩
theorem wideB_b {n : Int} (h : wideB n = true) : -4398046511104 ≤ n ∧ n ≤ 4398046511104 := of_decide_eq_true h
def mwOk (x y : Int) : Bool := wideB x && wideB y
def mwHi (x y : Int) : Int := if mwOk x y then mulHi x y else 0
def mwLo (x y : Int) : Int := if mwOk x y then mulLo x y else 0
theorem ret_pb {a b c d : Int} {e f : Bool} (h : a = c) (k : b = d) (g : e = f) : Ending.returned (.tuple #[.agg #[.int .i64 a, .int .u64 b], .bool e]) = .returned (.tuple #[.agg #[.int .i64 c, .int .u64 d], .bool f]) := by rw [h, k, g]
set_option maxHeartbeats 1000000 in
theorem mulWideSpec_c (x y : Int) (w : World) : Calls Tryd.prog 22 #[.int .i64 x, .int .i64 y] w fun e w' => e = .returned (.tuple #[.agg #[.int .i64 (mwHi x y), .int .u64 (mwLo x y)], .bool (mwOk x y)]) ∧ Below w.heap.size w w' := by
  cases hX : wideB x
  · have e0 : mwOk x y = false := by simp [mwOk, hX]
    have e1 : mwHi x y = 0 := by unfold mwHi; rw [e0]; rfl
    have e2 : mwLo x y = 0 := by unfold mwLo; rw [e0]; rfl
    have E := hid (And.intro e0 (And.intro e1 e2))
    clear e0 e1 e2
    go_enter Tryd.func22, Tryd.ntmps22
    go_wp2_with (first | (go_at_call 45; refine (l1Wide_c _ _).mono ?_; rintro e w' ⟨rfl, rfl⟩) | (go_at_call 39; refine (l1MulWide_c _ _ ?_ ?_ ?_ ?_ _).mono ?_; omega; omega; omega; omega; rintro e w' ⟨rfl, hb⟩; have hc0 : w'.cell? ⟨w.heap.size, 0, none⟩ = some (.int .i64 0) := (hb.cell (by go_size)).trans (by go_simp); have hc1 : w'.cell? ⟨w.heap.size, 1, none⟩ = some (.int .u64 0) := (hb.cell (by go_size)).trans (by go_simp); have hf0 : w'.frozen? ⟨w.heap.size, 0, none⟩ = false := (hb.frozen (by go_size)).trans (by go_simp); have hf1 : w'.frozen? ⟨w.heap.size, 1, none⟩ = false := (hb.frozen (by go_size)).trans (by go_simp)))
    go_returns
    exact ⟨ret_pb E.out.2.1.symm E.out.2.2.symm E.out.1.symm, by go_grown⟩
  · cases hY : wideB y
    · have e0 : mwOk x y = false := by simp [mwOk, hX, hY]
      have e1 : mwHi x y = 0 := by unfold mwHi; rw [e0]; rfl
      have e2 : mwLo x y = 0 := by unfold mwLo; rw [e0]; rfl
      have E := hid (And.intro e0 (And.intro e1 e2))
      clear e0 e1 e2
      go_enter Tryd.func22, Tryd.ntmps22
      go_wp2_with (first | (go_at_call 45; refine (l1Wide_c _ _).mono ?_; rintro e w' ⟨rfl, rfl⟩) | (go_at_call 39; refine (l1MulWide_c _ _ ?_ ?_ ?_ ?_ _).mono ?_; omega; omega; omega; omega; rintro e w' ⟨rfl, hb⟩; have hc0 : w'.cell? ⟨w.heap.size, 0, none⟩ = some (.int .i64 0) := (hb.cell (by go_size)).trans (by go_simp); have hc1 : w'.cell? ⟨w.heap.size, 1, none⟩ = some (.int .u64 0) := (hb.cell (by go_size)).trans (by go_simp); have hf0 : w'.frozen? ⟨w.heap.size, 0, none⟩ = false := (hb.frozen (by go_size)).trans (by go_simp); have hf1 : w'.frozen? ⟨w.heap.size, 1, none⟩ = false := (hb.frozen (by go_size)).trans (by go_simp)))
      go_returns
      exact ⟨ret_pb E.out.2.1.symm E.out.2.2.symm E.out.1.symm, by go_grown⟩
    · have e0 : mwOk x y = true := by simp [mwOk, hX, hY]
      have e1 : mwHi x y = mulHi x y := by unfold mwHi; rw [e0]; rfl
      have e2 : mwLo x y = mulLo x y := by unfold mwLo; rw [e0]; rfl
      obtain ⟨bx, bx'⟩ := wideB_b hX
      obtain ⟨b_y, b_y'⟩ := wideB_b hY
      have E := hid (And.intro e0 (And.intro e1 e2))
      clear e0 e1 e2
      go_enter Tryd.func22, Tryd.ntmps22
      go_wp2_with (first | (go_at_call 45; refine (l1Wide_c _ _).mono ?_; rintro e w' ⟨rfl, rfl⟩) | (go_at_call 39; refine (l1MulWide_c _ _ ?_ ?_ ?_ ?_ _).mono ?_; omega; omega; omega; omega; rintro e w' ⟨rfl, hb⟩; have hc0 : w'.cell? ⟨w.heap.size, 0, none⟩ = some (.int .i64 0) := (hb.cell (by go_size)).trans (by go_simp); have hc1 : w'.cell? ⟨w.heap.size, 1, none⟩ = some (.int .u64 0) := (hb.cell (by go_size)).trans (by go_simp); have hf0 : w'.frozen? ⟨w.heap.size, 0, none⟩ = false := (hb.frozen (by go_size)).trans (by go_simp); have hf1 : w'.frozen? ⟨w.heap.size, 1, none⟩ = false := (hb.frozen (by go_size)).trans (by go_simp)))
      refine bodyPost_ret (v := .tuple #[.agg #[.int .i64 (mulHi x y), .int .u64 (mulLo x y)], .bool true]) (by simp [results, Tryd.results22, go_sem, hc0, hc1]) rfl ⟨ret_pb E.out.2.1.symm E.out.2.2.symm E.out.1.symm, ?_⟩
      exact (by go_grown : Below w.heap.size w _).trans (((hb.mono (by go_size)).setCell (by go_size) _).setCell (by go_size) _)
set_option maxHeartbeats 1000000 in
theorem mulWideImpl_c (x y : Int) (w : World) (c2 : w.cell? ⟨0, 2, none⟩ = some (.int .i64 4398046511104)) : Calls Tryd.prog 21 #[.int .i64 x, .int .i64 y] w fun e w' => e = .returned (.tuple #[.agg #[.int .i64 (mwHi x y), .int .u64 (mwLo x y)], .bool (mwOk x y)]) ∧ Below w.heap.size w w' := by
  have C2 := hid c2
  clear c2
  cases hX : wideB x
  · have e0 : mwOk x y = false := by simp [mwOk, hX]
    have e1 : mwHi x y = 0 := by unfold mwHi; rw [e0]; rfl
    have e2 : mwLo x y = 0 := by unfold mwLo; rw [e0]; rfl
    have E := hid (And.intro e0 (And.intro e1 e2))
    clear e0 e1 e2
    go_enter Tryd.func21, Tryd.ntmps21
    go_wp2_with (first | (go_at_call 44; refine (inB2_c _ _ ?_).mono ?_; exact cell_later (by go_grown : Below w.heap.size w _) C2.out; rintro e w' ⟨rfl, rfl⟩) | (go_at_call 34; refine (product_c _ _ ?_ ?_ ?_ ?_ _).mono ?_; omega; omega; omega; omega; rintro e w' ⟨rfl, hb⟩; have hc0 : w'.cell? ⟨w.heap.size, 0, none⟩ = some (.int .i64 0) := (hb.cell (by go_size)).trans (by go_simp); have hc1 : w'.cell? ⟨w.heap.size, 1, none⟩ = some (.int .u64 0) := (hb.cell (by go_size)).trans (by go_simp); have hf0 : w'.frozen? ⟨w.heap.size, 0, none⟩ = false := (hb.frozen (by go_size)).trans (by go_simp); have hf1 : w'.frozen? ⟨w.heap.size, 1, none⟩ = false := (hb.frozen (by go_size)).trans (by go_simp)))
    go_returns
    exact ⟨ret_pb E.out.2.1.symm E.out.2.2.symm E.out.1.symm, by go_grown⟩
  · cases hY : wideB y
    · have e0 : mwOk x y = false := by simp [mwOk, hX, hY]
      have e1 : mwHi x y = 0 := by unfold mwHi; rw [e0]; rfl
      have e2 : mwLo x y = 0 := by unfold mwLo; rw [e0]; rfl
      have E := hid (And.intro e0 (And.intro e1 e2))
      clear e0 e1 e2
      go_enter Tryd.func21, Tryd.ntmps21
      go_wp2_with (first | (go_at_call 44; refine (inB2_c _ _ ?_).mono ?_; exact cell_later (by go_grown : Below w.heap.size w _) C2.out; rintro e w' ⟨rfl, rfl⟩) | (go_at_call 34; refine (product_c _ _ ?_ ?_ ?_ ?_ _).mono ?_; omega; omega; omega; omega; rintro e w' ⟨rfl, hb⟩; have hc0 : w'.cell? ⟨w.heap.size, 0, none⟩ = some (.int .i64 0) := (hb.cell (by go_size)).trans (by go_simp); have hc1 : w'.cell? ⟨w.heap.size, 1, none⟩ = some (.int .u64 0) := (hb.cell (by go_size)).trans (by go_simp); have hf0 : w'.frozen? ⟨w.heap.size, 0, none⟩ = false := (hb.frozen (by go_size)).trans (by go_simp); have hf1 : w'.frozen? ⟨w.heap.size, 1, none⟩ = false := (hb.frozen (by go_size)).trans (by go_simp)))
      go_returns
      exact ⟨ret_pb E.out.2.1.symm E.out.2.2.symm E.out.1.symm, by go_grown⟩
    · have e0 : mwOk x y = true := by simp [mwOk, hX, hY]
      have e1 : mwHi x y = mulHi x y := by unfold mwHi; rw [e0]; rfl
      have e2 : mwLo x y = mulLo x y := by unfold mwLo; rw [e0]; rfl
      obtain ⟨bx, bx'⟩ := wideB_b hX
      obtain ⟨b_y, b_y'⟩ := wideB_b hY
      have E := hid (And.intro e0 (And.intro e1 e2))
      clear e0 e1 e2
      go_enter Tryd.func21, Tryd.ntmps21
      go_wp2_with (first | (go_at_call 44; refine (inB2_c _ _ ?_).mono ?_; exact cell_later (by go_grown : Below w.heap.size w _) C2.out; rintro e w' ⟨rfl, rfl⟩) | (go_at_call 34; refine (product_c _ _ ?_ ?_ ?_ ?_ _).mono ?_; omega; omega; omega; omega; rintro e w' ⟨rfl, hb⟩; have hc0 : w'.cell? ⟨w.heap.size, 0, none⟩ = some (.int .i64 0) := (hb.cell (by go_size)).trans (by go_simp); have hc1 : w'.cell? ⟨w.heap.size, 1, none⟩ = some (.int .u64 0) := (hb.cell (by go_size)).trans (by go_simp); have hf0 : w'.frozen? ⟨w.heap.size, 0, none⟩ = false := (hb.frozen (by go_size)).trans (by go_simp); have hf1 : w'.frozen? ⟨w.heap.size, 1, none⟩ = false := (hb.frozen (by go_size)).trans (by go_simp)))
      refine bodyPost_ret (v := .tuple #[.agg #[.int .i64 (mulHi x y), .int .u64 (mulLo x y)], .bool true]) (by simp [results, Tryd.results21, go_sem, hc0, hc1]) rfl ⟨ret_pb E.out.2.1.symm E.out.2.2.symm E.out.1.symm, ?_⟩
      exact (by go_grown : Below w.heap.size w _).trans (((hb.mono (by go_size)).setCell (by go_size) _).setCell (by go_size) _)
end Go.Proofs.YtgnlkjpnkbpbjaaDoor
