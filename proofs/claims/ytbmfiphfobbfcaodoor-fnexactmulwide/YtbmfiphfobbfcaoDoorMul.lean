/-
  Products in two words: what math/bits.Mul64, the specification's l1Mul, impl.product and the small functions around them answer (contracts for the walks).
  Conditions: the numbers' bounds, as each theorem states them.
-/
import Derived.Test.YtbmfiphfobbfcaoDoorRows
import Derived.WalkKit
import Derived.ProofKit
import Derived.OpenShut
import Derived.Handy
import Derived.WalkSpells
import Derived.Lib.Mul64
import Derived.Laws.Bits64b
import Derived.Shelf.Bits.Mul64
namespace Go.Proofs.YtbmfiphfobbfcaoDoor
open Go.RowKit Go.Lib
set_option linter.unusedVariables false
theorem hid {p : Prop} (h : p) : Hid p := h
/-- The school method on halves of 32 bits: of the four products nothing wraps, and what it makes is the product's two words. -/
theorem school (x y a b c d : Nat) (hx : x < 18446744073709551616) (hy : y < 18446744073709551616) (ea : x / 4294967296 * (y / 4294967296) = a) (eb : x / 4294967296 * (y % 4294967296) = b) (ec : x % 4294967296 * (y / 4294967296) = c) (ed : x % 4294967296 * (y % 4294967296) = d) :
    (a < 18446744073709551616 ∧ b < 18446744073709551616 ∧ c < 18446744073709551616 ∧ d < 18446744073709551616) ∧ b + d / 4294967296 < 18446744073709551616 ∧ c + (b + d / 4294967296) % 4294967296 < 18446744073709551616 ∧ a + (b + d / 4294967296) / 4294967296 < 18446744073709551616 ∧
      a + (b + d / 4294967296) / 4294967296 + (c + (b + d / 4294967296) % 4294967296) / 4294967296 = x * y / 18446744073709551616 ∧
      x * y / 18446744073709551616 < 18446744073709551616 ∧ (c + (b + d / 4294967296) % 4294967296) % 4294967296 * 4294967296 + d % 4294967296 = x * y % 18446744073709551616 := by
  have e := Lib.split_mul (x / 4294967296) (x % 4294967296) (y / 4294967296) (y % 4294967296) 4294967296
  rw [Nat.div_add_mod', Nat.div_add_mod', ea, eb, ec, ed] at e
  have ka := Lib.half_mul_le (a := x / 4294967296) (b := y / 4294967296) (by omega) (by omega)
  have kb := Lib.half_mul_le (a := x / 4294967296) (b := y % 4294967296) (by omega) (by omega)
  have kc := Lib.half_mul_le (a := x % 4294967296) (b := y / 4294967296) (by omega) (by omega)
  have kd := Lib.half_mul_le (a := x % 4294967296) (b := y % 4294967296) (by omega) (by omega)
  rw [ea] at ka
  rw [eb] at kb
  rw [ec] at kc
  rw [ed] at kd
  rw [e]
  clear e ea eb ec ed hx hy
  omega
set_option maxHeartbeats 1000000 in
theorem mul64N (x y : Nat) (hx : x < 18446744073709551616) (hy : y < 18446744073709551616) (w : World) :
    Calls Tryd.prog 32 #[.int .u64 x, .int .u64 y] w fun e w' => e = .returned (.tuple #[.int .u64 ((x * y / 18446744073709551616 : Nat) : Int), .int .u64 ((x * y % 18446744073709551616 : Nat) : Int)]) ∧ w = w' := by
  have H := hid (school x y _ _ _ _ hx hy rfl rfl rfl rfl)
  go_enter Tryd.func32, Tryd.ntmps32
  go_wp2
  obtain ⟨⟨ka, kb, kc, kd⟩, kt, kw, kh, hhi, kq, _⟩ := H.out
  rw [Nat.add_comm (x % 4294967296 * (y / 4294967296))] at kw hhi
  have kz := hhi ▸ kq
  simp only [Mul64.maskN x hx, Mul64.maskN y hy, Mul64.divN, Mul64.mulN, Mul64.addN, Mul64.wrapN _ ka, Mul64.wrapN _ kb, Mul64.wrapN _ kc, Mul64.wrapN _ kd, Mul64.wrapN _ kt, Mul64.maskN _ kt, Mul64.wrapN _ kw, Mul64.wrapN _ kh, Mul64.wrapN _ kz, Mul64.wrapM (x * y)]
  rw [hhi]
  go_ret2
  exact ⟨rfl, rfl⟩
theorem orN (o d : Nat) (hd : d < 4294967296) : bits .or .u64 (((o * 4294967296 % 18446744073709551616 : Nat) : Int)) (d : Int) = ((o % 4294967296 * 4294967296 + d : Nat) : Int) := by
  have e0 : o * 4294967296 % 18446744073709551616 = o % 4294967296 * 4294967296 := by omega
  have e : (o % 4294967296 * 4294967296) ||| d = o % 4294967296 * 4294967296 + d := by
    have := Nat.shiftLeft_add_eq_or_of_lt (i := 32) (b := d) (by omega) (o % 4294967296)
    rw [Nat.shiftLeft_eq] at this
    exact this.symm
  rw [e0, bits_or_u64_nat (o % 4294967296 * 4294967296) d (by omega) (by omega), e]
set_option maxHeartbeats 1000000 in
theorem l1mulN (x y : Nat) (hx : x < 18446744073709551616) (hy : y < 18446744073709551616) (w : World) :
    Calls Tryd.prog 29 #[.int .u64 x, .int .u64 y] w fun e w' => e = .returned (.tuple #[.int .u64 ((x * y / 18446744073709551616 : Nat) : Int), .int .u64 ((x * y % 18446744073709551616 : Nat) : Int)]) ∧ w = w' := by
  have H := hid (school x y _ _ _ _ hx hy rfl rfl rfl rfl)
  go_enter Tryd.func29, Tryd.ntmps29
  go_wp2
  obtain ⟨⟨ka, kb, kc, kd⟩, kt, kw, kh, hhi, kq, hlo⟩ := H.out
  have kz := hhi ▸ kq
  simp only [Mul64.maskN x hx, Mul64.maskN y hy, Mul64.divN, Mul64.mulN, Mul64.addN, Mul64.wrapN _ ka, Mul64.wrapN _ kb, Mul64.wrapN _ kc, Mul64.wrapN _ kd, Mul64.wrapN _ kt, Mul64.maskN _ kt, Mul64.maskN _ kd, Mul64.wrapN _ kw, Mul64.wrapN _ kh, Mul64.wrapN _ kz]
  rw [hhi]
  go_ret2
  refine ⟨?_, rfl⟩
  have eo : ∀ o : Nat, IntKind.u64.wrap ((o : Int) * 4294967296) = ((o * 4294967296 % 18446744073709551616 : Nat) : Int) := fun o => by rw [IntKind.wrap_u64]; omega
  have ret : ∀ {a b : Int}, a = b → Ending.returned (.tuple #[.int .u64 ((x * y / 18446744073709551616 : Nat) : Int), .int .u64 a]) = .returned (.tuple #[.int .u64 ((x * y / 18446744073709551616 : Nat) : Int), .int .u64 b]) := fun h => by rw [h]
  exact ret (by rw [eo, orN _ _ (by omega), hlo])
def mulHi (x y : Int) : Int := wrap64 (x * y / 18446744073709551616)
def mulLo (x y : Int) : Int := x * y % 18446744073709551616
def absI (x : Int) : Int := if x < 0 then -x else x
theorem ret_pair {a b c d : Int} (h : a = c) (k : b = d) : Ending.returned (.agg #[.int .i64 a, .int .u64 b]) = .returned (.agg #[.int .i64 c, .int .u64 d]) := by rw [h, k]
def subLo (y0 y1 : Int) : Int := (y0 - y1) % 18446744073709551616
def subHi (x0 y0 x1 y1 : Int) : Int := if y0 < y1 then wrap64 (x0 - x1 - 1) else wrap64 (x0 - x1)
theorem uneg {x : Int} (h : x < 0) (h' : -9223372036854775808 ≤ x) : IntKind.u64.wrap x = x + 18446744073709551616 := by rw [IntKind.wrap_u64]; omega
theorem upos {x : Int} (h : ¬ x < 0) (h' : x ≤ 9223372036854775807) : IntKind.u64.wrap x = x := by rw [IntKind.wrap_u64]; omega
theorem prod_nn {x y hi lo : Int} (hx : x < 0) (hx' : -9223372036854775808 ≤ x) (hy : y < 0) (hy' : -9223372036854775808 ≤ y)
    (hhi : hi = IntKind.u64.wrap x * IntKind.u64.wrap y / 18446744073709551616) (hlo : lo = IntKind.u64.wrap x * IntKind.u64.wrap y % 18446744073709551616) :
    wrap64 (IntKind.u64.wrap (IntKind.u64.wrap (hi - IntKind.u64.wrap y) - IntKind.u64.wrap x)) = mulHi x y ∧ lo = mulLo x y := by
  rw [uneg hx hx', uneg hy hy'] at *
  have e : (x + 18446744073709551616) * (y + 18446744073709551616) = x * y + 18446744073709551616 * x + 18446744073709551616 * y + 18446744073709551616 * 18446744073709551616 := by rw [Int.add_mul, Int.mul_add, Int.mul_add]; omega
  rw [e] at hhi hlo
  unfold mulHi mulLo
  generalize x * y = P at *
  simp only [IntKind.wrap_u64, wrap64]
  omega
theorem prod_np {x y hi lo : Int} (hx : x < 0) (hx' : -9223372036854775808 ≤ x) (hy : ¬ y < 0) (hy' : y ≤ 9223372036854775807)
    (hhi : hi = IntKind.u64.wrap x * IntKind.u64.wrap y / 18446744073709551616) (hlo : lo = IntKind.u64.wrap x * IntKind.u64.wrap y % 18446744073709551616) :
    wrap64 (IntKind.u64.wrap (hi - IntKind.u64.wrap y)) = mulHi x y ∧ lo = mulLo x y := by
  rw [uneg hx hx', upos hy hy'] at *
  have e : (x + 18446744073709551616) * y = x * y + 18446744073709551616 * y := by rw [Int.add_mul]
  rw [e] at hhi hlo
  unfold mulHi mulLo
  generalize x * y = P at *
  simp only [IntKind.wrap_u64, wrap64]
  omega
theorem prod_pn {x y hi lo : Int} (hx : ¬ x < 0) (hx' : x ≤ 9223372036854775807) (hy : y < 0) (hy' : -9223372036854775808 ≤ y)
    (hhi : hi = IntKind.u64.wrap x * IntKind.u64.wrap y / 18446744073709551616) (hlo : lo = IntKind.u64.wrap x * IntKind.u64.wrap y % 18446744073709551616) :
    wrap64 (IntKind.u64.wrap (hi - IntKind.u64.wrap x)) = mulHi x y ∧ lo = mulLo x y := by
  rw [upos hx hx', uneg hy hy'] at *
  have e : x * (y + 18446744073709551616) = x * y + 18446744073709551616 * x := by rw [Int.mul_add]; omega
  rw [e] at hhi hlo
  unfold mulHi mulLo
  generalize x * y = P at *
  simp only [IntKind.wrap_u64, wrap64]
  omega
theorem prod_pp {x y hi lo : Int} (hx : ¬ x < 0) (hx' : x ≤ 9223372036854775807) (hy : ¬ y < 0) (hy' : y ≤ 9223372036854775807)
    (hhi : hi = IntKind.u64.wrap x * IntKind.u64.wrap y / 18446744073709551616) (hlo : lo = IntKind.u64.wrap x * IntKind.u64.wrap y % 18446744073709551616) :
    wrap64 hi = mulHi x y ∧ lo = mulLo x y := by
  rw [upos hx hx', upos hy hy'] at *
  exact ⟨by rw [hhi]; rfl, hlo⟩
theorem spec_same {x y hi lo : Int} (h : (x < 0) ↔ (y < 0)) (hhi : hi = absI x * absI y / 18446744073709551616) (hlo : lo = absI x * absI y % 18446744073709551616) : wrap64 hi = mulHi x y ∧ lo = mulLo x y := by
  have e : absI x * absI y = x * y := by
    unfold absI
    by_cases hx : x < 0
    · rw [if_pos hx, if_pos (h.1 hx), Int.neg_mul_neg]
    · rw [if_neg hx, if_neg (fun k => hx (h.2 k))]
  rw [e] at hhi hlo
  exact ⟨by rw [hhi]; rfl, hlo⟩
theorem spec_other {x y hi lo : Int} (h : ¬ ((x < 0) ↔ (y < 0))) (hhi : hi = absI x * absI y / 18446744073709551616) (hlo : lo = absI x * absI y % 18446744073709551616) : subHi 0 0 (wrap64 hi) lo = mulHi x y ∧ subLo 0 lo = mulLo x y := by
  have e : absI x * absI y = -(x * y) := by
    unfold absI
    by_cases hx : x < 0
    · have hy : ¬ y < 0 := fun k => h ⟨fun _ => k, fun _ => hx⟩
      rw [if_pos hx, if_neg hy, Int.neg_mul]
    · have hy : y < 0 := by
        apply Classical.byContradiction
        intro k
        exact h ⟨fun a => absurd a hx, fun a => absurd a k⟩
      rw [if_neg hx, if_pos hy, Int.mul_neg]
  rw [e] at hhi hlo
  unfold mulHi mulLo subHi subLo
  generalize x * y = P at *
  simp only [wrap64]
  constructor
  · split <;> omega
  · omega
theorem castq (x y : Nat) : ((x * y / 18446744073709551616 : Nat) : Int) = (x : Int) * (y : Int) / 18446744073709551616 ∧ ((x * y % 18446744073709551616 : Nat) : Int) = (x : Int) * (y : Int) % 18446744073709551616 := by
  rw [← Int.natCast_mul]
  generalize x * y = P
  omega
theorem mul64E (x y : Int) (hx : 0 ≤ x) (hx' : x ≤ 18446744073709551615) (hy : 0 ≤ y) (hy' : y ≤ 18446744073709551615) :
    ∃ hi lo : Int, (∀ w : World, Calls Tryd.prog 32 #[.int .u64 x, .int .u64 y] w fun e w' => e = .returned (.tuple #[.int .u64 hi, .int .u64 lo]) ∧ w = w') ∧ Hid (hi = x * y / 18446744073709551616) ∧ Hid (lo = x * y % 18446744073709551616) := by
  obtain ⟨x, rfl⟩ := Int.eq_ofNat_of_zero_le hx
  obtain ⟨y, rfl⟩ := Int.eq_ofNat_of_zero_le hy
  exact ⟨_, _, fun w => mul64N x y (by omega) (by omega) w, (castq x y).1, (castq x y).2⟩
theorem l1mulE (x y : Int) (hx : 0 ≤ x) (hx' : x ≤ 18446744073709551615) (hy : 0 ≤ y) (hy' : y ≤ 18446744073709551615) :
    ∃ hi lo : Int, (∀ w : World, Calls Tryd.prog 29 #[.int .u64 x, .int .u64 y] w fun e w' => e = .returned (.tuple #[.int .u64 hi, .int .u64 lo]) ∧ w = w') ∧ Hid (hi = x * y / 18446744073709551616) ∧ Hid (lo = x * y % 18446744073709551616) := by
  obtain ⟨x, rfl⟩ := Int.eq_ofNat_of_zero_le hx
  obtain ⟨y, rfl⟩ := Int.eq_ofNat_of_zero_le hy
  exact ⟨_, _, fun w => l1mulN x y (by omega) (by omega) w, (castq x y).1, (castq x y).2⟩
theorem u64_lo (x : Int) : 0 ≤ IntKind.u64.wrap x := by rw [IntKind.wrap_u64]; omega
theorem u64_hi (x : Int) : IntKind.u64.wrap x ≤ 18446744073709551615 := by rw [IntKind.wrap_u64]; omega
set_option maxHeartbeats 1000000 in
theorem product_c (x y : Int) (bx : -9223372036854775808 ≤ x) (bx' : x ≤ 9223372036854775807) (b_y : -9223372036854775808 ≤ y) (b_y' : y ≤ 9223372036854775807) (w : World) :
    Calls Tryd.prog 26 #[.int .i64 x, .int .i64 y] w fun e w' => e = .returned (.agg #[.int .i64 (mulHi x y), .int .u64 (mulLo x y)]) ∧ Below w.heap.size w w' := by
  obtain ⟨hi, lo, hc, hhi, hlo⟩ := mul64E (IntKind.u64.wrap x) (IntKind.u64.wrap y) (u64_lo _) (u64_hi _) (u64_lo _) (u64_hi _)
  have hc' := hid hc
  clear hc
  by_cases hx : x < 0
  · by_cases hy : y < 0
    · obtain ⟨e1, e2⟩ := prod_nn hx bx hy b_y hhi.out hlo.out
      have E1 := hid e1
      have E2 := hid e2
      clear e1 e2 hhi hlo bx bx' b_y b_y'
      go_enter Tryd.func26, Tryd.ntmps26
      go_wp2_with (go_at_call 32; refine (hc'.out _).mono ?_; rintro e w' ⟨rfl, rfl⟩)
      go_returns
      exact ⟨ret_pair E1.out E2.out, by go_grown⟩
    · obtain ⟨e1, e2⟩ := prod_np hx bx hy b_y' hhi.out hlo.out
      have E1 := hid e1
      have E2 := hid e2
      clear e1 e2 hhi hlo bx bx' b_y b_y'
      go_enter Tryd.func26, Tryd.ntmps26
      go_wp2_with (go_at_call 32; refine (hc'.out _).mono ?_; rintro e w' ⟨rfl, rfl⟩)
      go_returns
      exact ⟨ret_pair E1.out E2.out, by go_grown⟩
  · by_cases hy : y < 0
    · obtain ⟨e1, e2⟩ := prod_pn hx bx' hy b_y hhi.out hlo.out
      have E1 := hid e1
      have E2 := hid e2
      clear e1 e2 hhi hlo bx bx' b_y b_y'
      go_enter Tryd.func26, Tryd.ntmps26
      go_wp2_with (go_at_call 32; refine (hc'.out _).mono ?_; rintro e w' ⟨rfl, rfl⟩)
      go_returns
      exact ⟨ret_pair E1.out E2.out, by go_grown⟩
    · obtain ⟨e1, e2⟩ := prod_pp hx bx' hy b_y' hhi.out hlo.out
      have E1 := hid e1
      have E2 := hid e2
      clear e1 e2 hhi hlo bx bx' b_y b_y'
      go_enter Tryd.func26, Tryd.ntmps26
      go_wp2_with (go_at_call 32; refine (hc'.out _).mono ?_; rintro e w' ⟨rfl, rfl⟩)
      go_returns
      exact ⟨ret_pair E1.out E2.out, by go_grown⟩
theorem abs_c (n : Int) (b : -4611686018427387904 ≤ n) (b' : n ≤ 4611686018427387904) (w : World) : Calls Tryd.prog 30 #[.int .i64 n] w fun e w' => e = .returned (.int .u64 (absI n)) ∧ w = w' := by
  by_cases h : n < 0
  · have e : absI n = -n := by unfold absI; rw [if_pos h]
    go_enter Tryd.func30, Tryd.ntmps30
    go_wp2
    go_ret
    exact ⟨by first | rfl | (rw [e]; rfl), rfl⟩
  · have e : absI n = n := by unfold absI; rw [if_neg h]
    go_enter Tryd.func30, Tryd.ntmps30
    go_wp2
    go_ret
    exact ⟨by first | rfl | (rw [e]; rfl), rfl⟩
theorem abs_lo (n : Int) : 0 ≤ absI n := by unfold absI; split <;> omega
theorem abs_hi (n : Int) (b : -4611686018427387904 ≤ n) (b' : n ≤ 4611686018427387904) : absI n ≤ 18446744073709551615 := by unfold absI; split <;> omega
theorem subSpec_c (x0 y0 x1 y1 : Int) (w : World) (b0 : 0 ≤ y0) (b0' : y0 ≤ 18446744073709551615) (b1 : 0 ≤ y1) (b1' : y1 ≤ 18446744073709551615) :
    Calls Tryd.prog 31 #[.agg #[.int .i64 x0, .int .u64 y0], .agg #[.int .i64 x1, .int .u64 y1]] w fun e w' => e = .returned (.agg #[.int .i64 (subHi x0 y0 x1 y1), .int .u64 (subLo y0 y1)]) ∧ Below w.heap.size w w' := by
  by_cases h1 : y0 < y1
  · have hlo : Hid (IntKind.u64.wrap (y0 - y1) = subLo y0 y1) := by unfold subLo; show _ = _; rw [IntKind.wrap_u64]
    have hhi : Hid (wrap64 (wrap64 (x0 - x1) - 1) = subHi x0 y0 x1 y1) := by show _ = _; unfold subHi wrap64; rw [if_pos h1]; omega
    go_enter Tryd.func31, Tryd.ntmps31
    go_wp2
    go_returns
    exact ⟨ret_pair hhi.out hlo.out, by go_grown⟩
  · have hlo : Hid (y0 - y1 = subLo y0 y1) := by unfold subLo; show _ = _; omega
    have hhi : Hid (wrap64 (x0 - x1) = subHi x0 y0 x1 y1) := by show _ = _; unfold subHi; rw [if_neg h1]
    go_enter Tryd.func31, Tryd.ntmps31
    go_wp2
    go_returns
    exact ⟨ret_pair hhi.out hlo.out, by go_grown⟩
end Go.Proofs.YtbmfiphfobbfcaoDoor
