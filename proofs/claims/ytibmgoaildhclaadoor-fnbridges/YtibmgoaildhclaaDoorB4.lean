/-
  Points, sets and hulls: contracts for the walks (Draw, Points, Lists, Lists2 in one text).
  Conditions: as each theorem states them.
-/
import Derived.Test.YtibmgoaildhclaaDoorB1
import Derived.WalkKit
import Derived.ProofKit
import Derived.OpenShut
import Derived.Handy
import Derived.WalkSpells
import Derived.Deep.QuietTactic
import Derived.BigQuiet
import Derived.Deep.RegionHeld3
import Derived.Laws.Bits64b
namespace Go.Proofs.YtibmgoaildhclaaDoor
open Go.RowKit
set_option linter.unusedVariables false
set_option maxRecDepth 8000

theorem u64_lo (x : Int) : 0 ≤ IntKind.u64.wrap x := by rw [IntKind.wrap_u64]; omega
theorem u64_hi (x : Int) : IntKind.u64.wrap x ≤ 18446744073709551615 := by rw [IntKind.wrap_u64]; omega
set_option maxHeartbeats 1000000 in
/-- All blocks but one are as they were. -/
structure Only (b : Nat) (w w' : World) : Prop where
  os : w'.os = w.os
  tape : w'.tape = w.tape
  output : w'.output = w.output
  size : w.heap.size ≤ w'.heap.size
  block : ∀ k, k < w.heap.size → k ≠ b → w'.heap[k]? = w.heap[k]?
theorem Only.refl (b : Nat) (w : World) : Only b w w := ⟨rfl, rfl, rfl, Nat.le_refl _, fun _ _ _ => rfl⟩
theorem Only.trans {b : Nat} {u v w : World} (h : Only b u v) (k : Only b v w) : Only b u w :=
  ⟨k.os.trans h.os, k.tape.trans h.tape, k.output.trans h.output, Nat.le_trans h.size k.size, fun i hi hb => (k.block i (Nat.lt_of_lt_of_le hi h.size) hb).trans (h.block i hi hb)⟩
theorem Only.drew {b : Nat} {u w : World} (h : Only b u w) : Only b u w.drew := ⟨h.os, h.tape, h.output, h.size, h.block⟩
theorem Only.alloc {b : Nat} {u w : World} (h : Only b u w) (o : Obj) : Only b u (w.alloc o) := by
  have k := (Below.refl w.heap.size w).alloc (Nat.le_refl _) o
  exact ⟨h.os, h.tape, h.output, Nat.le_trans h.size k.size, fun i hi hb => (k.block i (Nat.lt_of_lt_of_le hi h.size)).trans (h.block i hi hb)⟩
theorem Only.setCell {b : Nat} {u w : World} (h : Only b u w) {p : Addr} (hp : p.block = b ∨ u.heap.size ≤ p.block) (v : Value) : Only b u (w.setCell p v) := by
  refine ⟨h.os, h.tape, h.output, ?_, fun i hi hb => (Below.heap_setCell w p v i ?_).trans (h.block i hi hb)⟩
  · rw [World.size_setCell]; exact h.size
  · rcases hp with hp | hp
    · rw [hp]; exact hb
    · omega
theorem Only.ofBelow {b : Nat} {u w : World} (h : Below u.heap.size u w) : Only b u w := ⟨h.os, h.tape, h.output, h.size, fun i hi _ => h.block i hi⟩
theorem Only.below {b B : Nat} {u w : World} (h : Only b u w) (hB : B ≤ u.heap.size) (hb : B ≤ b) : Below B u w :=
  ⟨h.os, h.tape, h.output, h.size, fun i hi => h.block i (by omega) (by omega)⟩
theorem Only.cell {b : Nat} {u w : World} (h : Only b u w) {p : Addr} (hp : p.block < u.heap.size) (hb : p.block ≠ b) : w.cell? p = u.cell? p := World.cell?_of_block (w := u) (h.block p.block hp hb)
theorem Only.frozen {b : Nat} {u w : World} (h : Only b u w) {p : Addr} (hp : p.block < u.heap.size) (hb : p.block ≠ b) : w.frozen? p = u.frozen? p := World.frozen?_of_block (w := u) (h.block p.block hp hb)

/-- The cursor's cells. -/
structure Cur (b : Nat) (a : Option Addr) (len cap k : Nat) (w : World) : Prop where
  c0 : w.cell? ⟨b, 0, none⟩ = some (.slice a len cap)
  c1 : w.cell? ⟨b, 1, none⟩ = some (.int .i64 k)
  c2 : ∃ s : Int, w.cell? ⟨b, 2, none⟩ = some (.int .u64 s) ∧ 0 ≤ s ∧ s ≤ 18446744073709551615
  f1 : w.frozen? ⟨b, 1, none⟩ = false
  f2 : w.frozen? ⟨b, 2, none⟩ = false
/-- The bytes that it reads lie below N. -/
def Bytes (N : Nat) (a : Option Addr) (len : Nat) (w : World) : Prop :=
  ∀ i, i < len → ∃ blk off z, a = some ⟨blk, off, none⟩ ∧ blk < N ∧ w.cell? ⟨blk, off + i, none⟩ = some (.int .u8 z) ∧ 0 ≤ z ∧ z ≤ 255
theorem Cur.lt {b : Nat} {a : Option Addr} {len cap k : Nat} {w : World} (h : Cur b a len cap k w) : b < w.heap.size := World.block_lt_of_cell? w _ h.c0
theorem Bytes.later {N b : Nat} {a : Option Addr} {len : Nat} {w w' : World} (h : Bytes N a len w) (hO : Only b w w') (hN : N ≤ b) : Bytes N a len w' := fun i hi => by
  obtain ⟨blk, off, z, e, hb, hc, h0, h1⟩ := h i hi
  exact ⟨blk, off, z, e, hb, (hO.cell (World.block_lt_of_cell? w _ hc) (by show blk ≠ b; omega)).trans hc, h0, h1⟩
theorem Bytes.below {N : Nat} {a : Option Addr} {len : Nat} {w w' : World} (h : Bytes N a len w) (hO : Below w.heap.size w w') : Bytes N a len w' := fun i hi => by
  obtain ⟨blk, off, z, e, hb, hc, h0, h1⟩ := h i hi
  exact ⟨blk, off, z, e, hb, cell_later hO hc, h0, h1⟩
theorem Cur.below {b : Nat} {a : Option Addr} {len cap k : Nat} {w w' : World} (h : Cur b a len cap k w) (hO : Below w.heap.size w w') : Cur b a len cap k w' := by
  obtain ⟨s, hs, h0, h1⟩ := h.c2
  exact ⟨cell_later hO h.c0, cell_later hO h.c1, ⟨s, cell_later hO hs, h0, h1⟩, (hO.frozen h.lt).trans h.f1, (hO.frozen h.lt).trans h.f2⟩
theorem drewN_only (b n : Nat) (w : World) : Only b w (w.drewN n) := Only.ofBelow (by
  induction n with
  | zero => exact Below.refl _ _
  | succ n ih => exact ih.drew)
/-- Behind the two stores of a step. -/
theorem Cur.step {b : Nat} {a : Option Addr} {len cap k n m : Nat} {v s : Int} {w : World} (h : Cur b a len cap k w) (ev : v = ((k + 1 : Nat) : Int)) (s0 : 0 ≤ s) (s1 : s ≤ 18446744073709551615) :
    Cur b a len cap (k + 1) ((((w.drewN n).setCell ⟨b, 1, none⟩ (.int .i64 v)).setCell ⟨b, 2, none⟩ (.int .u64 s)).drewN m) ∧ Only b w ((((w.drewN n).setCell ⟨b, 1, none⟩ (.int .i64 v)).setCell ⟨b, 2, none⟩ (.int .u64 s)).drewN m) := by
  obtain ⟨c0, c1, ⟨s', c2, _, _⟩, f1, f2⟩ := h
  subst ev
  refine ⟨⟨?_, ?_, ⟨s, ?_, s0, s1⟩, ?_, ?_⟩, ?_⟩
  · simp [go_sem, c0]
  · simp [go_sem, c1]
  · simp [go_sem, c2]
  · simp [go_sem, f1]
  · simp [go_sem, f2]
  · exact (((drewN_only b n w).setCell (.inl rfl) _).setCell (.inl rfl) _).trans (drewN_only b m _)
theorem and255 (x : Int) (h0 : 0 ≤ x) (h1 : x ≤ 18446744073709551615) : 0 ≤ wrap64 (bits .and .u64 (x / 1099511627776) 255) ∧ wrap64 (bits .and .u64 (x / 1099511627776) 255) ≤ 255 := by
  obtain ⟨q, hq⟩ := Int.eq_ofNat_of_zero_le (show 0 ≤ x / 1099511627776 by omega)
  rw [hq]
  have h := bits_and_u64_nat q 255 (by omega) (by omega)
  have e : q &&& 255 = q % 256 := Nat.and_two_pow_sub_one_eq_mod q 8
  rw [e] at h
  have h' : bits .and .u64 (q : Int) 255 = ((q % 256 : Nat) : Int) := h
  rw [h']
  unfold wrap64
  omega
set_option maxHeartbeats 1000000 in
theorem next_in (b blk off len cap k : Nat) (z s : Int) (w : World) (hk : k < len) (hl : len ≤ 1048576) (hz : 0 ≤ z) (hz' : z ≤ 255)
    (c0 : w.cell? ⟨b, 0, none⟩ = some (.slice (some ⟨blk, off, none⟩) len cap)) (c1 : w.cell? ⟨b, 1, none⟩ = some (.int .i64 k)) (c2 : w.cell? ⟨b, 2, none⟩ = some (.int .u64 s))
    (f1 : w.frozen? ⟨b, 1, none⟩ = false) (f2 : w.frozen? ⟨b, 2, none⟩ = false) (cb : w.cell? ⟨blk, off + k, none⟩ = some (.int .u8 z)) (hne : ¬ blk = b) (H : Hid (Cur b (some ⟨blk, off, none⟩) len cap k w)) :
    Calls Tryd.prog 58 #[.pointer (some ⟨b, 0, none⟩)] w fun e w' => ∃ v : Int, e = .returned (.int .i64 v) ∧ 0 ≤ v ∧ v ≤ 255 ∧ Cur b (some ⟨blk, off, none⟩) len cap (k + 1) w' ∧ Only b w w' := by
  have hk' : (k : Int) < (len : Int) := by omega
  have hk0 : (0 : Int) ≤ (k : Int) := by omega
  go_enter Tryd.func58, Tryd.ntmps58
  go_wp2
  go_quiet (fail)
  go_wp2
  go_quiet (fail)
  go_wp2
  go_quiet (fail)
  go_wp2
  go_ret
  exact ⟨z, rfl, hz, hz', H.out.step (by omega) (u64_lo _) (u64_hi _)⟩
set_option maxHeartbeats 1000000 in
theorem next_out (b len cap k : Nat) (a : Option Addr) (s : Int) (w : World) (hk : ¬ k < len) (hl : len ≤ 1048576) (hk1 : k ≤ 1000000000)
    (c0 : w.cell? ⟨b, 0, none⟩ = some (.slice a len cap)) (c1 : w.cell? ⟨b, 1, none⟩ = some (.int .i64 k)) (c2 : w.cell? ⟨b, 2, none⟩ = some (.int .u64 s))
    (f1 : w.frozen? ⟨b, 1, none⟩ = false) (f2 : w.frozen? ⟨b, 2, none⟩ = false) (H : Hid (Cur b a len cap k w)) :
    Calls Tryd.prog 58 #[.pointer (some ⟨b, 0, none⟩)] w fun e w' => ∃ v : Int, e = .returned (.int .i64 v) ∧ 0 ≤ v ∧ v ≤ 255 ∧ Cur b a len cap (k + 1) w' ∧ Only b w w' := by
  have hk' : ¬ (k : Int) < (len : Int) := by omega
  have hk0 : (0 : Int) ≤ (k : Int) := by omega
  go_enter Tryd.func58, Tryd.ntmps58
  go_wp2
  go_quiet (fail)
  go_wp2
  go_quiet (fail)
  go_wp2
  go_ret
  exact ⟨_, rfl, (and255 _ (u64_lo _) (u64_hi _)).1, (and255 _ (u64_lo _) (u64_hi _)).2, H.out.step (by omega) (u64_lo _) (u64_hi _)⟩
/-- A cursor that is ready: its cells, the bytes below N, at most m taken. -/
def Rd (N b m : Nat) (w : World) : Prop := ∃ a len cap k, Cur b a len cap k w ∧ Bytes N a len w ∧ N ≤ b ∧ len ≤ 1048576 ∧ k ≤ m
theorem Rd.lt {N b m : Nat} {w : World} (h : Rd N b m w) : b < w.heap.size := by obtain ⟨_, _, _, _, h, _⟩ := h; exact h.lt
theorem Rd.mono {N b m m' : Nat} {w : World} (h : Rd N b m w) (hm : m ≤ m') : Rd N b m' w := by obtain ⟨a, l, c, k, h1, h2, h3, h4, h5⟩ := h; exact ⟨a, l, c, k, h1, h2, h3, h4, by omega⟩
theorem Rd.below {N b m : Nat} {w w' : World} (h : Rd N b m w) (hB : Below (b + 1) w w') : Rd N b m w' := by
  obtain ⟨a, l, c, k, h1, h2, h3, h4, h5⟩ := h
  obtain ⟨s, hs, k0, k1⟩ := h1.c2
  refine ⟨a, l, c, k, ⟨(hB.cell (Nat.lt_succ_self b)).trans h1.c0, (hB.cell (Nat.lt_succ_self b)).trans h1.c1, ⟨s, (hB.cell (Nat.lt_succ_self b)).trans hs, k0, k1⟩, (hB.frozen (Nat.lt_succ_self b)).trans h1.f1, (hB.frozen (Nat.lt_succ_self b)).trans h1.f2⟩, fun i hi => ?_, h3, h4, h5⟩
  obtain ⟨blk, off, z, e, hb, hc, g0, g1⟩ := h2 i hi
  exact ⟨blk, off, z, e, hb, (hB.cell (show blk < b + 1 by omega)).trans hc, g0, g1⟩
theorem next_r (N b m : Nat) (w : World) (h : Rd N b m w) (hm : m ≤ 1000000) :
    Calls Tryd.prog 58 #[.pointer (some ⟨b, 0, none⟩)] w fun e w' => ∃ v : Int, e = .returned (.int .i64 v) ∧ 0 ≤ v ∧ v ≤ 255 ∧ Rd N b (m + 1) w' ∧ Only b w w' := by
  obtain ⟨a, l, c, k, h1, h2, h3, h4, h5⟩ := h
  obtain ⟨s, hs, k0, k1⟩ := h1.c2
  by_cases hk : k < l
  · obtain ⟨blk, off, z, rfl, hb, hc, g0, g1⟩ := h2 k hk
    refine (next_in b blk off l c k z s w hk h4 g0 g1 h1.c0 h1.c1 hs h1.f1 h1.f2 hc (by omega) h1).mono ?_
    rintro e w' ⟨v, he, hv0, hv1, hC, hO⟩
    exact ⟨v, he, hv0, hv1, ⟨_, l, c, k + 1, hC, h2.later hO h3, h3, h4, by omega⟩, hO⟩
  · refine (next_out b l c k a s w hk h4 (by omega) h1.c0 h1.c1 hs h1.f1 h1.f2 h1).mono ?_
    rintro e w' ⟨v, he, hv0, hv1, hC, hO⟩
    exact ⟨v, he, hv0, hv1, ⟨_, l, c, k + 1, hC, h2.later hO h3, h3, h4, by omega⟩, hO⟩
set_option maxHeartbeats 1000000 in
theorem pick_r (n : Int) (hn : 2 ≤ n) (hn' : n ≤ 200) (N b m : Nat) (w : World) (h : Rd N b m w) (hm : m ≤ 1000000) :
    Calls Tryd.prog 38 #[.pointer (some ⟨b, 0, none⟩), .int .i64 n] w fun e w' => ∃ v : Int, e = .returned (.int .i64 v) ∧ 0 ≤ v ∧ v < n ∧ Rd N b (m + 1) w' ∧ Only b w w' := by
  have H := hid h
  clear h
  have z0 : (n == 0) = false := by simp; omega
  go_enter Tryd.func38, Tryd.ntmps38
  go_wp2_with (go_at_call 58; refine (next_r N b m _ H.out hm).mono ?_; rintro e w' ⟨v, rfl, hv0, hv1, hR, hO⟩)
  go_ret
  exact ⟨_, rfl, Int.emod_nonneg _ (by omega), Int.emod_lt_of_pos _ (by omega), hR, hO⟩
theorem one_r (n : Int) (hn : 2 ≤ n) (hn' : n ≤ 200) (N b m : Nat) (w : World) (h : Rd N b m w) (hm : m ≤ 1000000) :
    Calls Tryd.prog 37 #[.pointer (some ⟨b, 0, none⟩), .int .i64 n] w fun e w' => ∃ v : Bool, e = .returned (.bool v) ∧ Rd N b (m + 1) w' ∧ Only b w w' := by
  have H := hid h
  clear h
  go_enter Tryd.func37, Tryd.ntmps37
  go_wp2_with (go_at_call 38; refine (pick_r n hn hn' N b m _ H.out hm).mono ?_; rintro e w' ⟨v, rfl, hv0, hv1, hR, hO⟩)
  go_ret
  exact ⟨_, rfl, hR, hO⟩
set_option maxHeartbeats 1000000 in
theorem among_r (P : Int → Prop) (r len : Nat) (hl : 2 ≤ len) (hl' : len ≤ 200) (N b m : Nat) (w : World) (h : Rd N b m w) (hm : m ≤ 1000000) (hr : ¬ r = b)
    (hP : ∀ i, i < len → ∃ z, w.cell? ⟨r, i, none⟩ = some (.int .i64 z) ∧ P z) :
    Calls Tryd.prog 75 #[.pointer (some ⟨b, 0, none⟩), .slice (some ⟨r, 0, none⟩) len len] w fun e w' => ∃ v : Int, e = .returned (.int .i64 v) ∧ P v ∧ Rd N b (m + 1) w' ∧ Only b w w' := by
  have H := hid h
  have HP := hid hP
  clear h hP
  go_enter Tryd.func75, Tryd.ntmps75
  go_wp2_with (go_at_call 38; refine (pick_r _ ?_ ?_ N b m _ H.out hm).mono ?_; omega; omega; rintro e w1 ⟨v, rfl, hv0, hv1, hR, hO⟩; obtain ⟨i, rfl⟩ := Int.eq_ofNat_of_zero_le hv0; obtain ⟨z, hz, hPz⟩ := HP.out i (by omega); have hc : w1.cell? ⟨r, i, none⟩ = some (.int .i64 z) := (hO.cell (World.block_lt_of_cell? _ _ hz) hr).trans hz)
  go_ret
  exact ⟨_, rfl, hPz, hR, hO⟩
end Go.Proofs.YtibmgoaildhclaaDoor
namespace Go.Proofs.YtibmgoaildhclaaDoor
open Go.RowKit
set_option linter.unusedVariables false
set_option maxRecDepth 8000
set_option maxHeartbeats 4000000 in
theorem point_r (N b m : Nat) (w : World) (h : Rd N b m w) (hm : m ≤ 900000) :
    Calls Tryd.prog 72 #[.pointer (some ⟨b, 0, none⟩)] w fun e w' => ∃ x y : Int, e = .returned (.agg #[.int .i64 x, .int .i64 y]) ∧ -1000000 ≤ x ∧ x ≤ 1000000 ∧ -1000000 ≤ y ∧ y ≤ 1000000 ∧ Rd N b (m + 5) w' ∧ Only b w w' := by
  have hb := h.lt
  have hR0 := h
  clear h
  have tok1 : True := trivial
  have tok2 : True := trivial
  have tok3 : True := trivial
  have tok4 : True := trivial
  have tok5 : True := trivial
  go_enter Tryd.func72, Tryd.ntmps72
  go_wp2_with (first
    | (go_at_call 38; have _t := tok1; go_must ((refine (pick_r _ ?_ ?_ N b _ _ (hR0.below ?_) ?_).mono ?_; omega; omega; (focus (go_grown; done)); omega; rintro e w1 ⟨v1, rfl, lo1, hi1, hR1, hO1⟩; clear tok1; have hz1 : w.heap.size + 1 ≤ w1.heap.size := Nat.le_trans (by go_size) hO1.size; have k1_0 : w1.cell? ⟨w.heap.size, 0, none⟩ = some (.int .i64 (0)) := (hO1.cell (by go_size) (show w.heap.size ≠ b by omega)).trans (by go_simp); have a1_0 : ∀ o, (w1.alloc o).cell? ⟨w.heap.size, 0, none⟩ = some (.int .i64 (0)) := fun o => cell_later ((Below.refl _ _).alloc (Nat.le_refl _) o) k1_0; have f1_0 : w1.frozen? ⟨w.heap.size, 0, none⟩ = false := (hO1.frozen (by go_size) (show w.heap.size ≠ b by omega)).trans (by go_simp); have g1_0 : ∀ o, (w1.alloc o).frozen? ⟨w.heap.size, 0, none⟩ = false := fun o => ((by go_grown : Below w1.heap.size w1 (w1.alloc o)).frozen (by go_size)).trans f1_0; have k1_1 : w1.cell? ⟨w.heap.size, 1, none⟩ = some (.int .i64 (0)) := (hO1.cell (by go_size) (show w.heap.size ≠ b by omega)).trans (by go_simp); have a1_1 : ∀ o, (w1.alloc o).cell? ⟨w.heap.size, 1, none⟩ = some (.int .i64 (0)) := fun o => cell_later ((Below.refl _ _).alloc (Nat.le_refl _) o) k1_1; have f1_1 : w1.frozen? ⟨w.heap.size, 1, none⟩ = false := (hO1.frozen (by go_size) (show w.heap.size ≠ b by omega)).trans (by go_simp); have g1_1 : ∀ o, (w1.alloc o).frozen? ⟨w.heap.size, 1, none⟩ = false := fun o => ((by go_grown : Below w1.heap.size w1 (w1.alloc o)).frozen (by go_size)).trans f1_1; have hT1 : Hid (Only b w w1) := (by repeat' (first | (with_reducible exact Only.refl _ _) | (with_reducible refine Only.alloc ?_ _) | (with_reducible refine Only.setCell ?_ (Or.inr ?_) _) | (with_reducible refine Only.drew ?_) | go_size) : Only b w _).trans hO1)))
    | (go_at_call 38; have _t := tok2; go_must ((refine (pick_r _ ?_ ?_ N b _ _ (hR1.below ?_) ?_).mono ?_; omega; omega; (focus (go_grown; done)); omega; rintro e w2 ⟨v2, rfl, lo2, hi2, hR2, hO2⟩; clear tok2; have hz2 : w1.heap.size + 0 ≤ w2.heap.size := Nat.le_trans (by go_size) hO2.size; have k2_0 : w2.cell? ⟨w.heap.size, 0, none⟩ = some (.int .i64 (0)) := (hO2.cell (by go_size) (show w.heap.size ≠ b by omega)).trans (cell_later (by go_grown : Below w1.heap.size w1 _) k1_0); have a2_0 : ∀ o, (w2.alloc o).cell? ⟨w.heap.size, 0, none⟩ = some (.int .i64 (0)) := fun o => cell_later ((Below.refl _ _).alloc (Nat.le_refl _) o) k2_0; have f2_0 : w2.frozen? ⟨w.heap.size, 0, none⟩ = false := (hO2.frozen (by go_size) (show w.heap.size ≠ b by omega)).trans (((by go_grown : Below w1.heap.size w1 _).frozen (by go_size)).trans f1_0); have g2_0 : ∀ o, (w2.alloc o).frozen? ⟨w.heap.size, 0, none⟩ = false := fun o => ((by go_grown : Below w2.heap.size w2 (w2.alloc o)).frozen (by go_size)).trans f2_0; have k2_1 : w2.cell? ⟨w.heap.size, 1, none⟩ = some (.int .i64 (0)) := (hO2.cell (by go_size) (show w.heap.size ≠ b by omega)).trans (cell_later (by go_grown : Below w1.heap.size w1 _) k1_1); have a2_1 : ∀ o, (w2.alloc o).cell? ⟨w.heap.size, 1, none⟩ = some (.int .i64 (0)) := fun o => cell_later ((Below.refl _ _).alloc (Nat.le_refl _) o) k2_1; have f2_1 : w2.frozen? ⟨w.heap.size, 1, none⟩ = false := (hO2.frozen (by go_size) (show w.heap.size ≠ b by omega)).trans (((by go_grown : Below w1.heap.size w1 _).frozen (by go_size)).trans f1_1); have g2_1 : ∀ o, (w2.alloc o).frozen? ⟨w.heap.size, 1, none⟩ = false := fun o => ((by go_grown : Below w2.heap.size w2 (w2.alloc o)).frozen (by go_size)).trans f2_1; have hT2 : Hid (Only b w w2) := (by repeat' (first | (with_reducible exact hT1.out) | (with_reducible refine Only.alloc ?_ _) | (with_reducible refine Only.setCell ?_ (Or.inr ?_) _) | (with_reducible refine Only.drew ?_) | go_size) : Only b w _).trans hO2)))
    | (go_at_call 37; have _t := tok3; go_must ((refine (one_r _ ?_ ?_ N b _ _ (hR2.below ?_) ?_).mono ?_; omega; omega; (focus (go_grown; done)); omega; rintro e w3 ⟨v3, rfl, hR3, hO3⟩; clear tok3; have hz3 : w2.heap.size + 1 ≤ w3.heap.size := Nat.le_trans (by go_size) hO3.size; have k3_0 : w3.cell? ⟨w.heap.size, 0, none⟩ = some (.int .i64 (0)) := (hO3.cell (by go_size) (show w.heap.size ≠ b by omega)).trans (cell_later (by go_grown : Below w2.heap.size w2 _) k2_0); have a3_0 : ∀ o, (w3.alloc o).cell? ⟨w.heap.size, 0, none⟩ = some (.int .i64 (0)) := fun o => cell_later ((Below.refl _ _).alloc (Nat.le_refl _) o) k3_0; have f3_0 : w3.frozen? ⟨w.heap.size, 0, none⟩ = false := (hO3.frozen (by go_size) (show w.heap.size ≠ b by omega)).trans (((by go_grown : Below w2.heap.size w2 _).frozen (by go_size)).trans f2_0); have g3_0 : ∀ o, (w3.alloc o).frozen? ⟨w.heap.size, 0, none⟩ = false := fun o => ((by go_grown : Below w3.heap.size w3 (w3.alloc o)).frozen (by go_size)).trans f3_0; have k3_1 : w3.cell? ⟨w.heap.size, 1, none⟩ = some (.int .i64 (0)) := (hO3.cell (by go_size) (show w.heap.size ≠ b by omega)).trans (cell_later (by go_grown : Below w2.heap.size w2 _) k2_1); have a3_1 : ∀ o, (w3.alloc o).cell? ⟨w.heap.size, 1, none⟩ = some (.int .i64 (0)) := fun o => cell_later ((Below.refl _ _).alloc (Nat.le_refl _) o) k3_1; have f3_1 : w3.frozen? ⟨w.heap.size, 1, none⟩ = false := (hO3.frozen (by go_size) (show w.heap.size ≠ b by omega)).trans (((by go_grown : Below w2.heap.size w2 _).frozen (by go_size)).trans f2_1); have g3_1 : ∀ o, (w3.alloc o).frozen? ⟨w.heap.size, 1, none⟩ = false := fun o => ((by go_grown : Below w3.heap.size w3 (w3.alloc o)).frozen (by go_size)).trans f3_1; have k3_2 : w3.cell? ⟨w2.heap.size, 0, none⟩ = some (.int .i64 (v1 - 4)) := (hO3.cell (by go_size) (show w2.heap.size ≠ b by omega)).trans (by go_simp); have a3_2 : ∀ o, (w3.alloc o).cell? ⟨w2.heap.size, 0, none⟩ = some (.int .i64 (v1 - 4)) := fun o => cell_later ((Below.refl _ _).alloc (Nat.le_refl _) o) k3_2; have f3_2 : w3.frozen? ⟨w2.heap.size, 0, none⟩ = false := (hO3.frozen (by go_size) (show w2.heap.size ≠ b by omega)).trans (by go_simp); have g3_2 : ∀ o, (w3.alloc o).frozen? ⟨w2.heap.size, 0, none⟩ = false := fun o => ((by go_grown : Below w3.heap.size w3 (w3.alloc o)).frozen (by go_size)).trans f3_2; have k3_3 : w3.cell? ⟨w2.heap.size, 1, none⟩ = some (.int .i64 (v2 - 4)) := (hO3.cell (by go_size) (show w2.heap.size ≠ b by omega)).trans (by go_simp); have a3_3 : ∀ o, (w3.alloc o).cell? ⟨w2.heap.size, 1, none⟩ = some (.int .i64 (v2 - 4)) := fun o => cell_later ((Below.refl _ _).alloc (Nat.le_refl _) o) k3_3; have f3_3 : w3.frozen? ⟨w2.heap.size, 1, none⟩ = false := (hO3.frozen (by go_size) (show w2.heap.size ≠ b by omega)).trans (by go_simp); have g3_3 : ∀ o, (w3.alloc o).frozen? ⟨w2.heap.size, 1, none⟩ = false := fun o => ((by go_grown : Below w3.heap.size w3 (w3.alloc o)).frozen (by go_size)).trans f3_3; have hT3 : Hid (Only b w w3) := (by repeat' (first | (with_reducible exact hT2.out) | (with_reducible refine Only.alloc ?_ _) | (with_reducible refine Only.setCell ?_ (Or.inr ?_) _) | (with_reducible refine Only.drew ?_) | go_size) : Only b w _).trans hO3)))
    | (go_at_call 75; have _t := tok4; go_must ((refine (among_r (fun v => -1000000 ≤ v ∧ v ≤ 1000000) _ _ ?_ ?_ N b _ _ (hR3.below ?_) ?_ ?_ ?_).mono ?_; omega; omega; (focus (go_grown; done)); omega; omega; (focus (intro i hi; rcases (by omega : i = 0 ∨ i = 1 ∨ i = 2 ∨ i = 3) with rfl | rfl | rfl | rfl; exact ⟨-1000000, by go_simp, by omega⟩; exact ⟨1000000, by go_simp, by omega⟩; exact ⟨999999, by go_simp, by omega⟩; exact ⟨0, by go_simp, by omega⟩)); rintro e w4 ⟨v4, rfl, hP4, hR4, hO4⟩; clear tok4; have hz4 : w3.heap.size + 1 ≤ w4.heap.size := Nat.le_trans (by go_size) hO4.size; have k4_0 : w4.cell? ⟨w.heap.size, 0, none⟩ = some (.int .i64 (0)) := (hO4.cell (by go_size) (show w.heap.size ≠ b by omega)).trans (cell_later (by go_grown : Below w3.heap.size w3 _) k3_0); have a4_0 : ∀ o, (w4.alloc o).cell? ⟨w.heap.size, 0, none⟩ = some (.int .i64 (0)) := fun o => cell_later ((Below.refl _ _).alloc (Nat.le_refl _) o) k4_0; have f4_0 : w4.frozen? ⟨w.heap.size, 0, none⟩ = false := (hO4.frozen (by go_size) (show w.heap.size ≠ b by omega)).trans (((by go_grown : Below w3.heap.size w3 _).frozen (by go_size)).trans f3_0); have g4_0 : ∀ o, (w4.alloc o).frozen? ⟨w.heap.size, 0, none⟩ = false := fun o => ((by go_grown : Below w4.heap.size w4 (w4.alloc o)).frozen (by go_size)).trans f4_0; have k4_1 : w4.cell? ⟨w.heap.size, 1, none⟩ = some (.int .i64 (0)) := (hO4.cell (by go_size) (show w.heap.size ≠ b by omega)).trans (cell_later (by go_grown : Below w3.heap.size w3 _) k3_1); have a4_1 : ∀ o, (w4.alloc o).cell? ⟨w.heap.size, 1, none⟩ = some (.int .i64 (0)) := fun o => cell_later ((Below.refl _ _).alloc (Nat.le_refl _) o) k4_1; have f4_1 : w4.frozen? ⟨w.heap.size, 1, none⟩ = false := (hO4.frozen (by go_size) (show w.heap.size ≠ b by omega)).trans (((by go_grown : Below w3.heap.size w3 _).frozen (by go_size)).trans f3_1); have g4_1 : ∀ o, (w4.alloc o).frozen? ⟨w.heap.size, 1, none⟩ = false := fun o => ((by go_grown : Below w4.heap.size w4 (w4.alloc o)).frozen (by go_size)).trans f4_1; have k4_2 : w4.cell? ⟨w2.heap.size, 0, none⟩ = some (.int .i64 (v1 - 4)) := (hO4.cell (by go_size) (show w2.heap.size ≠ b by omega)).trans (cell_later (by go_grown : Below w3.heap.size w3 _) k3_2); have a4_2 : ∀ o, (w4.alloc o).cell? ⟨w2.heap.size, 0, none⟩ = some (.int .i64 (v1 - 4)) := fun o => cell_later ((Below.refl _ _).alloc (Nat.le_refl _) o) k4_2; have f4_2 : w4.frozen? ⟨w2.heap.size, 0, none⟩ = false := (hO4.frozen (by go_size) (show w2.heap.size ≠ b by omega)).trans (((by go_grown : Below w3.heap.size w3 _).frozen (by go_size)).trans f3_2); have g4_2 : ∀ o, (w4.alloc o).frozen? ⟨w2.heap.size, 0, none⟩ = false := fun o => ((by go_grown : Below w4.heap.size w4 (w4.alloc o)).frozen (by go_size)).trans f4_2; have k4_3 : w4.cell? ⟨w2.heap.size, 1, none⟩ = some (.int .i64 (v2 - 4)) := (hO4.cell (by go_size) (show w2.heap.size ≠ b by omega)).trans (cell_later (by go_grown : Below w3.heap.size w3 _) k3_3); have a4_3 : ∀ o, (w4.alloc o).cell? ⟨w2.heap.size, 1, none⟩ = some (.int .i64 (v2 - 4)) := fun o => cell_later ((Below.refl _ _).alloc (Nat.le_refl _) o) k4_3; have f4_3 : w4.frozen? ⟨w2.heap.size, 1, none⟩ = false := (hO4.frozen (by go_size) (show w2.heap.size ≠ b by omega)).trans (((by go_grown : Below w3.heap.size w3 _).frozen (by go_size)).trans f3_3); have g4_3 : ∀ o, (w4.alloc o).frozen? ⟨w2.heap.size, 1, none⟩ = false := fun o => ((by go_grown : Below w4.heap.size w4 (w4.alloc o)).frozen (by go_size)).trans f4_3; have hT4 : Hid (Only b w w4) := (by repeat' (first | (with_reducible exact hT3.out) | (with_reducible refine Only.alloc ?_ _) | (with_reducible refine Only.setCell ?_ (Or.inr ?_) _) | (with_reducible refine Only.drew ?_) | go_size) : Only b w _).trans hO4)))
    | (go_at_call 75; have _t := tok5; go_must ((refine (among_r (fun v => -1000000 ≤ v ∧ v ≤ 1000000) _ _ ?_ ?_ N b _ _ (hR4.below ?_) ?_ ?_ ?_).mono ?_; omega; omega; (focus (go_grown; done)); omega; omega; (focus (intro i hi; rcases (by omega : i = 0 ∨ i = 1 ∨ i = 2) with rfl | rfl | rfl; exact ⟨-1000000, by go_simp, by omega⟩; exact ⟨1000000, by go_simp, by omega⟩; exact ⟨3, by go_simp, by omega⟩)); rintro e w5 ⟨v5, rfl, hP5, hR5, hO5⟩; clear tok5; have hz5 : w4.heap.size + 1 ≤ w5.heap.size := Nat.le_trans (by go_size) hO5.size; have k5_0 : w5.cell? ⟨w.heap.size, 0, none⟩ = some (.int .i64 (0)) := (hO5.cell (by go_size) (show w.heap.size ≠ b by omega)).trans (cell_later (by go_grown : Below w4.heap.size w4 _) k4_0); have a5_0 : ∀ o, (w5.alloc o).cell? ⟨w.heap.size, 0, none⟩ = some (.int .i64 (0)) := fun o => cell_later ((Below.refl _ _).alloc (Nat.le_refl _) o) k5_0; have f5_0 : w5.frozen? ⟨w.heap.size, 0, none⟩ = false := (hO5.frozen (by go_size) (show w.heap.size ≠ b by omega)).trans (((by go_grown : Below w4.heap.size w4 _).frozen (by go_size)).trans f4_0); have g5_0 : ∀ o, (w5.alloc o).frozen? ⟨w.heap.size, 0, none⟩ = false := fun o => ((by go_grown : Below w5.heap.size w5 (w5.alloc o)).frozen (by go_size)).trans f5_0; have k5_1 : w5.cell? ⟨w.heap.size, 1, none⟩ = some (.int .i64 (0)) := (hO5.cell (by go_size) (show w.heap.size ≠ b by omega)).trans (cell_later (by go_grown : Below w4.heap.size w4 _) k4_1); have a5_1 : ∀ o, (w5.alloc o).cell? ⟨w.heap.size, 1, none⟩ = some (.int .i64 (0)) := fun o => cell_later ((Below.refl _ _).alloc (Nat.le_refl _) o) k5_1; have f5_1 : w5.frozen? ⟨w.heap.size, 1, none⟩ = false := (hO5.frozen (by go_size) (show w.heap.size ≠ b by omega)).trans (((by go_grown : Below w4.heap.size w4 _).frozen (by go_size)).trans f4_1); have g5_1 : ∀ o, (w5.alloc o).frozen? ⟨w.heap.size, 1, none⟩ = false := fun o => ((by go_grown : Below w5.heap.size w5 (w5.alloc o)).frozen (by go_size)).trans f5_1; have k5_2 : w5.cell? ⟨w2.heap.size, 0, none⟩ = some (.int .i64 (v1 - 4)) := (hO5.cell (by go_size) (show w2.heap.size ≠ b by omega)).trans (cell_later (by go_grown : Below w4.heap.size w4 _) k4_2); have a5_2 : ∀ o, (w5.alloc o).cell? ⟨w2.heap.size, 0, none⟩ = some (.int .i64 (v1 - 4)) := fun o => cell_later ((Below.refl _ _).alloc (Nat.le_refl _) o) k5_2; have f5_2 : w5.frozen? ⟨w2.heap.size, 0, none⟩ = false := (hO5.frozen (by go_size) (show w2.heap.size ≠ b by omega)).trans (((by go_grown : Below w4.heap.size w4 _).frozen (by go_size)).trans f4_2); have g5_2 : ∀ o, (w5.alloc o).frozen? ⟨w2.heap.size, 0, none⟩ = false := fun o => ((by go_grown : Below w5.heap.size w5 (w5.alloc o)).frozen (by go_size)).trans f5_2; have k5_3 : w5.cell? ⟨w2.heap.size, 1, none⟩ = some (.int .i64 (v2 - 4)) := (hO5.cell (by go_size) (show w2.heap.size ≠ b by omega)).trans (cell_later (by go_grown : Below w4.heap.size w4 _) k4_3); have a5_3 : ∀ o, (w5.alloc o).cell? ⟨w2.heap.size, 1, none⟩ = some (.int .i64 (v2 - 4)) := fun o => cell_later ((Below.refl _ _).alloc (Nat.le_refl _) o) k5_3; have f5_3 : w5.frozen? ⟨w2.heap.size, 1, none⟩ = false := (hO5.frozen (by go_size) (show w2.heap.size ≠ b by omega)).trans (((by go_grown : Below w4.heap.size w4 _).frozen (by go_size)).trans f4_3); have g5_3 : ∀ o, (w5.alloc o).frozen? ⟨w2.heap.size, 1, none⟩ = false := fun o => ((by go_grown : Below w5.heap.size w5 (w5.alloc o)).frozen (by go_size)).trans f5_3; have hT5 : Hid (Only b w w5) := (by repeat' (first | (with_reducible exact hT4.out) | (with_reducible refine Only.alloc ?_ _) | (with_reducible refine Only.setCell ?_ (Or.inr ?_) _) | (with_reducible refine Only.drew ?_) | go_size) : Only b w _).trans hO5))))
  all_goals first
    | (refine bodyPost_ret (v := .agg #[.int .i64 (v4), .int .i64 (v5)]) (by simp [results, Tryd.results72, go_sem, k5_0, k5_1]) rfl ⟨v4, v5, rfl, by omega, by omega, by omega, by omega, (hR5.below (by go_grown)).mono (by omega), (by repeat' (first | (with_reducible exact hT5.out) | (with_reducible refine Only.alloc ?_ _) | (with_reducible refine Only.setCell ?_ (Or.inr ?_) _) | (with_reducible refine Only.drew ?_) | go_size) : Only b w _)⟩)
    | (refine bodyPost_ret (v := .agg #[.int .i64 (v1 - 4), .int .i64 (v2 - 4)]) (by simp [results, Tryd.results72, go_sem, k3_0, k3_1]) rfl ⟨v1 - 4, v2 - 4, rfl, by omega, by omega, by omega, by omega, (hR3.below (by go_grown)).mono (by omega), (by repeat' (first | (with_reducible exact hT3.out) | (with_reducible refine Only.alloc ?_ _) | (with_reducible refine Only.setCell ?_ (Or.inr ?_) _) | (with_reducible refine Only.drew ?_) | go_size) : Only b w _)⟩)
end Go.Proofs.YtibmgoaildhclaaDoor
namespace Go.Proofs.YtibmgoaildhclaaDoor
open Go.RowKit
set_option linter.unusedVariables false
set_option maxRecDepth 8000
theorem row_later {N : Nat} {v : Value} {l : List (Int × Int)} {w w' : World} (h : w.ownsRow N 44 2 v l.length (cells l)) (hb : Below w.heap.size w w') : w'.ownsRow N 44 2 v l.length (cells l) := row_of ((own_of h).later hb)
theorem Only.grown {b : Nat} {w u w' : World} {row : Option Nat} (h : Only b w u) (hg : u.grownBy w' row) (hr : ∀ k, row = some k → w.heap.size ≤ k) : Only b w w' :=
  ⟨hg.os.trans h.os, hg.tape.trans h.tape, hg.output.trans h.output, Nat.le_trans h.size hg.size, fun k hk hkb => (hg.block k (by have := h.size; omega) (fun e => by have := hr k e.symm; omega)).trans (h.block k hk hkb)⟩
theorem Own.only {N b : Nat} {v : Value} {l : List (Int × Int)} {u u' : World} (h : Own N v l u) (hO : Only b u u') (hb : b < N) : Own N v l u' := by
  rcases h with h | ⟨g, c, f, e, h1, h2, h3, ⟨cc, k1, k2, k3⟩, h5⟩
  · exact .inl h
  · have hlt : g < u.heap.size := by
      by_cases hg : g < u.heap.size
      · exact hg
      · rw [Array.getElem?_eq_none (by omega)] at k1; cases k1
    exact .inr ⟨g, c, f, e, h1, h2, h3, ⟨cc, (hO.block g hlt (by omega)).trans k1, k2, k3⟩, h5⟩
theorem row_only {N b : Nat} {v : Value} {l : List (Int × Int)} {u u' : World} (h : u.ownsRow N 44 2 v l.length (cells l)) (hO : Only b u u') (hb : b < N) : u'.ownsRow N 44 2 v l.length (cells l) := row_of ((own_of h).only hO hb)
theorem Rd.grown {N b m B : Nat} {w w' : World} {row : Option Nat} (h : Rd N b m w) (hg : w.grownBy w' row) (hr : ∀ k, row = some k → B ≤ k) (hB : b + 1 ≤ B) : Rd N b m w' :=
  h.below ((Below.refl _ _).grown hg (by have := h.lt; omega) (fun k hk => by have := hr k hk; omega))
set_option maxHeartbeats 2000000 in
theorem points_r (N b m : Nat) (w : World) (h : Rd N b m w) (hm : m ≤ 800000) :
    Calls Tryd.prog 63 #[.pointer (some ⟨b, 0, none⟩), .int .i64 12] w fun e w' => ∃ v, e = .returned v ∧ ∃ o, Own w.heap.size v o w' ∧ o.length ≤ 12 ∧ (∀ p ∈ o, goodB p.1 p.2 = true) ∧ Rd N b (m + 200) w' ∧ Only b w w' := by
  have hb := h.lt
  have H := hid h
  clear h
  obtain ⟨i0, hi, hz0, hz1, hz2⟩ := info_parts info_pt
  go_enter Tryd.func63, Tryd.ntmps63
  go_wp2_with (go_at_call 38; refine (pick_r 13 (by omega) (by omega) N b m _ H.out (by omega)).mono ?_; rintro e w1 ⟨n, rfl, hn0, hn1, hR1, hO1⟩; obtain ⟨n, rfl⟩ := Int.eq_ofNat_of_zero_le hn0)
  go_loopw [5, 6] (fun v sn wr => ∃ (k : Nat) (ln : List (Int × Int)), k + ln.length ≤ 12 ∧ sn = .int .i64 k ∧ wr.ownsRow w.heap.size 44 2 v ln.length (cells ln) ∧ Rd N b (m + 1 + 5 * ln.length) wr ∧ Only b w wr) (fun v sn _ => (intOf sn).toNat)
  case atStart => exact ⟨n, [], by simp; omega, rfl, World.ownsRow_nil _ _ _ _, hR1, hO1⟩
  case round =>
    obtain ⟨k, ln, hk, rfl, hown, hR, hO⟩ := hrel
    have HR := hid hR
    have HO := hid hO
    have hsr := hO.size
    clear hR hO
    by_cases hk0 : 0 < k
    · go_wp2_with (first
        | (go_at_call 72; refine (point_r N b _ _ HR.out (by omega)).mono ?_; rintro e w2 ⟨x, y, rfl, _, _, _, _, hR2, hO2⟩; have hown2 := row_only hown hO2 hb; have hs2 := hO2.size; have hs3 : w.heap.size ≤ w2.heap.size := by omega)
        | (at_builtin; refine wpList_append_own _ rfl (.tmp 21) (.tmp 24) 24 rfl w.heap.size 44 i0 _ 2 16 Tryd.underlying24 hi hz0 hz1 hz2 rfl (by decide) _ _ _ rfl (hown2.alloc _) _ 1 1 (cells [(x, y)]) rfl rfl (one_src w2 _ _ _ rfl) (cells_ones _) (by unfold maxLen; omega) (by omega) (by simp; omega) ?_; intro v9 w9 hown9 hgrow9 _))
      go_roundw
      case rel =>
        refine ⟨k - 1, ln ++ [(x, y)], by simp; omega, by congr 1; omega, ?_, ?_, ?_⟩
        · rw [List.length_append, cells_append]; exact hown9
        · rw [List.length_append]
          exact ((hR2.below (by go_grown)).grown hgrow9 (fun q hq => (hown2.lt q hq).1) hb).mono (by simp; omega)
        · exact ((HO.out.trans hO2).alloc _).grown hgrow9 (fun q hq => (hown2.lt q hq).1)
      case measure => simp [intOf]; omega
    · obtain rfl : k = 0 := by omega
      obtain ⟨av, cv, hv⟩ := (own_of hown).shape
      subst hv
      go_wp2_with (go_at_call 37; refine (one_r 6 (by omega) (by omega) N b _ _ HR.out (by omega)).mono ?_; rintro e w5 ⟨v5, rfl, hR5, hO5'⟩; have hown5 := row_only hown hO5' hb; have hO5 := HO.out.trans hO5'; clear hown HR HO)
      · obtain rfl : v5 = true := by assumption
        have hln0 : ln.length ≤ 12 := by omega
        clear hown5
        have tp1 : True := trivial
        have tp2 : True := trivial
        go_wp2_with (first
          | (go_at_call 72; refine (point_r N b _ _ hR5 (by omega)).mono ?_; rintro e w6 ⟨x, y, rfl, _, _, _, _, hR6, hO6⟩; have hb6 := hR6.lt; have P0 := box0 w6 x y 44; have P1 := box1 w6 x y 44)
          | (go_at_call 38; clear tp1; refine (pick_r 3 (by omega) (by omega) N b _ _ (hR6.below (by go_grown)) (by omega)).mono ?_; rintro e w7 ⟨d1, rfl, hd0, hd1, hR7, hO7⟩; have P2 := (hO7.cell (World.block_lt_of_cell? _ _ P0) (by show w6.heap.size ≠ b; omega)).trans P0; have P3 := (hO7.cell (World.block_lt_of_cell? _ _ P1) (by show w6.heap.size ≠ b; omega)).trans P1; have hs7 := hO7.size)
          | (go_at_call 38; clear tp2; refine (pick_r 3 (by omega) (by omega) N b _ _ hR7 (by omega)).mono ?_; rintro e w8 ⟨d2, rfl, he0, he1, hR8, hO8⟩; have P4 := (hO8.cell (World.block_lt_of_cell? _ _ P2) (by show w6.heap.size ≠ b; omega)).trans P2; have P5 := (hO8.cell (World.block_lt_of_cell? _ _ P3) (by show w6.heap.size ≠ b; omega)).trans P3; have hs8 := hO8.size; have hl6 : w6.heap.size < w8.heap.size := World.block_lt_of_cell? w8 _ P4; have hb8 := hR8.lt; have D0 := box0 w8 d1 (d2 - 1) 44; have D1 := box1 w8 d1 (d2 - 1) 44)
          | (go_at_call 38; refine (pick_r 6 (by omega) (by omega) N b _ _ (hR8.below (by go_grown)) (by omega)).mono ?_; rintro e wA ⟨n2, rfl, hf0, hf1, hR9, hO9⟩; obtain ⟨n2, rfl⟩ := Int.eq_ofNat_of_zero_le hf0)
          )
        have P6 := (hO9.cell (World.block_lt_of_cell? _ _ (cell_later (by go_grown) P4)) (by show w6.heap.size ≠ b; omega)).trans (cell_later (by go_grown) P4)
        have P7 := (hO9.cell (World.block_lt_of_cell? _ _ (cell_later (by go_grown) P5)) (by show w6.heap.size ≠ b; omega)).trans (cell_later (by go_grown) P5)
        have D2 := (hO9.cell (World.block_lt_of_cell? _ _ D0) (by show w8.heap.size ≠ b; omega)).trans D0
        have D3 := (hO9.cell (World.block_lt_of_cell? _ _ D1) (by show w8.heap.size ≠ b; omega)).trans D1
        have hO59 : Only b w wA := (((((hO5.trans hO6).alloc _).trans hO7).trans hO8).alloc _).trans hO9
        have HR9 := hid hR9
        have HO9 := hid hO59
        have hs9 := hO59.size
        have hl8 : w8.heap.size < wA.heap.size := World.block_lt_of_cell? wA _ D2
        clear hR5 hO5 hR6 hO6 hR7 hO7 hR8 hO8 hR9 hO9 hO59 P0 P1 P2 P3 P4 P5 D0 D1 hk hk0 hsr
        go_loopw [5, 9] (fun v sn wr => ∃ (k : Nat) (ln : List (Int × Int)), k + ln.length ≤ 5 ∧ sn = .int .i64 k ∧ wr.ownsRow wA.heap.size 44 2 v ln.length (cells ln) ∧ Below wA.heap.size wA wr) (fun v sn _ => (intOf sn).toNat)
        case atStart => exact ⟨n2, [], by simp; omega, rfl, World.ownsRow_nil _ _ _ _, Below.refl _ _⟩
        case round =>
          obtain ⟨k, ln2, hk, rfl, hown, hbr⟩ := hrel
          have hsr := hbr.size
          by_cases hk0 : 0 < k
          · have p0 := cell_later hbr P6
            have p1 := cell_later hbr P7
            have d0 := cell_later hbr D2
            have d1 := cell_later hbr D3
            go_wp2_with (at_builtin; refine wpList_append_own _ rfl (.tmp 42) (.tmp 58) 24 rfl wA.heap.size 44 i0 _ 2 16 Tryd.underlying24 hi hz0 hz1 hz2 rfl (by decide) _ _ _ rfl (hown.alloc _) _ 1 1 (cells [(_, _)]) rfl rfl (one_src wr _ _ _ rfl) (cells_ones _) (by unfold maxLen; omega) (by omega) (by simp; omega) ?_; intro v9 w9 hown9 hgrow9 _)
            go_roundw
            case rel =>
              obtain ⟨p, hp⟩ : ∃ p, w9.ownsRow wA.heap.size 44 2 v9 (ln2.length + 1) (cells ln2 ++ cells [p]) := ⟨_, hown9⟩
              refine ⟨k - 1, ln2 ++ [p], by simp; omega, by congr 1; omega, ?_, ?_⟩
              · rw [List.length_append, cells_append]; exact hp
              · exact grown_own hbr (by go_grown) hgrow9 hown
            case measure => simp [intOf]; omega
          · obtain rfl : k = 0 := by omega
            obtain ⟨av, cv, hv⟩ := (own_of hown).shape
            subst hv
            have hR5 : Rd N b (m + 100) wr := (HR9.out.below (hbr.mono (by omega))).mono (by omega)
            have hO5 : Only b w wr := HO9.out.trans (Only.ofBelow hbr)
            have hown5 := row_of ((own_of hown).mono hs9)
            have hln : ln2.length ≤ 12 := by omega
            clear hown hk hk0 hsr
            obtain ⟨w55, hw55⟩ : ∃ u, u = wr := ⟨_, rfl⟩
            subst hw55
            go_wp2
            have HO5 := hid (own_of hown5)
            have HA5 := hid (own_of hown5).at
            have HR5 := hid hR5
            have HY5 := hid hO5
            clear hown5 hR5 hO5
            go_loopw [10, 62] (fun v si wr => ∃ (k3 : Nat) (o : List (Int × Int)), (k3 ≤ ln2.length ∧ o.length ≤ k3) ∧ si = .int .i64 k3 ∧ wr.ownsRow w55.heap.size 44 2 v o.length (cells o) ∧ (∀ p ∈ o, goodB p.1 p.2 = true) ∧ Below w55.heap.size w55 wr) (fun v si _ => ln2.length - (intOf si).toNat)
            case atStart => exact ⟨0, [], ⟨Nat.zero_le _, Nat.le_refl _⟩, rfl, World.ownsRow_nil _ _ _ _, by simp, Below.refl _ _⟩
            case round =>
              obtain ⟨k3, o, hk3, rfl, hown3, hgd, hbr3⟩ := hrel
              have HG := hid hgd
              clear hgd
              have hsr3 := hbr3.size
              by_cases hkl : k3 < ln2.length
              · obtain ⟨bb, off, rfl, hbN, g0, g1⟩ := HA5.out k3 hkl
                have q0 := cell_later hbr3 g0
                have q1 := cell_later hbr3 g1
                clear g0 g1
                have hbb : bb < wr.heap.size := by omega
                cases hE : goodB (px ln2 k3) (py ln2 k3)
                · go_wp2_with (go_at_call 60; refine (goodSpec_e _ _ _).mono ?_; rintro e w8 ⟨rfl, hb8⟩)
                  go_roundw
                  case rel =>
                    have hb58 : Below wr.heap.size wr w8 := grew (by go_grown) hb8
                    first | exact ⟨k3 + 1, o, by omega, by go_num, row_later hown3 hb58, HG.out, grew hbr3 hb58⟩ | (refine ⟨_, _, _, _, _, _, _, _, _, _, _, _, _, ⟨k3 + 1, o, by omega, ?_, row_later hown3 hb58, HG.out, grew hbr3 hb58⟩, rfl⟩; go_num)
                  case measure => simp [intOf]; omega
                · have HB0 := hid (box0 wr (px ln2 k3) (py ln2 k3) 44)
                  have HB1 := hid (box1 wr (px ln2 k3) (py ln2 k3) 44)
                  go_wp2_with (first | (go_at_call 60; refine (goodSpec_e _ _ _).mono ?_; rintro e w8 ⟨rfl, hb8⟩; have c0 := cell_later hb8 HB0.out; have c1 := cell_later hb8 HB1.out; have hb58 : Below wr.heap.size wr w8 := grew (by go_grown) hb8; have hown8 := row_later hown3 hb58; have hlt8 : wr.heap.size < w8.heap.size := World.block_lt_of_cell? w8 _ c0; have hs8 : w55.heap.size ≤ w8.heap.size := by omega) | (at_builtin; refine wpList_append_own _ rfl (.tmp 68) (.tmp 70) 24 rfl w55.heap.size 44 i0 _ 2 16 Tryd.underlying24 hi hz0 hz1 hz2 rfl (by decide) _ _ _ rfl (hown8.alloc _) _ 1 1 (cells [(px ln2 k3, py ln2 k3)]) rfl rfl (one_src w8 _ _ _ rfl) (cells_ones _) (by unfold maxLen; omega) (by omega) (by simp; omega) ?_; intro v9 w9 hown9 hgrow9 _))
                  go_roundw
                  case rel =>
                    have hR9 : w9.ownsRow w55.heap.size 44 2 v9 (o ++ [(px ln2 k3, py ln2 k3)]).length (cells (o ++ [(px ln2 k3, py ln2 k3)])) := by
                      rw [List.length_append, cells_append]; exact hown9
                    have hG9 : ∀ p ∈ o ++ [(px ln2 k3, py ln2 k3)], goodB p.1 p.2 = true := by
                      intro p hp
                      rcases List.mem_append.1 hp with h | h
                      · exact HG.out p h
                      · obtain rfl := List.mem_singleton.1 h
                        exact hE
                    have hB9 : Below w55.heap.size w55 w9 := grown_own (grew hbr3 hb58) (by go_grown) hgrow9 hown8
                    first | exact ⟨k3 + 1, o ++ [(px ln2 k3, py ln2 k3)], ⟨by omega, by simp; omega⟩, by go_num, hR9, hG9, hB9⟩ | (refine ⟨_, _, _, _, _, _, _, _, _, _, _, _, _, ⟨k3 + 1, o ++ [(px ln2 k3, py ln2 k3)], ⟨by omega, by simp; omega⟩, ?_, hR9, hG9, hB9⟩, rfl⟩; go_num)
                  case measure => simp [intOf]; omega
              · go_wp2
                go_ret
                exact ⟨_, rfl, o, (own_of hown3).mono HY5.out.size, by omega, (by first | exact HG.out | exact fun a b h => HG.out (a, b) h), (HR5.out.below (hbr3.mono (by have := HY5.out.size; omega))).mono (by omega), HY5.out.trans (Only.ofBelow hbr3)⟩
      · obtain rfl : v5 = false := by assumption
        have hln : ln.length ≤ 12 := by omega
        clear hk hk0 hsr
        have HO5 := hid (own_of hown5)
        have HA5 := hid (own_of hown5).at
        have HR5 := hid hR5
        have HY5 := hid hO5
        clear hown5 hR5 hO5
        go_loopw [10, 62] (fun v si wr => ∃ (k3 : Nat) (o : List (Int × Int)), (k3 ≤ ln.length ∧ o.length ≤ k3) ∧ si = .int .i64 k3 ∧ wr.ownsRow w5.heap.size 44 2 v o.length (cells o) ∧ (∀ p ∈ o, goodB p.1 p.2 = true) ∧ Below w5.heap.size w5 wr) (fun v si _ => ln.length - (intOf si).toNat)
        case atStart => exact ⟨0, [], ⟨Nat.zero_le _, Nat.le_refl _⟩, rfl, World.ownsRow_nil _ _ _ _, by simp, Below.refl _ _⟩
        case round =>
          obtain ⟨k3, o, hk3, rfl, hown3, hgd, hbr3⟩ := hrel
          have HG := hid hgd
          clear hgd
          have hsr3 := hbr3.size
          by_cases hkl : k3 < ln.length
          · obtain ⟨bb, off, rfl, hbN, g0, g1⟩ := HA5.out k3 hkl
            have q0 := cell_later hbr3 g0
            have q1 := cell_later hbr3 g1
            clear g0 g1
            have hbb : bb < wr.heap.size := by omega
            cases hE : goodB (px ln k3) (py ln k3)
            · go_wp2_with (go_at_call 60; refine (goodSpec_e _ _ _).mono ?_; rintro e w8 ⟨rfl, hb8⟩)
              go_roundw
              case rel =>
                have hb58 : Below wr.heap.size wr w8 := grew (by go_grown) hb8
                first | exact ⟨k3 + 1, o, by omega, by go_num, row_later hown3 hb58, HG.out, grew hbr3 hb58⟩ | (refine ⟨_, _, _, _, _, _, _, _, _, _, _, _, _, ⟨k3 + 1, o, by omega, ?_, row_later hown3 hb58, HG.out, grew hbr3 hb58⟩, rfl⟩; go_num)
              case measure => simp [intOf]; omega
            · have HB0 := hid (box0 wr (px ln k3) (py ln k3) 44)
              have HB1 := hid (box1 wr (px ln k3) (py ln k3) 44)
              go_wp2_with (first | (go_at_call 60; refine (goodSpec_e _ _ _).mono ?_; rintro e w8 ⟨rfl, hb8⟩; have c0 := cell_later hb8 HB0.out; have c1 := cell_later hb8 HB1.out; have hb58 : Below wr.heap.size wr w8 := grew (by go_grown) hb8; have hown8 := row_later hown3 hb58; have hlt8 : wr.heap.size < w8.heap.size := World.block_lt_of_cell? w8 _ c0; have hs8 : w5.heap.size ≤ w8.heap.size := by omega) | (at_builtin; refine wpList_append_own _ rfl (.tmp 68) (.tmp 70) 24 rfl w5.heap.size 44 i0 _ 2 16 Tryd.underlying24 hi hz0 hz1 hz2 rfl (by decide) _ _ _ rfl (hown8.alloc _) _ 1 1 (cells [(px ln k3, py ln k3)]) rfl rfl (one_src w8 _ _ _ rfl) (cells_ones _) (by unfold maxLen; omega) (by omega) (by simp; omega) ?_; intro v9 w9 hown9 hgrow9 _))
              go_roundw
              case rel =>
                have hR9 : w9.ownsRow w5.heap.size 44 2 v9 (o ++ [(px ln k3, py ln k3)]).length (cells (o ++ [(px ln k3, py ln k3)])) := by
                  rw [List.length_append, cells_append]; exact hown9
                have hG9 : ∀ p ∈ o ++ [(px ln k3, py ln k3)], goodB p.1 p.2 = true := by
                  intro p hp
                  rcases List.mem_append.1 hp with h | h
                  · exact HG.out p h
                  · obtain rfl := List.mem_singleton.1 h
                    exact hE
                have hB9 : Below w5.heap.size w5 w9 := grown_own (grew hbr3 hb58) (by go_grown) hgrow9 hown8
                first | exact ⟨k3 + 1, o ++ [(px ln k3, py ln k3)], ⟨by omega, by simp; omega⟩, by go_num, hR9, hG9, hB9⟩ | (refine ⟨_, _, _, _, _, _, _, _, _, _, _, _, _, ⟨k3 + 1, o ++ [(px ln k3, py ln k3)], ⟨by omega, by simp; omega⟩, ?_, hR9, hG9, hB9⟩, rfl⟩; go_num)
              case measure => simp [intOf]; omega
          · go_wp2
            go_ret
            exact ⟨_, rfl, o, (own_of hown3).mono HY5.out.size, by omega, (by first | exact HG.out | exact fun a b h => HG.out (a, b) h), (HR5.out.below (hbr3.mono (by have := HY5.out.size; omega))).mono (by omega), HY5.out.trans (Only.ofBelow hbr3)⟩
end Go.Proofs.YtibmgoaildhclaaDoor
namespace Go.Proofs.YtibmgoaildhclaaDoor
open Go.RowKit
set_option linter.unusedVariables false
set_option maxRecDepth 8000
theorem Own.set {N g n cap : Nat} {l : List (Int × Int)} {w : World} (h : Own N (.slice (some ⟨g, 0, none⟩) n cap) l w) (j : Nat) (x : Int) : ∃ l' : List (Int × Int), l'.length = l.length ∧ Own N (.slice (some ⟨g, 0, none⟩) n cap) l' (w.setCell ⟨g, j, none⟩ (.int .i64 x)) := by
  rcases h with ⟨_, e⟩ | ⟨g', c', f, e, h1, h2, h3, h4, h5⟩
  · simp at e
  · simp at e
    obtain ⟨rfl, rfl, rfl⟩ := e
    refine ⟨(List.range l.length).map fun i => (if i * 2 = j then x else px l i, if i * 2 + 1 = j then x else py l i), by simp, .inr ⟨g, cap, _, by simp, h1, by simpa using h2, h3, h4.set j _, fun i hi => ?_⟩⟩
    simp only [List.length_map, List.length_range] at hi
    have h5' := h5 i hi
    unfold cel at h5' ⊢
    by_cases hi2 : i % 2 = 0
    · rw [if_pos hi2] at h5' ⊢
      have hlt : i / 2 < l.length := by omega
      have hx : px ((List.range l.length).map fun i => (if i * 2 = j then x else px l i, if i * 2 + 1 = j then x else py l i)) (i / 2) = if i / 2 * 2 = j then x else px l (i / 2) := by simp [px, hlt]
      rw [hx, show i / 2 * 2 = i by omega]
      by_cases hij : i = j
      · rw [if_pos hij, if_pos hij]
      · rw [if_neg hij, if_neg hij]; exact h5'
    · rw [if_neg hi2] at h5' ⊢
      have hlt : i / 2 < l.length := by omega
      have hx : py ((List.range l.length).map fun i => (if i * 2 = j then x else px l i, if i * 2 + 1 = j then x else py l i)) (i / 2) = if i / 2 * 2 + 1 = j then x else py l (i / 2) := by simp [py, hlt]
      rw [hx, show i / 2 * 2 + 1 = i by omega]
      by_cases hij : i = j
      · rw [if_pos hij, if_pos hij]
      · rw [if_neg hij, if_neg hij]; exact h5'
theorem Own.block {N n cap : Nat} {a : Option Addr} {l : List (Int × Int)} {w : World} (h : Own N (.slice a n cap) l w) (hn : 0 < n) : ∃ g, a = some ⟨g, 0, none⟩ ∧ N ≤ g ∧ g < w.heap.size ∧ ∀ j, w.frozen? ⟨g, j, none⟩ = false := by
  rcases h with ⟨_, e⟩ | ⟨g, c, f, e, h1, _, _, h4, _⟩
  · simp at e; omega
  · simp at e
    exact ⟨g, e.1, h1, h4.lt, fun j => h4.frozen j⟩
set_option maxHeartbeats 1000000 in
theorem set_r (N b m : Nat) (w : World) (h : Rd N b m w) (hm : m ≤ 700000) :
    Calls Tryd.prog 47 #[.pointer (some ⟨b, 0, none⟩)] w fun e w' => ∃ v, e = .returned v ∧ ∃ l, Own w.heap.size v l w' ∧ l.length ≤ 12 ∧ Rd N b (m + 200) w' ∧ Only b w w' := by
  have hb := h.lt
  have H := hid h
  clear h
  go_enter Tryd.func47, Tryd.ntmps47
  go_wp2_with (first
    | (go_at_call 63; refine (points_r N b m _ H.out (by omega)).mono ?_; rintro e w1 ⟨v1, rfl, o, ho1, hl1, _, hR1, hO1⟩; obtain ⟨a1, p1, hv1⟩ := ho1.shape; subst hv1; have hs1 := hO1.size; have hf1 := fromL_len o o.length (Nat.le_refl _))
    | (go_at_call 62; refine (l2From_c o _ _ _ w1 rfl (by omega) ho1.at).mono ?_; rintro e w2 ⟨v2, rfl, ho2, hb2⟩))
  go_ret
  rw [List.take_length] at hf1
  exact ⟨_, rfl, _, ho2.mono hs1, by omega, hR1.below (hb2.mono (by omega)), hO1.trans (Only.ofBelow hb2)⟩
end Go.Proofs.YtibmgoaildhclaaDoor
