/-
  The draws of the drawn laws: what the specification's cursor hands out (contracts for the walks).
  Conditions: as each theorem states them.
-/
import Derived.Test.YtipiamhnngmjmaaDoorB1
import Derived.WalkKit
import Derived.ProofKit
import Derived.OpenShut
import Derived.Handy
import Derived.WalkSpells
import Derived.Deep.QuietTactic
import Derived.BigQuiet
import Derived.Deep.RegionHeld3
import Derived.Laws.Bits64b
namespace Go.Proofs.YtipiamhnngmjmaaDoor
open Go.RowKit
set_option linter.unusedVariables false
set_option maxRecDepth 8000

theorem u64_lo (x : Int) : 0 ≤ IntKind.u64.wrap x := by rw [IntKind.wrap_u64]; omega
theorem u64_hi (x : Int) : IntKind.u64.wrap x ≤ 18446744073709551615 := by rw [IntKind.wrap_u64]; omega
set_option maxHeartbeats 1000000 in
/-- All blocks but one are as they were. -/
structure Only (b : Nat) (w w' : World) : Prop where
  os : w'.os = w.os
  tape : w'.tape = w.tape
  output : w'.output = w.output
  size : w.heap.size ≤ w'.heap.size
  block : ∀ k, k < w.heap.size → k ≠ b → w'.heap[k]? = w.heap[k]?
theorem Only.refl (b : Nat) (w : World) : Only b w w := ⟨rfl, rfl, rfl, Nat.le_refl _, fun _ _ _ => rfl⟩
theorem Only.trans {b : Nat} {u v w : World} (h : Only b u v) (k : Only b v w) : Only b u w :=
  ⟨k.os.trans h.os, k.tape.trans h.tape, k.output.trans h.output, Nat.le_trans h.size k.size, fun i hi hb => (k.block i (Nat.lt_of_lt_of_le hi h.size) hb).trans (h.block i hi hb)⟩
theorem Only.drew {b : Nat} {u w : World} (h : Only b u w) : Only b u w.drew := ⟨h.os, h.tape, h.output, h.size, h.block⟩
theorem Only.alloc {b : Nat} {u w : World} (h : Only b u w) (o : Obj) : Only b u (w.alloc o) := by
  have k := (Below.refl w.heap.size w).alloc (Nat.le_refl _) o
  exact ⟨h.os, h.tape, h.output, Nat.le_trans h.size k.size, fun i hi hb => (k.block i (Nat.lt_of_lt_of_le hi h.size)).trans (h.block i hi hb)⟩
theorem Only.setCell {b : Nat} {u w : World} (h : Only b u w) {p : Addr} (hp : p.block = b ∨ u.heap.size ≤ p.block) (v : Value) : Only b u (w.setCell p v) := by
  refine ⟨h.os, h.tape, h.output, ?_, fun i hi hb => (Below.heap_setCell w p v i ?_).trans (h.block i hi hb)⟩
  · rw [World.size_setCell]; exact h.size
  · rcases hp with hp | hp
    · rw [hp]; exact hb
    · omega
theorem Only.ofBelow {b : Nat} {u w : World} (h : Below u.heap.size u w) : Only b u w := ⟨h.os, h.tape, h.output, h.size, fun i hi _ => h.block i hi⟩
theorem Only.below {b B : Nat} {u w : World} (h : Only b u w) (hB : B ≤ u.heap.size) (hb : B ≤ b) : Below B u w :=
  ⟨h.os, h.tape, h.output, h.size, fun i hi => h.block i (by omega) (by omega)⟩
theorem Only.cell {b : Nat} {u w : World} (h : Only b u w) {p : Addr} (hp : p.block < u.heap.size) (hb : p.block ≠ b) : w.cell? p = u.cell? p := World.cell?_of_block (w := u) (h.block p.block hp hb)
theorem Only.frozen {b : Nat} {u w : World} (h : Only b u w) {p : Addr} (hp : p.block < u.heap.size) (hb : p.block ≠ b) : w.frozen? p = u.frozen? p := World.frozen?_of_block (w := u) (h.block p.block hp hb)

/-- The cursor's cells. -/
structure Cur (b : Nat) (a : Option Addr) (len cap k : Nat) (w : World) : Prop where
  c0 : w.cell? ⟨b, 0, none⟩ = some (.slice a len cap)
  c1 : w.cell? ⟨b, 1, none⟩ = some (.int .i64 k)
  c2 : ∃ s : Int, w.cell? ⟨b, 2, none⟩ = some (.int .u64 s) ∧ 0 ≤ s ∧ s ≤ 18446744073709551615
  f1 : w.frozen? ⟨b, 1, none⟩ = false
  f2 : w.frozen? ⟨b, 2, none⟩ = false
/-- The bytes that it reads lie below N. -/
def Bytes (N : Nat) (a : Option Addr) (len : Nat) (w : World) : Prop :=
  ∀ i, i < len → ∃ blk off z, a = some ⟨blk, off, none⟩ ∧ blk < N ∧ w.cell? ⟨blk, off + i, none⟩ = some (.int .u8 z) ∧ 0 ≤ z ∧ z ≤ 255
theorem Cur.lt {b : Nat} {a : Option Addr} {len cap k : Nat} {w : World} (h : Cur b a len cap k w) : b < w.heap.size := World.block_lt_of_cell? w _ h.c0
theorem Bytes.later {N b : Nat} {a : Option Addr} {len : Nat} {w w' : World} (h : Bytes N a len w) (hO : Only b w w') (hN : N ≤ b) : Bytes N a len w' := fun i hi => by
  obtain ⟨blk, off, z, e, hb, hc, h0, h1⟩ := h i hi
  exact ⟨blk, off, z, e, hb, (hO.cell (World.block_lt_of_cell? w _ hc) (by show blk ≠ b; omega)).trans hc, h0, h1⟩
theorem Bytes.below {N : Nat} {a : Option Addr} {len : Nat} {w w' : World} (h : Bytes N a len w) (hO : Below w.heap.size w w') : Bytes N a len w' := fun i hi => by
  obtain ⟨blk, off, z, e, hb, hc, h0, h1⟩ := h i hi
  exact ⟨blk, off, z, e, hb, cell_later hO hc, h0, h1⟩
theorem Cur.below {b : Nat} {a : Option Addr} {len cap k : Nat} {w w' : World} (h : Cur b a len cap k w) (hO : Below w.heap.size w w') : Cur b a len cap k w' := by
  obtain ⟨s, hs, h0, h1⟩ := h.c2
  exact ⟨cell_later hO h.c0, cell_later hO h.c1, ⟨s, cell_later hO hs, h0, h1⟩, (hO.frozen h.lt).trans h.f1, (hO.frozen h.lt).trans h.f2⟩
theorem drewN_only (b n : Nat) (w : World) : Only b w (w.drewN n) := Only.ofBelow (by
  induction n with
  | zero => exact Below.refl _ _
  | succ n ih => exact ih.drew)
/-- Behind the two stores of a step. -/
theorem Cur.step {b : Nat} {a : Option Addr} {len cap k n m : Nat} {v s : Int} {w : World} (h : Cur b a len cap k w) (ev : v = ((k + 1 : Nat) : Int)) (s0 : 0 ≤ s) (s1 : s ≤ 18446744073709551615) :
    Cur b a len cap (k + 1) ((((w.drewN n).setCell ⟨b, 1, none⟩ (.int .i64 v)).setCell ⟨b, 2, none⟩ (.int .u64 s)).drewN m) ∧ Only b w ((((w.drewN n).setCell ⟨b, 1, none⟩ (.int .i64 v)).setCell ⟨b, 2, none⟩ (.int .u64 s)).drewN m) := by
  obtain ⟨c0, c1, ⟨s', c2, _, _⟩, f1, f2⟩ := h
  subst ev
  refine ⟨⟨?_, ?_, ⟨s, ?_, s0, s1⟩, ?_, ?_⟩, ?_⟩
  · simp [go_sem, c0]
  · simp [go_sem, c1]
  · simp [go_sem, c2]
  · simp [go_sem, f1]
  · simp [go_sem, f2]
  · exact (((drewN_only b n w).setCell (.inl rfl) _).setCell (.inl rfl) _).trans (drewN_only b m _)
theorem and255 (x : Int) (h0 : 0 ≤ x) (h1 : x ≤ 18446744073709551615) : 0 ≤ wrap64 (bits .and .u64 (x / 1099511627776) 255) ∧ wrap64 (bits .and .u64 (x / 1099511627776) 255) ≤ 255 := by
  obtain ⟨q, hq⟩ := Int.eq_ofNat_of_zero_le (show 0 ≤ x / 1099511627776 by omega)
  rw [hq]
  have h := bits_and_u64_nat q 255 (by omega) (by omega)
  have e : q &&& 255 = q % 256 := Nat.and_two_pow_sub_one_eq_mod q 8
  rw [e] at h
  have h' : bits .and .u64 (q : Int) 255 = ((q % 256 : Nat) : Int) := h
  rw [h']
  unfold wrap64
  omega
set_option maxHeartbeats 1000000 in
theorem next_in (b blk off len cap k : Nat) (z s : Int) (w : World) (hk : k < len) (hl : len ≤ 1048576) (hz : 0 ≤ z) (hz' : z ≤ 255)
    (c0 : w.cell? ⟨b, 0, none⟩ = some (.slice (some ⟨blk, off, none⟩) len cap)) (c1 : w.cell? ⟨b, 1, none⟩ = some (.int .i64 k)) (c2 : w.cell? ⟨b, 2, none⟩ = some (.int .u64 s))
    (f1 : w.frozen? ⟨b, 1, none⟩ = false) (f2 : w.frozen? ⟨b, 2, none⟩ = false) (cb : w.cell? ⟨blk, off + k, none⟩ = some (.int .u8 z)) (hne : ¬ blk = b) (H : Hid (Cur b (some ⟨blk, off, none⟩) len cap k w)) :
    Calls Tryd.prog 113 #[.pointer (some ⟨b, 0, none⟩)] w fun e w' => ∃ v : Int, e = .returned (.int .i64 v) ∧ 0 ≤ v ∧ v ≤ 255 ∧ Cur b (some ⟨blk, off, none⟩) len cap (k + 1) w' ∧ Only b w w' := by
  have hk' : (k : Int) < (len : Int) := by omega
  have hk0 : (0 : Int) ≤ (k : Int) := by omega
  go_enter Tryd.func113, Tryd.ntmps113
  go_wp2
  go_quiet (fail)
  go_wp2
  go_quiet (fail)
  go_wp2
  go_quiet (fail)
  go_wp2
  go_ret
  exact ⟨z, rfl, hz, hz', H.out.step (by omega) (u64_lo _) (u64_hi _)⟩
set_option maxHeartbeats 1000000 in
theorem next_out (b len cap k : Nat) (a : Option Addr) (s : Int) (w : World) (hk : ¬ k < len) (hl : len ≤ 1048576) (hk1 : k ≤ 1000000000)
    (c0 : w.cell? ⟨b, 0, none⟩ = some (.slice a len cap)) (c1 : w.cell? ⟨b, 1, none⟩ = some (.int .i64 k)) (c2 : w.cell? ⟨b, 2, none⟩ = some (.int .u64 s))
    (f1 : w.frozen? ⟨b, 1, none⟩ = false) (f2 : w.frozen? ⟨b, 2, none⟩ = false) (H : Hid (Cur b a len cap k w)) :
    Calls Tryd.prog 113 #[.pointer (some ⟨b, 0, none⟩)] w fun e w' => ∃ v : Int, e = .returned (.int .i64 v) ∧ 0 ≤ v ∧ v ≤ 255 ∧ Cur b a len cap (k + 1) w' ∧ Only b w w' := by
  have hk' : ¬ (k : Int) < (len : Int) := by omega
  have hk0 : (0 : Int) ≤ (k : Int) := by omega
  go_enter Tryd.func113, Tryd.ntmps113
  go_wp2
  go_quiet (fail)
  go_wp2
  go_quiet (fail)
  go_wp2
  go_ret
  exact ⟨_, rfl, (and255 _ (u64_lo _) (u64_hi _)).1, (and255 _ (u64_lo _) (u64_hi _)).2, H.out.step (by omega) (u64_lo _) (u64_hi _)⟩
/-- A cursor that is ready: its cells, the bytes below N, at most m taken. -/
def Rd (N b m : Nat) (w : World) : Prop := ∃ a len cap k, Cur b a len cap k w ∧ Bytes N a len w ∧ N ≤ b ∧ len ≤ 1048576 ∧ k ≤ m
theorem Rd.lt {N b m : Nat} {w : World} (h : Rd N b m w) : b < w.heap.size := by obtain ⟨_, _, _, _, h, _⟩ := h; exact h.lt
theorem Rd.mono {N b m m' : Nat} {w : World} (h : Rd N b m w) (hm : m ≤ m') : Rd N b m' w := by obtain ⟨a, l, c, k, h1, h2, h3, h4, h5⟩ := h; exact ⟨a, l, c, k, h1, h2, h3, h4, by omega⟩
theorem Rd.below {N b m : Nat} {w w' : World} (h : Rd N b m w) (hB : Below (b + 1) w w') : Rd N b m w' := by
  obtain ⟨a, l, c, k, h1, h2, h3, h4, h5⟩ := h
  obtain ⟨s, hs, k0, k1⟩ := h1.c2
  refine ⟨a, l, c, k, ⟨(hB.cell (Nat.lt_succ_self b)).trans h1.c0, (hB.cell (Nat.lt_succ_self b)).trans h1.c1, ⟨s, (hB.cell (Nat.lt_succ_self b)).trans hs, k0, k1⟩, (hB.frozen (Nat.lt_succ_self b)).trans h1.f1, (hB.frozen (Nat.lt_succ_self b)).trans h1.f2⟩, fun i hi => ?_, h3, h4, h5⟩
  obtain ⟨blk, off, z, e, hb, hc, g0, g1⟩ := h2 i hi
  exact ⟨blk, off, z, e, hb, (hB.cell (show blk < b + 1 by omega)).trans hc, g0, g1⟩
theorem next_r (N b m : Nat) (w : World) (h : Rd N b m w) (hm : m ≤ 1000000) :
    Calls Tryd.prog 113 #[.pointer (some ⟨b, 0, none⟩)] w fun e w' => ∃ v : Int, e = .returned (.int .i64 v) ∧ 0 ≤ v ∧ v ≤ 255 ∧ Rd N b (m + 1) w' ∧ Only b w w' := by
  obtain ⟨a, l, c, k, h1, h2, h3, h4, h5⟩ := h
  obtain ⟨s, hs, k0, k1⟩ := h1.c2
  by_cases hk : k < l
  · obtain ⟨blk, off, z, rfl, hb, hc, g0, g1⟩ := h2 k hk
    refine (next_in b blk off l c k z s w hk h4 g0 g1 h1.c0 h1.c1 hs h1.f1 h1.f2 hc (by omega) h1).mono ?_
    rintro e w' ⟨v, he, hv0, hv1, hC, hO⟩
    exact ⟨v, he, hv0, hv1, ⟨_, l, c, k + 1, hC, h2.later hO h3, h3, h4, by omega⟩, hO⟩
  · refine (next_out b l c k a s w hk h4 (by omega) h1.c0 h1.c1 hs h1.f1 h1.f2 h1).mono ?_
    rintro e w' ⟨v, he, hv0, hv1, hC, hO⟩
    exact ⟨v, he, hv0, hv1, ⟨_, l, c, k + 1, hC, h2.later hO h3, h3, h4, by omega⟩, hO⟩
set_option maxHeartbeats 1000000 in
theorem pick_r (n : Int) (hn : 2 ≤ n) (hn' : n ≤ 200) (N b m : Nat) (w : World) (h : Rd N b m w) (hm : m ≤ 1000000) :
    Calls Tryd.prog 96 #[.pointer (some ⟨b, 0, none⟩), .int .i64 n] w fun e w' => ∃ v : Int, e = .returned (.int .i64 v) ∧ 0 ≤ v ∧ v < n ∧ Rd N b (m + 1) w' ∧ Only b w w' := by
  have H := hid h
  clear h
  have z0 : (n == 0) = false := by simp; omega
  go_enter Tryd.func96, Tryd.ntmps96
  go_wp2_with (go_at_call 113; refine (next_r N b m _ H.out hm).mono ?_; rintro e w' ⟨v, rfl, hv0, hv1, hR, hO⟩)
  go_ret
  exact ⟨_, rfl, Int.emod_nonneg _ (by omega), Int.emod_lt_of_pos _ (by omega), hR, hO⟩
theorem one_r (n : Int) (hn : 2 ≤ n) (hn' : n ≤ 200) (N b m : Nat) (w : World) (h : Rd N b m w) (hm : m ≤ 1000000) :
    Calls Tryd.prog 97 #[.pointer (some ⟨b, 0, none⟩), .int .i64 n] w fun e w' => ∃ v : Bool, e = .returned (.bool v) ∧ Rd N b (m + 1) w' ∧ Only b w w' := by
  have H := hid h
  clear h
  go_enter Tryd.func97, Tryd.ntmps97
  go_wp2_with (go_at_call 96; refine (pick_r n hn hn' N b m _ H.out hm).mono ?_; rintro e w' ⟨v, rfl, hv0, hv1, hR, hO⟩)
  go_ret
  exact ⟨_, rfl, hR, hO⟩
set_option maxHeartbeats 1000000 in
theorem among_r (P : Int → Prop) (r len : Nat) (hl : 2 ≤ len) (hl' : len ≤ 200) (N b m : Nat) (w : World) (h : Rd N b m w) (hm : m ≤ 1000000) (hr : ¬ r = b)
    (hP : ∀ i, i < len → ∃ z, w.cell? ⟨r, i, none⟩ = some (.int .i64 z) ∧ P z) :
    Calls Tryd.prog 72 #[.pointer (some ⟨b, 0, none⟩), .slice (some ⟨r, 0, none⟩) len len] w fun e w' => ∃ v : Int, e = .returned (.int .i64 v) ∧ P v ∧ Rd N b (m + 1) w' ∧ Only b w w' := by
  have H := hid h
  have HP := hid hP
  clear h hP
  go_enter Tryd.func72, Tryd.ntmps72
  go_wp2_with (go_at_call 96; refine (pick_r _ ?_ ?_ N b m _ H.out hm).mono ?_; omega; omega; rintro e w1 ⟨v, rfl, hv0, hv1, hR, hO⟩; obtain ⟨i, rfl⟩ := Int.eq_ofNat_of_zero_le hv0; obtain ⟨z, hz, hPz⟩ := HP.out i (by omega); have hc : w1.cell? ⟨r, i, none⟩ = some (.int .i64 z) := (hO.cell (World.block_lt_of_cell? _ _ hz) hr).trans hz)
  go_ret
  exact ⟨_, rfl, hPz, hR, hO⟩
end Go.Proofs.YtipiamhnngmjmaaDoor
