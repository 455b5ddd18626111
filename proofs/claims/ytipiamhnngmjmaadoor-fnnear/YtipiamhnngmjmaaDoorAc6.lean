/-
  The corners of a hull: the directions of the two sides that meet there, in the program (contracts for the walks).
  Conditions: as each theorem states them.
-/
import Derived.Test.YtipiamhnngmjmaaDoorAc5
namespace Go.Proofs.YtipiamhnngmjmaaDoor
open Go.RowKit Go.Shelf
set_option linter.unusedVariables false
set_option maxRecDepth 8000
theorem info_co : (Tryd.prog.info? 72).map (fun i => (i.zero, i.size, i.bytes)) = some (some (.agg #[.int .i64 0, .int .i64 0, .int .i64 0, .int .i64 0]), 4, 32) := by kernel_rfl
/-- What is laid of the corners when k sides are. -/
structure CorF (l : List (Int × Int)) (k : Nat) (f : Nat → Value) : Prop where
  int : ∀ i, i < l.length * 4 → ∃ z : Int, f i = .int .i64 z
  beg : ∀ j, j < k → f (j * 4 + 2) = .int .i64 (sid l j).1 ∧ f (j * 4 + 3) = .int .i64 (sid l j).2
  fin : ∀ j, j < l.length → (1 ≤ j ∧ j ≤ k) ∨ (j = 0 ∧ k = l.length) → f (j * 4) = .int .i64 (sidE l j).1 ∧ f (j * 4 + 1) = .int .i64 (sidE l j).2
theorem CorF.step {l : List (Int × Int)} {k m : Nat} {f : Nat → Value} {a b : Int} (h : CorF l k f) (hk : k < l.length) (hm : m = (k + 1) % l.length) (e : sid l k = (a, b)) :
    CorF l (k + 1) (fun i => if i = m * 4 + 1 then .int .i64 b else if i = m * 4 then .int .i64 a else if i = k * 4 + 3 then .int .i64 b else if i = k * 4 + 2 then .int .i64 a else f i) := by
  have hmm : (m = k + 1 ∧ k + 1 < l.length) ∨ (m = 0 ∧ k + 1 = l.length) := by
    by_cases h1 : k + 1 < l.length
    · exact .inl ⟨by rw [hm, Nat.mod_eq_of_lt h1], h1⟩
    · have h2 : k + 1 = l.length := by omega
      exact .inr ⟨by rw [hm, h2, Nat.mod_self], h2⟩
  have hE : sidE l m = (a, b) := by
    have e1 : (m + l.length - 1) % l.length = k := by
      rcases hmm with ⟨rfl, h1⟩ | ⟨rfl, h1⟩
      · rw [show k + 1 + l.length - 1 = k + l.length by omega, Nat.add_mod_right, Nat.mod_eq_of_lt hk]
      · rw [Nat.zero_add, Nat.mod_eq_of_lt (by omega)]; omega
    unfold sidE
    rw [e1, e]
  refine ⟨fun i hi => ?_, fun j hj => ?_, fun j hj hc => ?_⟩
  · by_cases h1 : i = m * 4 + 1
    · exact ⟨b, if_pos h1⟩
    · by_cases h2 : i = m * 4
      · exact ⟨a, by rw [if_neg h1, if_pos h2]⟩
      · by_cases h3 : i = k * 4 + 3
        · exact ⟨b, by rw [if_neg h1, if_neg h2, if_pos h3]⟩
        · by_cases h4 : i = k * 4 + 2
          · exact ⟨a, by rw [if_neg h1, if_neg h2, if_neg h3, if_pos h4]⟩
          · obtain ⟨z, hz⟩ := h.int i hi
            exact ⟨z, by rw [if_neg h1, if_neg h2, if_neg h3, if_neg h4, hz]⟩
  · by_cases hjk : j = k
    · subst hjk
      rw [e]
      refine ⟨?_, ?_⟩
      · rw [if_neg (by omega), if_neg (by omega), if_neg (by omega), if_pos rfl]
      · rw [if_neg (by omega), if_neg (by omega), if_pos rfl]
    · have := h.beg j (by omega)
      refine ⟨?_, ?_⟩
      · rw [if_neg (by omega), if_neg (by omega), if_neg (by omega), if_neg (by omega)]; exact this.1
      · rw [if_neg (by omega), if_neg (by omega), if_neg (by omega), if_neg (by omega)]; exact this.2
  · by_cases hjm : j = m
    · subst hjm
      rw [hE]
      refine ⟨?_, ?_⟩
      · rw [if_neg (by omega), if_pos rfl]
      · rw [if_pos rfl]
    · have := h.fin j hj (by omega)
      refine ⟨?_, ?_⟩
      · rw [if_neg (by omega), if_neg (by omega), if_neg (by omega), if_neg (by omega)]; exact this.1
      · rw [if_neg (by omega), if_neg (by omega), if_neg (by omega), if_neg (by omega)]; exact this.2
/-- The corners lie at block g. -/
def Cor (l : List (Int × Int)) (k g : Nat) (w : World) : Prop := ∃ f, w.rowIs g 72 (l.length * 4) f ∧ CorF l k f
theorem Cor.start (l : List (Int × Int)) (w : World) (h0 : 0 < l.length) : Cor l 0 w.heap.size (w.alloc (.cells (madeCells #[.int .i64 0, .int .i64 0, .int .i64 0, .int .i64 0] (l.length * 4)) 72)) := by
  refine ⟨fun _ => .int .i64 0, ⟨_, heap_alloc_new _ _, size_madeCells _ _, fun i hi => ?_⟩, fun i _ => ⟨0, rfl⟩, fun j hj => absurd hj (Nat.not_lt_zero _), fun j hj hc => by omega⟩
  simp [madeCells, hi]
  rcases (show i % 4 = 0 ∨ i % 4 = 1 ∨ i % 4 = 2 ∨ i % 4 = 3 by omega) with h | h | h | h <;> simp [h]
set_option maxHeartbeats 8000000 in
theorem cornersOf_c (l : List (Int × Int)) (a : Option Addr) (len cap : Nat) (w : World) (hl : l.length = len) (h1 : len ≤ 1048576) (h0 : 0 < len) (hA : At w.heap.size a l w) (HG : allG l) :
    Calls Tryd.prog 57 #[.slice a len cap] w fun e w' => e = .returned (.slice (some ⟨w.heap.size, 0, none⟩) len len) ∧ Cor l l.length w.heap.size w' ∧ Below w.heap.size w w' := by
  subst hl
  replace HG := hid HG
  have HA := hid hA
  clear hA
  obtain ⟨i0, hi, hz0, hz1, hz2⟩ := info_parts info_co
  have hmk := fun (u : World) => run_make (P := Tryd.prog) u 69 72 i0 _ Tryd.underlying69 hi hz0 .i64 .i64 l.length l.length (by omega) (by omega) (by rw [hz2]; omega) (by omega)
  simp only [hz1, Int.toNat_natCast] at hmk
  clear hz0 hz1 hz2 hi
  have hi4 : ¬ (l.length : Int) = 0 := by omega
  have hi5 : ((l.length : Int) == 0) = false := by rw [beq_eq_false_iff_ne]; exact hi4
  have hi6 : ¬ l.length = 0 := by omega
  go_enter Tryd.func57, Tryd.ntmps57
  go_wp2
  have HC0 := Cor.start l w h0
  have hb0 : Below w.heap.size w (w.alloc (.cells (madeCells #[.int .i64 0, .int .i64 0, .int .i64 0, .int .i64 0] (l.length * 4)) 72)) := (Below.refl _ _).alloc (Nat.le_refl _) _
  go_loopw [12] (fun i wr => ∃ k : Nat, k ≤ l.length ∧ i = .int .i64 k ∧ Cor l k w.heap.size wr ∧ Below w.heap.size w wr) (fun i _ => l.length - (intOf i).toNat)
  case atStart => exact ⟨0, Nat.zero_le _, rfl, HC0, hb0⟩
  case round =>
    clear HC0 hb0
    obtain ⟨k, hk, rfl, ⟨f, hrow, hF⟩, hbw⟩ := hrel
    by_cases hkl : k < l.length
    · obtain ⟨j, hj⟩ : ∃ j, (k + 1) % l.length = j := ⟨_, rfl⟩
      have hjl : j < l.length := by rw [← hj]; exact Nat.mod_lt _ h0
      obtain ⟨b, off, rfl, hbN, g0, g1⟩ := HA.out k hkl
      obtain ⟨b', off', e2, hbN2, g2, g3⟩ := HA.out j hjl
      cases e2
      have q0 := (hbw.cell (p := ⟨b, off + k * 2, none⟩) hbN).trans g0
      have q1 := (hbw.cell (p := ⟨b, off + k * 2 + 1, none⟩) hbN).trans g1
      obtain ⟨⟨s0, s1⟩, hs⟩ : ∃ s, sid l k = s := ⟨_, rfl⟩
      have hdir := sid_dir HG.out h0 hkl
      rw [hs] at hdir
      obtain ⟨x0, hx0⟩ : ∃ x, px l k = x := ⟨_, rfl⟩
      obtain ⟨y0, hy0⟩ : ∃ x, py l k = x := ⟨_, rfl⟩
      obtain ⟨x1, hx1⟩ : ∃ x, px l j = x := ⟨_, rfl⟩
      obtain ⟨y1, hy1⟩ : ∃ x, py l j = x := ⟨_, rfl⟩
      have hs' : vec (x0, y0) (x1, y1) = (s0, s1) := by rw [← hx0, ← hy0, ← hx1, ← hy1, ← hs]; unfold sid; rw [hj]; rfl
      have hv0 : x1 - x0 = s0 := congrArg Prod.fst hs'
      have hv1 : y1 - y0 = s1 := congrArg Prod.snd hs'
      have k1 := hdir.1
      have k2 := hdir.2
      simp only at k1 k2
      have u0 : wrap64 (x1 - x0) = s0 := by rw [wrap_in (by omega) (by omega)]; exact hv0
      have u1 : wrap64 (y1 - y0) = s1 := by clear u0; rw [wrap_in (by omega) (by omega)]; exact hv1
      have U := hid (⟨u0, u1⟩ : wrap64 (x1 - x0) = s0 ∧ wrap64 (y1 - y0) = s1)
      rw [hx0] at q0
      rw [hy0] at q1
      rw [hx1] at g2
      rw [hy1] at g3
      clear u0 u1 hv0 hv1 hs' hx0 hy0 hx1 hy1 g0 g1 k1 k2 hdir
      have hw1 : wrap64 ((k : Int) + 1) = ((k + 1 : Nat) : Int) := by rw [wrap_in (by omega) (by omega)]; omega
      have hw2 : IntKind.i64.wrap ((k : Int) + 1) = ((k + 1 : Nat) : Int) := by clear hw1; rw [IntKind.wrap_i64]; omega
      have hm1 : ((k + 1 : Nat) : Int).tmod (l.length : Int) = (j : Int) := by clear hw1 hw2; rw [← hj, Int.tmod_eq_emod_of_nonneg (by omega)]; exact (Int.natCast_emod _ _).symm
      have hm2 : ((k : Int) + 1).tmod (l.length : Int) = (j : Int) := by rw [← hm1]; congr 1
      have i0 : (0 : Int) ≤ (k : Int) := by omega
      have i1 : (k : Int) < (l.length : Int) := by omega
      have i2 : (0 : Int) ≤ (j : Int) := by omega
      have i3 : (j : Int) < (l.length : Int) := by omega
      have HFF := hid hF
      have HS := hid hs
      have HJ := hid hj
      obtain ⟨c2, hz2⟩ := hF.int (k * 4 + 2) (by omega)
      obtain ⟨c3, hz3⟩ := hF.int (k * 4 + 3) (by omega)
      clear hF hs hj
      go_upto_region 6 with fail
      clear hw1 hw2 hm1 hm2
      have K5 := BoxP.new wr x0 y0
      have hbx : Below wr.heap.size wr (wr.alloc (.cells #[.int .i64 x0, .int .i64 y0] 26)) := by go_grown
      have hBg : wr.heap.size ≠ w.heap.size := by have := hrow.lt; omega
      replace hrow := rowIs_later hrow hbx hrow.lt
      replace hbw := grew hbw hbx
      clear hbx q0 q1
      generalize wr.heap.size = BP at K5 hBg ⊢
      generalize wr.alloc (.cells #[.int .i64 x0, .int .i64 y0] 26) = wp at K5 hrow hbw ⊢
      refine wp_region_held_drew (S := (fun u => BoxP u BP (x0, y0) ∧ Below w.heap.size w u)) (by kernel_rfl) ?_ (fun hHeld => ?_)
      · exact ⟨K5.later (Below.refl _ _).drew, hbw.trans ((Below.refl _ _).drew)⟩
      have hr1 := rowIs_later hrow (Below.refl wp.heap.size wp).drew hrow.lt
      generalize wp.drew = w1 at hHeld hr1 ⊢
      refine wpAnyH_take (i := 0) (oi := { dst := some 22, op := Op.move (Operand.tmp 3), type := 69, pos := "l10_pairs.go:164", after := #[], guard := none }) (v := ?v2yx0) rfl (by kernel_rfl) (by kernel_rfl) (by kernel_rfl) (fun _ _ _ h => h) (Or.inl ⟨by rfl, ?hy2yx0⟩) (by with_reducible assumption) ?rest2yx0
      case hy2yx0 => (intro wS hSw; (try dsimp only at hSw); have z0 := hSw.1.c0; have z1 := hSw.1.c1; have z2 := (hSw.2.cell (p := ⟨b, off + j * 2, none⟩) hbN2).trans g2; have z3 := (hSw.2.cell (p := ⟨b, off + j * 2 + 1, none⟩) hbN2).trans g3; clear hSw; go_simp; try with_reducible rfl)
      case' rest2yx0 => (try simp only [Act.put, List.setIfInBounds_toArray, List.set_cons_zero, List.set_cons_succ])
      refine wpAnyH_take (i := 1) (oi := { dst := some 23, op := Op.move (Operand.tmp 4), type := 3, pos := "l10_pairs.go:164", after := #[], guard := none }) (v := ?v3yx1) rfl (by kernel_rfl) (by kernel_rfl) (by kernel_rfl) (fun _ _ _ h => h) (Or.inl ⟨by rfl, ?hy3yx1⟩) (by with_reducible assumption) ?rest3yx1
      case hy3yx1 => (intro wS hSw; (try dsimp only at hSw); have z0 := hSw.1.c0; have z1 := hSw.1.c1; have z2 := (hSw.2.cell (p := ⟨b, off + j * 2, none⟩) hbN2).trans g2; have z3 := (hSw.2.cell (p := ⟨b, off + j * 2 + 1, none⟩) hbN2).trans g3; clear hSw; go_simp; try with_reducible rfl)
      case' rest3yx1 => (try simp only [Act.put, List.setIfInBounds_toArray, List.set_cons_zero, List.set_cons_succ])
      refine wpAnyH_take (i := 2) (oi := { dst := some 24, op := Op.load 26 (Operand.tmp 5), type := 26, pos := "l10_pairs.go:164", after := #[], guard := none }) (v := ?v4yx2) rfl (by kernel_rfl) (by kernel_rfl) (by kernel_rfl) (fun _ _ _ h => h) (Or.inl ⟨by rfl, ?hy4yx2⟩) (by with_reducible assumption) ?rest4yx2
      case hy4yx2 => (intro wS hSw; (try dsimp only at hSw); have z0 := hSw.1.c0; have z1 := hSw.1.c1; have z2 := (hSw.2.cell (p := ⟨b, off + j * 2, none⟩) hbN2).trans g2; have z3 := (hSw.2.cell (p := ⟨b, off + j * 2 + 1, none⟩) hbN2).trans g3; clear hSw; go_simp; try with_reducible rfl)
      case' rest4yx2 => (try simp only [Act.put, List.setIfInBounds_toArray, List.set_cons_zero, List.set_cons_succ])
      refine wpAnyH_take (i := 3) (oi := { dst := some 25, op := Op.move (Operand.tmp 0), type := 33, pos := "l10_pairs.go:164", after := #[], guard := none }) (v := ?v5yx3) rfl (by kernel_rfl) (by kernel_rfl) (by kernel_rfl) (fun _ _ _ h => h) (Or.inl ⟨by rfl, ?hy5yx3⟩) (by with_reducible assumption) ?rest5yx3
      case hy5yx3 => (intro wS hSw; (try dsimp only at hSw); have z0 := hSw.1.c0; have z1 := hSw.1.c1; have z2 := (hSw.2.cell (p := ⟨b, off + j * 2, none⟩) hbN2).trans g2; have z3 := (hSw.2.cell (p := ⟨b, off + j * 2 + 1, none⟩) hbN2).trans g3; clear hSw; go_simp; try with_reducible rfl)
      case' rest5yx3 => (try simp only [Act.put, List.setIfInBounds_toArray, List.set_cons_zero, List.set_cons_succ])
      refine wpAnyH_take (i := 4) (oi := { dst := some 26, op := Op.move (Operand.tmp 6), type := 3, pos := "l10_pairs.go:164", after := #[], guard := none }) (v := ?v6yx4) rfl (by kernel_rfl) (by kernel_rfl) (by kernel_rfl) (fun _ _ _ h => h) (Or.inl ⟨by rfl, ?hy6yx4⟩) (by with_reducible assumption) ?rest6yx4
      case hy6yx4 => (intro wS hSw; (try dsimp only at hSw); have z0 := hSw.1.c0; have z1 := hSw.1.c1; have z2 := (hSw.2.cell (p := ⟨b, off + j * 2, none⟩) hbN2).trans g2; have z3 := (hSw.2.cell (p := ⟨b, off + j * 2 + 1, none⟩) hbN2).trans g3; clear hSw; go_simp; try with_reducible rfl)
      case' rest6yx4 => (try simp only [Act.put, List.setIfInBounds_toArray, List.set_cons_zero, List.set_cons_succ])
      refine wpAnyH_take (i := 5) (oi := { dst := some 27, op := Op.indexAddr 33 (Operand.tmp 25) (Operand.tmp 26), type := 0, pos := "l10_pairs.go:164", after := #[{ on := 3, ground := Ground.data }, { on := 4, ground := Ground.data }], guard := none }) (v := ?v7yx5) rfl (by kernel_rfl) (by kernel_rfl) (by kernel_rfl) (fun _ _ _ h => h) (Or.inl ⟨by rfl, ?hy7yx5⟩) (by with_reducible assumption) ?rest7yx5
      case hy7yx5 => (intro wS hSw; (try dsimp only at hSw); have z0 := hSw.1.c0; have z1 := hSw.1.c1; have z2 := (hSw.2.cell (p := ⟨b, off + j * 2, none⟩) hbN2).trans g2; have z3 := (hSw.2.cell (p := ⟨b, off + j * 2 + 1, none⟩) hbN2).trans g3; clear hSw; go_simp; try with_reducible rfl)
      case' rest7yx5 => (try simp only [Act.put, List.setIfInBounds_toArray, List.set_cons_zero, List.set_cons_succ])
      refine wpAnyH_take (i := 6) (oi := { dst := some 28, op := Op.load 26 (Operand.tmp 27), type := 26, pos := "l10_pairs.go:164", after := #[{ on := 5, ground := Ground.data }], guard := none }) (v := ?v8yx6) rfl (by kernel_rfl) (by kernel_rfl) (by kernel_rfl) (fun _ _ _ h => h) (Or.inl ⟨by rfl, ?hy8yx6⟩) (by with_reducible assumption) ?rest8yx6
      case hy8yx6 => (intro wS hSw; (try dsimp only at hSw); have z0 := hSw.1.c0; have z1 := hSw.1.c1; have z2 := (hSw.2.cell (p := ⟨b, off + j * 2, none⟩) hbN2).trans g2; have z3 := (hSw.2.cell (p := ⟨b, off + j * 2 + 1, none⟩) hbN2).trans g3; clear hSw; go_simp; try with_reducible rfl)
      case' rest8yx6 => (try simp only [Act.put, List.setIfInBounds_toArray, List.set_cons_zero, List.set_cons_succ])
      refine wpAnyH_ready (rs := [7]) (by kernel_rfl) (by simp) ?_
      refine AllReadyH.cons (o := { dst := some 29, op := Op.call { callee := Callee.value (Operand.func 76), args := #[Operand.tmp 24, Operand.tmp 28], argTypes := #[26, 26] }, type := 26, pos := "l10_pairs.go:164", after := #[{ on := 2, ground := Ground.data }, { on := 6, ground := Ground.data }], guard := none }) rfl (fun K hK => ?_) AllReadyH.nil
      go_simp
      refine (wayFrom_c _ _ _ _ _).mono ?_
      rw [U.out.1, U.out.2]
      rintro e w2 ⟨rfl, hb2⟩
      go_wp2_with fail
      refine hK.out _ _ ?_ (fun hHeld2 => ?_)
      · exact ⟨hHeld.1.later hb2, hHeld.2.trans (hb2.mono hHeld.2.size)⟩
      clear hHeld
      have hHeld := hHeld2
      clear hHeld2
      have hr2 := rowIs_later hr1 hb2 hr1.lt
      have hr2s := hr2.lt
      clear hK K
      try simp only [Act.put, List.setIfInBounds_toArray, List.set_cons_zero, List.set_cons_succ]
      refine wpAnyH_take (i := 8) (oi := { dst := some 30, op := Op.indexAddr 69 (Operand.tmp 22) (Operand.tmp 23), type := 0, pos := "l10_pairs.go:164", after := #[{ on := 0, ground := Ground.data }, { on := 1, ground := Ground.data }, { on := 0, ground := Ground.phase }, { on := 1, ground := Ground.phase }, { on := 2, ground := Ground.phase }, { on := 3, ground := Ground.phase }, { on := 4, ground := Ground.phase }, { on := 5, ground := Ground.phase }, { on := 6, ground := Ground.phase }, { on := 7, ground := Ground.phase }], guard := none }) (v := ?v9yx8) rfl (by kernel_rfl) (by kernel_rfl) (by kernel_rfl) (fun _ _ _ h => h) (Or.inl ⟨by rfl, ?hy9yx8⟩) (by with_reducible assumption) ?rest9yx8
      case hy9yx8 => (intro wS hSw; (try dsimp only at hSw); have z0 := hSw.1.c0; have z1 := hSw.1.c1; have z2 := (hSw.2.cell (p := ⟨b, off + j * 2, none⟩) hbN2).trans g2; have z3 := (hSw.2.cell (p := ⟨b, off + j * 2 + 1, none⟩) hbN2).trans g3; clear hSw; go_simp; try with_reducible rfl)
      case' rest9yx8 => (try simp only [Act.put, List.setIfInBounds_toArray, List.set_cons_zero, List.set_cons_succ])
      refine wpAnyH_take (i := 9) (oi := { dst := some 31, op := Op.fieldAddr 72 (Operand.tmp 30) 1, type := 0, pos := "l10_pairs.go:164", after := #[{ on := 8, ground := Ground.data }, { on := 0, ground := Ground.phase }, { on := 1, ground := Ground.phase }, { on := 2, ground := Ground.phase }, { on := 3, ground := Ground.phase }, { on := 4, ground := Ground.phase }, { on := 5, ground := Ground.phase }, { on := 6, ground := Ground.phase }, { on := 7, ground := Ground.phase }], guard := none }) (v := ?v10yx9) rfl (by kernel_rfl) (by kernel_rfl) (by kernel_rfl) (fun _ _ _ h => h) (Or.inl ⟨by rfl, ?hy10yx9⟩) (by with_reducible assumption) ?rest10yx9
      case hy10yx9 => (intro wS hSw; (try dsimp only at hSw); have z0 := hSw.1.c0; have z1 := hSw.1.c1; have z2 := (hSw.2.cell (p := ⟨b, off + j * 2, none⟩) hbN2).trans g2; have z3 := (hSw.2.cell (p := ⟨b, off + j * 2 + 1, none⟩) hbN2).trans g3; clear hSw; go_simp; try with_reducible rfl)
      case' rest10yx9 => (try simp only [Act.put, List.setIfInBounds_toArray, List.set_cons_zero, List.set_cons_succ])
      refine wpAnyH_ready (rs := [10]) (by kernel_rfl) (by simp) ?_
      refine AllReadyH.cons (o := { dst := none, op := Op.store 26 (Operand.tmp 31) (Operand.tmp 29), type := 0, pos := "l10_pairs.go:164", after := #[{ on := 9, ground := Ground.data }, { on := 7, ground := Ground.data }, { on := 7, ground := Ground.chain }, { on := 0, ground := Ground.phase }, { on := 1, ground := Ground.phase }, { on := 2, ground := Ground.phase }, { on := 3, ground := Ground.phase }, { on := 4, ground := Ground.phase }, { on := 5, ground := Ground.phase }, { on := 6, ground := Ground.phase }, { on := 7, ground := Ground.phase }], guard := none }) rfl (fun K hK => ?_) AllReadyH.nil
      have t2 := hr2.cell (i := k * 4 + 2) (by omega)
      have t3 := hr2.cell (i := k * 4 + 3) (by omega)
      rw [hz2] at t2
      rw [hz3] at t3
      have fz2 := hr2.frozen (k * 4 + 2)
      have fz3 := hr2.frozen (k * 4 + 3)
      go_simp
      refine hK.out _ _ ?_ (fun hHeld2 => ?_)
      · exact ⟨(hHeld.1.other hBg _).other hBg _, (hHeld.2.setCell (p := ⟨w.heap.size, k * 4 + 2, none⟩) (Nat.le_refl _) _).setCell (p := ⟨w.heap.size, k * 4 + 3, none⟩) (Nat.le_refl _) _⟩
      clear hK K
      try simp only [Act.put, List.setIfInBounds_toArray, List.set_cons_zero, List.set_cons_succ]
      refine wpAnyH_done (by kernel_rfl) ?_ _
      have hr4 := (hr2.set (k * 4 + 2) (.int .i64 s0)).set (k * 4 + 3) (.int .i64 s1)
      obtain ⟨d0, hd0⟩ := HFF.out.int (j * 4) (by omega)
      obtain ⟨d1, hd1⟩ := HFF.out.int (j * 4 + 1) (by omega)
      have v2 := hr4.cell (i := k * 4 + 2) (by omega)
      have v3 := hr4.cell (i := k * 4 + 3) (by omega)
      have v0 := hr4.cell (i := j * 4) (by omega)
      have v1 := hr4.cell (i := j * 4 + 1) (by omega)
      rw [if_neg (by omega), if_pos rfl] at v2
      rw [if_pos rfl] at v3
      rw [if_neg (by omega), if_neg (by omega), hd0] at v0
      rw [if_neg (by omega), if_neg (by omega), hd1] at v1
      have fz0 := hr4.frozen (j * 4)
      have fz1 := hr4.frozen (j * 4 + 1)
      have hbz := hHeld2.2
      clear t2 t3 fz2 fz3
      generalize (w2.setCell ⟨w.heap.size, k * 4 + 2, none⟩ (.int .i64 s0)).setCell ⟨w.heap.size, k * 4 + 3, none⟩ (.int .i64 s1) = wz at hr4 v0 v1 v2 v3 fz0 fz1 hbz hHeld2 ⊢
      have hr6 := (hr4.set (j * 4) (.int .i64 s0)).set (j * 4 + 1) (.int .i64 s1)
      have hby := (hbz.setCell (p := ⟨w.heap.size, j * 4, none⟩) (Nat.le_refl _) (.int .i64 s0)).setCell (p := ⟨w.heap.size, j * 4 + 1, none⟩) (Nat.le_refl _) (.int .i64 s1)
      have hstep := CorF.step HFF.out hkl HJ.out.symm HS.out
      go_wp2
      go_roundw
      case rel => exact ⟨k + 1, by omega, by go_num, ⟨_, hr6, hstep⟩, hby⟩
      case measure => simp [intOf]; omega
    · obtain rfl : k = l.length := by omega
      go_wp2
      go_ret
      exact ⟨rfl, ⟨f, hrow, hF⟩, hbw⟩
end Go.Proofs.YtipiamhnngmjmaaDoor
