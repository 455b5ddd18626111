/-
  Lists of triangles: compared, marked, and looked at again, as the laws do it (contracts for the walks).
  Conditions: as each theorem states them.
-/
import Derived.Test.YtoefllklngnmeaaDoorFOwn
import Derived.Deep.DeepCutAuto
namespace Go.Proofs.YtoefllklngnmeaaDoor
open Go.RowKit
set_option linter.unusedVariables false
/-- The i-th list. -/
def nth (L : List (List (Int × Int))) (i : Nat) : List (Int × Int) := L.getD i []
/-- Lists of points lie at an address, below block N. -/
def AtSS (N : Nat) (a : Option Addr) (L : List (List (Int × Int))) (w : World) : Prop :=
  ∀ i, i < L.length → ∃ b off ai ci, a = some ⟨b, off, none⟩ ∧ b < N ∧ w.cell? ⟨b, off + i, none⟩ = some (.slice ai (nth L i).length ci) ∧ At N ai (nth L i) w
theorem AtSS.later {N : Nat} {a : Option Addr} {L : List (List (Int × Int))} {w w' : World} (h : AtSS N a L w) (hb : Below w.heap.size w w') : AtSS N a L w' := fun i hi => by
  obtain ⟨b, off, ai, ci, e, hN, h0, h1⟩ := h i hi
  exact ⟨b, off, ai, ci, e, hN, cell_later hb h0, h1.later hb⟩
theorem AtSS.mono {N M : Nat} {a : Option Addr} {L : List (List (Int × Int))} {w : World} (h : AtSS N a L w) (hNM : N ≤ M) : AtSS M a L w := fun i hi => by
  obtain ⟨b, off, ai, ci, e, hN, h0, h1⟩ := h i hi
  exact ⟨b, off, ai, ci, e, by omega, h0, h1.mono hNM⟩
theorem AtSS.kept {N : Nat} {a : Option Addr} {L : List (List (Int × Int))} {w w' : World} (h : AtSS N a L w) (hb : Below N w w') : AtSS N a L w' := fun i hi => by
  obtain ⟨b, off, ai, ci, e, hN, h0, h1⟩ := h i hi
  refine ⟨b, off, ai, ci, e, hN, (hb.cell hN).trans h0, fun j hj => ?_⟩
  obtain ⟨b', off', e', hN', g0, g1⟩ := h1 j hj
  exact ⟨b', off', e', hN', (hb.cell hN').trans g0, (hb.cell hN').trans g1⟩
/-- Lists of points that a call made, each in memory of its own. -/
structure OwnSS (N : Nat) (v : Value) (L : List (List (Int × Int))) (vs : List Value) (w : World) : Prop where
  out : OwnV N v vs w
  len : vs.length = L.length
  inn : ∀ i (h : i < vs.length), OwnC N vs[i] (nth L i) w
  apart : ∀ i j (hi : i < vs.length) (hj : j < vs.length), i ≠ j → vs[i].ownBlock = none ∨ vs[i].ownBlock ≠ vs[j].ownBlock
  far : ∀ i (hi : i < vs.length), vs[i].ownBlock = none ∨ vs[i].ownBlock ≠ v.ownBlock
theorem OwnSS.nil (N : Nat) (w : World) : OwnSS N (.slice none 0 0) [] [] w :=
  ⟨OwnV.nil _ _, rfl, fun i h => absurd h (Nat.not_lt_zero _), fun i _ h => absurd h (Nat.not_lt_zero _), fun i h => absurd h (Nat.not_lt_zero _)⟩
theorem OwnSS.later {N : Nat} {v : Value} {L : List (List (Int × Int))} {vs : List Value} {w w' : World} (h : OwnSS N v L vs w) (hb : Below w.heap.size w w') : OwnSS N v L vs w' :=
  ⟨h.out.later hb, h.len, fun i hi => (h.inn i hi).later hb, h.apart, h.far⟩
theorem OwnSS.mono {N K : Nat} {v : Value} {L : List (List (Int × Int))} {vs : List Value} {w : World} (h : OwnSS N v L vs w) (hK : K ≤ N) : OwnSS K v L vs w :=
  ⟨h.out.mono hK, h.len, fun i hi => (h.inn i hi).mono hK, h.apart, h.far⟩
theorem OwnSS.shape {N : Nat} {v : Value} {L : List (List (Int × Int))} {vs : List Value} {w : World} (h : OwnSS N v L vs w) : ∃ a cap, v = .slice a L.length cap := by
  obtain ⟨a, cap, e⟩ := h.out.shape
  exact ⟨a, cap, by rw [e, h.len]⟩
theorem OwnC.lt {N : Nat} {v : Value} {l : List (Int × Int)} {w : World} (h : OwnC N v l w) {g : Nat} (e : v.ownBlock = Option.some g) : N ≤ g ∧ g < w.heap.size := by
  rcases h with ⟨_, rfl⟩ | ⟨g', c, M, f, rfl, h1, _, _, _, h4, _⟩
  · simp [Value.ownBlock] at e
  · simp [Value.ownBlock] at e
    subst e
    exact ⟨h1, h4.lt⟩
theorem OwnC.other {N : Nat} {v : Value} {a : Option Addr} {l : List (Int × Int)} {w w' : World} (h : OwnC N v l w) (hs : Spared a w w') (hb : ∀ b off, a = Option.some ⟨b, off, none⟩ → v.ownBlock ≠ Option.some b) : OwnC N v l w' := by
  rcases h with h | ⟨g, c, M, f, e, h1, h2, h3, hM, ⟨cc, k1, k2, k3⟩, h5⟩
  · exact .inl h
  · refine .inr ⟨g, c, M, f, e, h1, h2, h3, hM, ⟨cc, (hs.block g (heap_lt k1) (fun b off e' => fun eb => hb b off e' (by rw [e, eb]; rfl))).trans k1, k2, k3⟩, h5⟩
theorem OwnV.other {N : Nat} {v : Value} {a : Option Addr} {vs : List Value} {w w' : World} (h : OwnV N v vs w) (hs : Spared a w w') (hb : ∀ b off, a = Option.some ⟨b, off, none⟩ → v.ownBlock ≠ Option.some b) : OwnV N v vs w' := by
  rcases h with h | ⟨g, cap, cur, e, h1, h2, h3⟩
  · exact .inl h
  · exact .inr ⟨g, cap, cur, e, h1, (hs.block g (heap_lt h2) (fun b off e' => fun eb => hb b off e' (by rw [e, eb]; rfl))).trans h2, h3⟩
theorem OwnSS.at {N n cap : Nat} {a : Option Addr} {L : List (List (Int × Int))} {vs : List Value} {w : World} (h : OwnSS N (.slice a n cap) L vs w) : AtSS w.heap.size a L w := fun i hi => by
  have hi' : i < vs.length := by rw [h.len]; exact hi
  obtain ⟨g, e, h1, h2, h3⟩ := h.out.cell hi'
  obtain ⟨ai, ci, e2⟩ := (h.inn i hi').shape
  refine ⟨g, 0, ai, ci, e, h2, ?_, ?_⟩
  · rw [Nat.zero_add, h3, e2]
  · have := h.inn i hi'
    rw [e2] at this
    exact this.at
set_option maxHeartbeats 4000000 in
set_option maxRecDepth 8000 in
theorem eqSS_c (L : List (List (Int × Int))) (a c : Option Addr) (n cap cam : Nat) (w : World) (hn : L.length = n) (h1 : n ≤ 1048576) (h2 : ∀ i, i < n → (nth L i).length ≤ 1048576) (hA : AtSS w.heap.size a L w) (hB : AtSS w.heap.size c L w) :
    Calls Tryd.prog 18 #[.slice a n cap, .slice c n cam] w fun e w' => e = .returned (.bool true) ∧ Below w.heap.size w w' := by
  subst hn
  have HA := hid hA
  have HB := hid hB
  clear hA hB
  go_enter Tryd.func18, Tryd.ntmps18
  go_wp2
  go_loopw [5] (fun i wr => ∃ k : Nat, k ≤ L.length ∧ i = .int .i64 k ∧ Below w.heap.size w wr) (fun i _ => L.length - (intOf i).toNat)
  case atStart => exact ⟨0, Nat.zero_le _, rfl, Below.refl _ _⟩
  case round =>
    obtain ⟨k, hk, rfl, hbw⟩ := hrel
    by_cases hkl : k < L.length
    · obtain ⟨b, off, ai, ci, rfl, hN, g0, i0⟩ := HA.out k hkl
      obtain ⟨b', off', ai', ci', rfl, hN', g1, i1⟩ := HB.out k hkl
      have k0 := cell_later hbw g0
      have k1 := cell_later hbw g1
      have I0 := hid (i0.later hbw)
      have I1 := hid (i1.later hbw)
      have hl := h2 k hkl
      have hd : decide ((k : Int) < (L.length : Int)) = true := decide_eq_true (by omega)
      have j0 : (0 : Int) ≤ (k : Int) := by omega
      have j1 : (k : Int) < (L.length : Int) := by omega
      obtain ⟨R, hR⟩ : ∃ R, nth L k = R := ⟨_, rfl⟩
      rw [hR] at k0 k1 I0 I1 hl
      clear g0 g1 i0 i1 hR
      have HBW := hid hbw
      have hsz := hbw.size
      clear hbw
      go_wp2
      refine wp_region_held_drew (S := (fun u => Below wr.heap.size wr u)) (by kernel_rfl) ?_ (fun hHeld => ?_)
      · exact (Below.refl _ _).drew
      refine wpAnyH_take (i := 0) (oi := { dst := some 17, op := Op.move (Operand.tmp 0), type := 34, pos := "exact.go:756", after := #[], guard := none }) (v := ?v1rx0) rfl (by kernel_rfl) (by kernel_rfl) (by kernel_rfl) (fun _ _ _ h => h) (Or.inl ⟨by rfl, ?hy1rx0⟩) (by with_reducible assumption) ?rest1rx0
      case hy1rx0 => (intro wS hSw; (try dsimp only at hSw); have z0 := cell_later hSw k0; have z1 := cell_later hSw k1; clear hSw; go_simp; try with_reducible rfl)
      case' rest1rx0 => (try simp only [Act.put, List.setIfInBounds_toArray, List.set_cons_zero, List.set_cons_succ])
      refine wpAnyH_take (i := 1) (oi := { dst := some 18, op := Op.move (Operand.tmp 5), type := 3, pos := "exact.go:756", after := #[], guard := none }) (v := ?v1rx1) rfl (by kernel_rfl) (by kernel_rfl) (by kernel_rfl) (fun _ _ _ h => h) (Or.inl ⟨by rfl, ?hy1rx1⟩) (by with_reducible assumption) ?rest1rx1
      case hy1rx1 => (intro wS hSw; (try dsimp only at hSw); have z0 := cell_later hSw k0; have z1 := cell_later hSw k1; clear hSw; go_simp; try with_reducible rfl)
      case' rest1rx1 => (try simp only [Act.put, List.setIfInBounds_toArray, List.set_cons_zero, List.set_cons_succ])
      refine wpAnyH_take (i := 2) (oi := { dst := some 19, op := Op.indexAddr 34 (Operand.tmp 17) (Operand.tmp 18), type := 0, pos := "exact.go:756", after := #[{ on := 0, ground := Ground.data }, { on := 1, ground := Ground.data }], guard := none }) (v := ?v1rx2) rfl (by kernel_rfl) (by kernel_rfl) (by kernel_rfl) (fun _ _ _ h => h) (Or.inl ⟨by rfl, ?hy1rx2⟩) (by with_reducible assumption) ?rest1rx2
      case hy1rx2 => (intro wS hSw; (try dsimp only at hSw); have z0 := cell_later hSw k0; have z1 := cell_later hSw k1; clear hSw; go_simp; try with_reducible rfl)
      case' rest1rx2 => (try simp only [Act.put, List.setIfInBounds_toArray, List.set_cons_zero, List.set_cons_succ])
      refine wpAnyH_take (i := 3) (oi := { dst := some 20, op := Op.load 28 (Operand.tmp 19), type := 28, pos := "exact.go:756", after := #[{ on := 2, ground := Ground.data }], guard := none }) (v := ?v1rx3) rfl (by kernel_rfl) (by kernel_rfl) (by kernel_rfl) (fun _ _ _ h => h) (Or.inl ⟨by rfl, ?hy1rx3⟩) (by with_reducible assumption) ?rest1rx3
      case hy1rx3 => (intro wS hSw; (try dsimp only at hSw); have z0 := cell_later hSw k0; have z1 := cell_later hSw k1; clear hSw; go_simp; try with_reducible rfl)
      case' rest1rx3 => (try simp only [Act.put, List.setIfInBounds_toArray, List.set_cons_zero, List.set_cons_succ])
      refine wpAnyH_take (i := 4) (oi := { dst := some 21, op := Op.move (Operand.tmp 1), type := 34, pos := "exact.go:756", after := #[], guard := none }) (v := ?v1rx4) rfl (by kernel_rfl) (by kernel_rfl) (by kernel_rfl) (fun _ _ _ h => h) (Or.inl ⟨by rfl, ?hy1rx4⟩) (by with_reducible assumption) ?rest1rx4
      case hy1rx4 => (intro wS hSw; (try dsimp only at hSw); have z0 := cell_later hSw k0; have z1 := cell_later hSw k1; clear hSw; go_simp; try with_reducible rfl)
      case' rest1rx4 => (try simp only [Act.put, List.setIfInBounds_toArray, List.set_cons_zero, List.set_cons_succ])
      refine wpAnyH_take (i := 5) (oi := { dst := some 22, op := Op.move (Operand.tmp 5), type := 3, pos := "exact.go:756", after := #[], guard := none }) (v := ?v1rx5) rfl (by kernel_rfl) (by kernel_rfl) (by kernel_rfl) (fun _ _ _ h => h) (Or.inl ⟨by rfl, ?hy1rx5⟩) (by with_reducible assumption) ?rest1rx5
      case hy1rx5 => (intro wS hSw; (try dsimp only at hSw); have z0 := cell_later hSw k0; have z1 := cell_later hSw k1; clear hSw; go_simp; try with_reducible rfl)
      case' rest1rx5 => (try simp only [Act.put, List.setIfInBounds_toArray, List.set_cons_zero, List.set_cons_succ])
      refine wpAnyH_take (i := 6) (oi := { dst := some 23, op := Op.indexAddr 34 (Operand.tmp 21) (Operand.tmp 22), type := 0, pos := "exact.go:756", after := #[{ on := 4, ground := Ground.data }, { on := 5, ground := Ground.data }], guard := none }) (v := ?v1rx6) rfl (by kernel_rfl) (by kernel_rfl) (by kernel_rfl) (fun _ _ _ h => h) (Or.inl ⟨by rfl, ?hy1rx6⟩) (by with_reducible assumption) ?rest1rx6
      case hy1rx6 => (intro wS hSw; (try dsimp only at hSw); have z0 := cell_later hSw k0; have z1 := cell_later hSw k1; clear hSw; go_simp; try with_reducible rfl)
      case' rest1rx6 => (try simp only [Act.put, List.setIfInBounds_toArray, List.set_cons_zero, List.set_cons_succ])
      refine wpAnyH_take (i := 7) (oi := { dst := some 24, op := Op.load 28 (Operand.tmp 23), type := 28, pos := "exact.go:756", after := #[{ on := 6, ground := Ground.data }], guard := none }) (v := ?v1rx7) rfl (by kernel_rfl) (by kernel_rfl) (by kernel_rfl) (fun _ _ _ h => h) (Or.inl ⟨by rfl, ?hy1rx7⟩) (by with_reducible assumption) ?rest1rx7
      case hy1rx7 => (intro wS hSw; (try dsimp only at hSw); have z0 := cell_later hSw k0; have z1 := cell_later hSw k1; clear hSw; go_simp; try with_reducible rfl)
      case' rest1rx7 => (try simp only [Act.put, List.setIfInBounds_toArray, List.set_cons_zero, List.set_cons_succ])
      refine wpAnyH_ready (rs := [8]) (by kernel_rfl) (by simp) ?_
      refine AllReadyH.cons (o := { dst := some 25, op := Op.call { callee := Callee.value (Operand.func 15), args := #[Operand.tmp 20, Operand.tmp 24], argTypes := #[28, 28] }, type := 4, pos := "exact.go:756", after := #[{ on := 3, ground := Ground.data }, { on := 7, ground := Ground.data }], guard := none }) rfl (fun K hK => ?_) AllReadyH.nil
      go_simp
      refine (eqPointS_c R R _ _ _ _ _ _ _ rfl rfl hl hl ((I0.out.later hHeld).mono (Nat.le_trans hsz hHeld.size)) ((I1.out.later hHeld).mono (Nat.le_trans hsz hHeld.size))).mono ?_
      rintro e w3 ⟨rfl, hb3⟩
      go_wp2_with fail
      refine hK.out _ _ ?_ (fun hHeld => ?_)
      · exact grew (by with_reducible assumption) hb3
      clear hK K
      try simp only [Act.put, List.setIfInBounds_toArray, List.set_cons_zero, List.set_cons_succ]
      refine wpAnyH_take (i := 9) (oi := { dst := some 26, op := Op.unOp UnOp.not 4 (Operand.tmp 25), type := 4, pos := "exact.go:756", after := #[{ on := 8, ground := Ground.data }], guard := none }) (v := ?v1rx9) rfl (by kernel_rfl) (by kernel_rfl) (by kernel_rfl) (fun _ _ _ h => h) (Or.inl ⟨by rfl, ?hy1rx9⟩) (by with_reducible assumption) ?rest1rx9
      case hy1rx9 => (intro wS hSw; (try dsimp only at hSw); have z0 := cell_later hSw k0; have z1 := cell_later hSw k1; clear hSw; go_simp; try with_reducible rfl)
      case' rest1rx9 => (try simp only [Act.put, List.setIfInBounds_toArray, List.set_cons_zero, List.set_cons_succ])
      refine wpAnyH_done (by kernel_rfl) ?_ _
      have HF := hid (grew HBW.out (by with_reducible assumption))
      clear hHeld k0 k1
      go_wp2
      go_roundw
      case rel => exact ⟨k + 1, by omega, by go_num, HF.out⟩
      case measure => simp [intOf]; omega
    · obtain rfl : k = L.length := by omega
      go_wp2
      go_ret
      exact ⟨rfl, hbw⟩
end Go.Proofs.YtoefllklngnmeaaDoor
