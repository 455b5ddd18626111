/-
  Lists of triangles marked and looked at again (contracts for the walks).
  Conditions: as each theorem states them.
-/
import Derived.Test.YtoefllklngnmeaaDoorFSS
namespace Go.Proofs.YtoefllklngnmeaaDoor
open Go.RowKit
set_option linter.unusedVariables false
/-- n triangles with the marks from k on. -/
def mk3 (n : Nat) (k : Int) : List (List (Int × Int)) := (List.range n).map fun (j : Nat) => marks 3 (k + 6 * (j : Int))
/-- The first i of n triangles are marked. -/
def upd (L : List (List (Int × Int))) (k : Int) (i : Nat) : List (List (Int × Int)) := (List.range L.length).map fun (j : Nat) => if j < i then marks 3 (k + 6 * (j : Int)) else nth L j
theorem mk3_len (n : Nat) (k : Int) : (mk3 n k).length = n := by simp [mk3]
theorem upd_len (L : List (List (Int × Int))) (k : Int) (i : Nat) : (upd L k i).length = L.length := by simp [upd]
theorem nth_mk3 {n j : Nat} (k : Int) (h : j < n) : nth (mk3 n k) j = marks 3 (k + 6 * (j : Int)) := by simp [nth, mk3, h]
theorem nth_upd {L : List (List (Int × Int))} {j : Nat} (k : Int) (i : Nat) (h : j < L.length) : nth (upd L k i) j = if j < i then marks 3 (k + 6 * (j : Int)) else nth L j := by simp [nth, upd, h]
theorem upd_zero (L : List (List (Int × Int))) (k : Int) : upd L k 0 = L := by
  refine List.ext_getElem (upd_len L k 0) fun i h1 h2 => ?_
  simp [upd, nth, h2]
theorem upd_all (L : List (List (Int × Int))) (k : Int) : upd L k L.length = mk3 L.length k := by
  refine List.ext_getElem (by rw [upd_len, mk3_len]) fun i h1 h2 => ?_
  rw [upd_len] at h1
  simp [upd, mk3, h1]
theorem OwnSS.marked {N : Nat} {v : Value} {L : List (List (Int × Int))} {vs : List Value} {w w' : World} {k : Int} {i : Nat} {ai : Option Addr} {n ci : Nat} (h : OwnSS N v (upd L k i) vs w) (hi : i < vs.length) (e : vs[i] = .slice ai n ci) (hO : OwnC N (.slice ai n ci) (marks 3 (k + 6 * (i : Int))) w') (hs : Spared ai w w') :
    OwnSS N v (upd L k (i + 1)) vs w' := by
  have hlen : vs.length = L.length := by rw [h.len, upd_len]
  have hblk : ∀ b off, ai = Option.some ⟨b, off, none⟩ → vs[i].ownBlock = Option.some b := by
    intro b off e'; rw [e, e']; rfl
  refine ⟨h.out.other hs fun b off e' eb => ?_, by rw [hlen, upd_len], fun j hj => ?_, h.apart, h.far⟩
  · rcases h.far i hi with h1 | h1
    · rw [hblk b off e'] at h1; cases h1
    · exact h1 (by rw [hblk b off e', eb])
  · rw [nth_upd k (i + 1) (by omega)]
    by_cases hji : j = i
    · subst hji
      rw [if_pos (by omega), e]
      exact hO
    · have h2 := h.inn j hj
      rw [nth_upd k i (by omega)] at h2
      have h3 := h2.other hs (fun b off e' eb => by
        rcases h.apart i j hi hj (fun x => hji x.symm) with h1 | h1
        · rw [hblk b off e'] at h1; cases h1
        · exact h1 (by rw [hblk b off e', eb]))
      by_cases hlt : j < i
      · rw [if_pos hlt] at h3
        rw [if_pos (by omega)]
        exact h3
      · rw [if_neg hlt] at h3
        rw [if_neg (by omega)]
        exact h3
set_option maxHeartbeats 4000000 in
set_option maxRecDepth 8000 in
theorem markSS_c (N : Nat) (L : List (List (Int × Int))) (vs : List Value) (a : Option Addr) (n cap : Nat) (w : World) (hn : L.length = n) (h1 : n ≤ 1000) (h3 : ∀ i, i < n → (nth L i).length = 3) (hO : OwnSS N (.slice a n cap) L vs w) (hN : N ≤ w.heap.size) :
    Calls Tryd.prog 20 #[.slice a n cap, .int .i64 1] w fun e w' => e = .returned (.int .i64 (1 + 6 * (n : Int))) ∧ OwnSS N (.slice a n cap) (mk3 n 1) vs w' ∧ Below N w w' := by
  subst hn
  have HO := hid hO
  clear hO
  go_enter Tryd.func20, Tryd.ntmps20
  go_wp2
  go_loopw [1, 5] (fun kk ii wr => ∃ i : Nat, i ≤ L.length ∧ kk = .int .i64 (1 + 6 * (i : Int)) ∧ ii = .int .i64 i ∧ OwnSS N (.slice a L.length cap) (upd L 1 i) vs wr ∧ Below N w wr) (fun _ ii _ => L.length - (intOf ii).toNat)
  case atStart => exact ⟨0, Nat.zero_le _, rfl, rfl, by rw [upd_zero]; exact HO.out, Below.refl _ _⟩
  case round =>
    obtain ⟨i, hi, rfl, rfl, hS, hbw⟩ := hrel
    have HS := hid hS
    have HBW := hid hbw
    by_cases hil : i < L.length
    · have hiv : i < vs.length := by rw [hS.len, upd_len]; exact hil
      obtain ⟨g, rfl, hg1, hg2, q0⟩ := hS.out.cell hiv
      have hin := hS.inn i hiv
      obtain ⟨ai, ci, ev⟩ := hin.shape
      have hl3 : (nth (upd L 1 i) i).length = 3 := by rw [nth_upd 1 i hil, if_neg (Nat.lt_irrefl _)]; exact h3 i hil
      rw [hl3] at ev
      rw [ev] at hin q0
      have HI := hid hin
      have HV := hid ev
      have hd : decide ((i : Int) < (L.length : Int)) = true := decide_eq_true (by omega)
      have j0 : (0 : Int) ≤ (i : Int) := by omega
      have j1 : (i : Int) < (L.length : Int) := by omega
      have hsz := hbw.size
      clear hS hbw hin ev hl3
      go_wp2_with (go_at_call 19; refine (markC_c _ N ai 3 ci (1 + 6 * (i : Int)) wr (by omega) (by omega) (by omega) HI.out).mono ?_; rintro e w2 ⟨rfl, hO2, hs2⟩)
      go_roundw
      case rel => exact ⟨i + 1, by omega, by go_num, by go_num, HS.out.marked hiv HV.out hO2 hs2, HBW.out.trans (hs2.below (Nat.le_trans hN hsz) (fun b off e => by subst e; exact (HI.out.lt rfl).1))⟩
      case measure => simp [intOf]; omega
    · obtain rfl : i = L.length := by omega
      have hd : decide ((L.length : Int) < (L.length : Int)) = false := decide_eq_false (by omega)
      clear hS hbw
      go_wp2
      go_ret
      exact ⟨rfl, by have := HS.out; rwa [upd_all] at this, HBW.out⟩
set_option maxHeartbeats 4000000 in
set_option maxRecDepth 8000 in
theorem heldSS_c (a : Option Addr) (n cap : Nat) (w : World) (h1 : n ≤ 1000) (hA : AtSS w.heap.size a (mk3 n 1) w) :
    Calls Tryd.prog 21 #[.slice a n cap, .int .i64 1] w fun e w' => e = .returned (.int .i64 (1 + 6 * (n : Int))) ∧ Below w.heap.size w w' := by
  have HA := hid hA
  clear hA
  go_enter Tryd.func21, Tryd.ntmps21
  go_wp2
  go_loopw [1, 5] (fun kk ii wr => ∃ i : Nat, i ≤ n ∧ kk = .int .i64 (1 + 6 * (i : Int)) ∧ ii = .int .i64 i ∧ Below w.heap.size w wr) (fun _ ii _ => n - (intOf ii).toNat)
  case atStart => exact ⟨0, Nat.zero_le _, rfl, rfl, Below.refl _ _⟩
  case round =>
    obtain ⟨i, hi, rfl, rfl, hbw⟩ := hrel
    by_cases hil : i < n
    · obtain ⟨b, off, ai, ci, rfl, hN, g0, i0⟩ := HA.out i (by rw [mk3_len]; exact hil)
      rw [nth_mk3 1 hil, marks_len] at g0
      rw [nth_mk3 1 hil] at i0
      have q0 := cell_later hbw g0
      have I0 := hid ((i0.later hbw).mono hbw.size)
      have hd : decide ((i : Int) < (n : Int)) = true := decide_eq_true (by omega)
      have j0 : (0 : Int) ≤ (i : Int) := by omega
      have j1 : (i : Int) < (n : Int) := by omega
      have HBW := hid hbw
      clear g0 i0 hbw
      go_wp2_with (go_at_call 26; refine (held_c ai 3 ci (1 + 6 * (i : Int)) wr (by omega) (by omega) (by omega) I0.out).mono ?_; rintro e w2 ⟨rfl, hb2⟩; have hneg : decide (1 + 6 * (i : Int) + 2 * ((3 : Nat) : Int) < 0) = false := decide_eq_false (by omega))
      go_roundw
      case rel => exact ⟨i + 1, by omega, by go_num, by go_num, grew HBW.out hb2⟩
      case measure => simp [intOf]; omega
    · obtain rfl : i = n := by omega
      have hd : decide ((i : Int) < (i : Int)) = false := decide_eq_false (by omega)
      go_wp2
      go_ret
      exact ⟨rfl, hbw⟩
end Go.Proofs.YtoefllklngnmeaaDoor
