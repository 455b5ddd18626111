/-
  Lists of lists of points, of whatever lengths, marked and looked at again (contracts for the walks).
  Conditions: as each theorem states them.
-/
import Derived.Test.YtoefllklngnmeaaDoorFSS
namespace Go.Proofs.YtoefllklngnmeaaDoor
open Go.RowKit
set_option linter.unusedVariables false
/-- The mark at which the i-th list begins. -/
def offs (L : List (List (Int × Int))) (k : Int) : Nat → Int
  | 0 => k
  | i + 1 => offs L k i + 2 * ((nth L i).length : Int)
/-- Lists of the same lengths with the marks from k on. -/
def mkG (L : List (List (Int × Int))) (k : Int) : List (List (Int × Int)) := (List.range L.length).map fun (j : Nat) => marks (nth L j).length (offs L k j)
/-- The first i lists are marked. -/
def updG (L : List (List (Int × Int))) (k : Int) (i : Nat) : List (List (Int × Int)) := (List.range L.length).map fun (j : Nat) => if j < i then marks (nth L j).length (offs L k j) else nth L j
theorem mkG_len (L : List (List (Int × Int))) (k : Int) : (mkG L k).length = L.length := by simp [mkG]
theorem updG_len (L : List (List (Int × Int))) (k : Int) (i : Nat) : (updG L k i).length = L.length := by simp [updG]
theorem nth_mkG {L : List (List (Int × Int))} {j : Nat} (k : Int) (h : j < L.length) : nth (mkG L k) j = marks (nth L j).length (offs L k j) := by
  unfold mkG
  rw [nth, List.getD_eq_getElem?_getD, List.getElem?_map, List.getElem?_range h]; rfl
theorem nth_updG {L : List (List (Int × Int))} {j : Nat} (k : Int) (i : Nat) (h : j < L.length) : nth (updG L k i) j = if j < i then marks (nth L j).length (offs L k j) else nth L j := by
  unfold updG
  rw [nth, List.getD_eq_getElem?_getD, List.getElem?_map, List.getElem?_range h]; rfl
theorem updG_zero (L : List (List (Int × Int))) (k : Int) : updG L k 0 = L := by
  refine List.ext_getElem (updG_len L k 0) fun i h1 h2 => ?_
  simp [updG, nth, h2]
theorem updG_all (L : List (List (Int × Int))) (k : Int) : updG L k L.length = mkG L k := by
  refine List.ext_getElem (by rw [updG_len, mkG_len]) fun i h1 h2 => ?_
  rw [updG_len] at h1
  simp [updG, mkG, h1]
theorem offs_in {L : List (List (Int × Int))} (h : ∀ i, i < L.length → (nth L i).length ≤ 1000) : ∀ i, i ≤ L.length → 1 ≤ offs L 1 i ∧ offs L 1 i ≤ 1 + 2000 * (i : Int)
  | 0, _ => by simp [offs]
  | i + 1, hi => by
    have h1 := offs_in h i (by omega)
    have h2 := h i (by omega)
    unfold offs
    omega
theorem OwnSS.markedG {N : Nat} {v : Value} {L : List (List (Int × Int))} {vs : List Value} {w w' : World} {k : Int} {i : Nat} {ai : Option Addr} {n ci : Nat} (h : OwnSS N v (updG L k i) vs w) (hi : i < vs.length) (e : vs[i] = .slice ai n ci) (hO : OwnC N (.slice ai n ci) (marks (nth L i).length (offs L k i)) w') (hs : Spared ai w w') :
    OwnSS N v (updG L k (i + 1)) vs w' := by
  have hlen : vs.length = L.length := by rw [h.len, updG_len]
  have hblk : ∀ b off, ai = Option.some ⟨b, off, none⟩ → vs[i].ownBlock = Option.some b := by
    intro b off e'; rw [e, e']; rfl
  refine ⟨h.out.other hs fun b off e' eb => ?_, by rw [hlen, updG_len], fun j hj => ?_, h.apart, h.far⟩
  · rcases h.far i hi with h1 | h1
    · rw [hblk b off e'] at h1; cases h1
    · exact h1 (by rw [hblk b off e', eb])
  · rw [nth_updG k (i + 1) (by omega)]
    by_cases hji : j = i
    · subst hji
      rw [if_pos (by omega), e]
      exact hO
    · have h2 := h.inn j hj
      rw [nth_updG k i (by omega)] at h2
      have h3 := h2.other hs (fun b off e' eb => by
        rcases h.apart i j hi hj (fun x => hji x.symm) with h1 | h1
        · rw [hblk b off e'] at h1; cases h1
        · exact h1 (by rw [hblk b off e', eb]))
      by_cases hlt : j < i
      · rw [if_pos hlt] at h3
        rw [if_pos (by omega)]
        exact h3
      · rw [if_neg hlt] at h3
        rw [if_neg (by omega)]
        exact h3
set_option maxHeartbeats 4000000 in
set_option maxRecDepth 8000 in
theorem markSG_c (N : Nat) (L : List (List (Int × Int))) (vs : List Value) (a : Option Addr) (n cap : Nat) (w : World) (hn : L.length = n) (h1 : n ≤ 1000) (h3 : ∀ i, i < n → (nth L i).length ≤ 1000) (hO : OwnSS N (.slice a n cap) L vs w) (hN : N ≤ w.heap.size) :
    Calls Tryd.prog 20 #[.slice a n cap, .int .i64 1] w fun e w' => e = .returned (.int .i64 (offs L 1 n)) ∧ OwnSS N (.slice a n cap) (mkG L 1) vs w' ∧ Below N w w' := by
  subst hn
  have HO := hid hO
  have HF := hid (fun i hi => offs_in (L := L) h3 i hi)
  clear hO
  go_enter Tryd.func20, Tryd.ntmps20
  go_wp2
  go_loopw [1, 5] (fun kk ii wr => ∃ i : Nat, i ≤ L.length ∧ kk = .int .i64 (offs L 1 i) ∧ ii = .int .i64 i ∧ OwnSS N (.slice a L.length cap) (updG L 1 i) vs wr ∧ Below N w wr) (fun _ ii _ => L.length - (intOf ii).toNat)
  case atStart => exact ⟨0, Nat.zero_le _, rfl, rfl, by rw [updG_zero]; exact HO.out, Below.refl _ _⟩
  case round =>
    obtain ⟨i, hi, rfl, rfl, hS, hbw⟩ := hrel
    have HS := hid hS
    have HBW := hid hbw
    by_cases hil : i < L.length
    · have hiv : i < vs.length := by rw [hS.len, updG_len]; exact hil
      obtain ⟨g, rfl, hg1, hg2, q0⟩ := hS.out.cell hiv
      have hin := hS.inn i hiv
      obtain ⟨ai, ci, ev⟩ := hin.shape
      have hl3 : nth (updG L 1 i) i = nth L i := by rw [nth_updG 1 i hil, if_neg (Nat.lt_irrefl _)]
      rw [hl3] at ev hin
      have hfi := HF.out i hi
      have hf1 := h3 i hil
      have hoff : offs L 1 (i + 1) = offs L 1 i + 2 * ((nth L i).length : Int) := rfl
      obtain ⟨ln, hln⟩ : ∃ ln, (nth L i).length = ln := ⟨_, rfl⟩
      rw [hln] at ev hf1 hoff
      have HLN := hid hln
      obtain ⟨of, hof⟩ : ∃ of, offs L 1 i = of := ⟨_, rfl⟩
      have HOF := hid hof
      rw [hof] at hfi hoff ⊢
      have HOO := hid hoff
      rw [ev] at hin q0
      have HI := hid hin
      have HV := hid ev
      have hd : decide ((i : Int) < (L.length : Int)) = true := decide_eq_true (by omega)
      have j0 : (0 : Int) ≤ (i : Int) := by omega
      have j1 : (i : Int) < (L.length : Int) := by omega
      have hsz := hbw.size
      clear hS hbw hin ev hl3 hln hof hoff
      go_wp2_with (go_at_call 19; refine (markC_c _ N ai ln ci of wr (by omega) (by omega) (by omega) HI.out).mono ?_; rintro e w2 ⟨rfl, hO2, hs2⟩)
      go_roundw
      case rel => exact ⟨i + 1, by omega, by rw [HOO.out], by go_num, HS.out.markedG hiv HV.out (by rw [HLN.out, HOF.out]; exact hO2) hs2, HBW.out.trans (hs2.below (Nat.le_trans hN hsz) (fun b off e => by subst e; exact (HI.out.lt rfl).1))⟩
      case measure => simp [intOf]; omega
    · obtain rfl : i = L.length := by omega
      have hd : decide ((L.length : Int) < (L.length : Int)) = false := decide_eq_false (by omega)
      clear hS hbw
      obtain ⟨of, hof⟩ : ∃ of, offs L 1 L.length = of := ⟨_, rfl⟩
      rw [hof]
      go_wp2
      go_ret
      exact ⟨by rw [hof]; rfl, by have := HS.out; rwa [updG_all] at this, HBW.out⟩
set_option maxHeartbeats 4000000 in
set_option maxRecDepth 8000 in
theorem heldSG_c (L : List (List (Int × Int))) (a : Option Addr) (n cap : Nat) (w : World) (hn : L.length = n) (h1 : n ≤ 1000) (h3 : ∀ i, i < n → (nth L i).length ≤ 1000) (hA : AtSS w.heap.size a (mkG L 1) w) :
    Calls Tryd.prog 21 #[.slice a n cap, .int .i64 1] w fun e w' => e = .returned (.int .i64 (offs L 1 n)) ∧ Below w.heap.size w w' := by
  subst hn
  have HA := hid hA
  have HF := hid (fun i hi => offs_in (L := L) h3 i hi)
  clear hA
  go_enter Tryd.func21, Tryd.ntmps21
  go_wp2
  go_loopw [1, 5] (fun kk ii wr => ∃ i : Nat, i ≤ L.length ∧ kk = .int .i64 (offs L 1 i) ∧ ii = .int .i64 i ∧ Below w.heap.size w wr) (fun _ ii _ => L.length - (intOf ii).toNat)
  case atStart => exact ⟨0, Nat.zero_le _, rfl, rfl, Below.refl _ _⟩
  case round =>
    obtain ⟨i, hi, rfl, rfl, hbw⟩ := hrel
    by_cases hil : i < L.length
    · obtain ⟨b, off, ai, ci, rfl, hN, g0, i0⟩ := HA.out i (by rw [mkG_len]; exact hil)
      rw [nth_mkG 1 hil, marks_len] at g0
      rw [nth_mkG 1 hil] at i0
      have hfi := HF.out i hi
      have hf1 := h3 i hil
      have hoff : offs L 1 (i + 1) = offs L 1 i + 2 * ((nth L i).length : Int) := rfl
      obtain ⟨ln, hln⟩ : ∃ ln, (nth L i).length = ln := ⟨_, rfl⟩
      rw [hln] at g0 i0 hf1 hoff
      obtain ⟨of, hof⟩ : ∃ of, offs L 1 i = of := ⟨_, rfl⟩
      rw [hof] at hfi hoff i0 ⊢
      have HOO := hid hoff
      have q0 := cell_later hbw g0
      have I0 := hid ((i0.later hbw).mono hbw.size)
      have hd : decide ((i : Int) < (L.length : Int)) = true := decide_eq_true (by omega)
      have j0 : (0 : Int) ≤ (i : Int) := by omega
      have j1 : (i : Int) < (L.length : Int) := by omega
      have HBW := hid hbw
      clear g0 i0 hbw hln hof hoff
      go_wp2_with (go_at_call 26; refine (held_c ai ln ci of wr (by omega) (by omega) (by omega) I0.out).mono ?_; rintro e w2 ⟨rfl, hb2⟩; have hneg : decide (of + 2 * (ln : Int) < 0) = false := decide_eq_false (by omega))
      go_roundw
      case rel => exact ⟨i + 1, by omega, by rw [HOO.out], by go_num, grew HBW.out hb2⟩
      case measure => simp [intOf]; omega
    · obtain rfl : i = L.length := by omega
      have hd : decide ((L.length : Int) < (L.length : Int)) = false := decide_eq_false (by omega)
      obtain ⟨of, hof⟩ : ∃ of, offs L 1 L.length = of := ⟨_, rfl⟩
      rw [hof]
      go_wp2
      go_ret
      exact ⟨by rw [hof]; rfl, hbw⟩
end Go.Proofs.YtoefllklngnmeaaDoor
