/-
  Whether a point is in a list: the program's and the specification's searches (contracts for the walks).
  Conditions: as each theorem states them.
-/
import Derived.Test.YtoefllklngnmeaaDoorLyMath
namespace Go.Proofs.YtoefllklngnmeaaDoor
open Go.RowKit Go.Shelf
set_option linter.unusedVariables false
set_option maxRecDepth 8000
/-- None of the first k points is the one that is looked for. -/
def NoneTo (l : List (Int × Int)) (x y : Int) (k : Nat) : Prop := ∀ i, i < k → ¬ ((px l i, py l i) = (x, y))
theorem NoneTo.succ {l : List (Int × Int)} {x y : Int} {k : Nat} (h : NoneTo l x y k) (e : ¬ (px l k, py l k) = (x, y)) : NoneTo l x y (k + 1) := fun i hi => by
  by_cases h1 : i < k
  · exact h i h1
  · obtain rfl : i = k := by omega
    exact e
theorem NoneTo.no {l : List (Int × Int)} {x y : Int} (h : NoneTo l x y l.length) : decide ((x, y) ∈ l) = false := decide_eq_false fun hm => by
  obtain ⟨i, hi, e⟩ := mem_pt hm
  exact h i hi e
theorem has_at {l : List (Int × Int)} {x y : Int} {k : Nat} (h : k < l.length) (e : (px l k, py l k) = (x, y)) : decide ((x, y) ∈ l) = true := decide_eq_true (by rw [← e]; exact pt_mem h)
set_option maxHeartbeats 4000000 in
theorem has_c (l : List (Int × Int)) (x y : Int) (a : Option Addr) (len cap : Nat) (w : World) (hl : l.length = len) (h1 : len ≤ 1048576) (hA : At w.heap.size a l w) :
    Calls Tryd.prog 48 #[.slice a len cap, .agg #[.int .i64 x, .int .i64 y]] w fun e w' => e = .returned (.bool (decide ((x, y) ∈ l))) ∧ Below w.heap.size w w' := by
  subst hl
  have HA := hid hA
  clear hA
  have hbw : Below w.heap.size w (w.alloc (.cells #[.int .i64 x, .int .i64 y] 30)) := by go_grown
  have k0 := box0 w x y 30
  have k1 := box1 w x y 30
  go_enter Tryd.func48, Tryd.ntmps48
  go_wp2
  go_loopw [9] (fun i wr => ∃ k : Nat, k ≤ l.length ∧ i = .int .i64 k ∧ NoneTo l x y k ∧ wr.cell? ⟨w.heap.size, 0, none⟩ = some (.int .i64 x) ∧ wr.cell? ⟨w.heap.size, 1, none⟩ = some (.int .i64 y) ∧ Below w.heap.size w wr) (fun i _ => l.length - (intOf i).toNat)
  case atStart => exact ⟨0, Nat.zero_le _, rfl, fun i hi => absurd hi (Nat.not_lt_zero _), k0, k1, hbw⟩
  case round =>
    clear k0 k1 hbw
    obtain ⟨k, hk, rfl, hC, k0, k1, hbw⟩ := hrel
    have HC := hid hC
    clear hC
    by_cases hkl : k < l.length
    · have hlt := World.block_lt_of_cell? _ _ k0
      obtain ⟨b, off, rfl, hbN, g0, g1⟩ := HA.out k hkl
      have q0 := (hbw.cell (p := ⟨b, off + k * 2, none⟩) hbN).trans g0
      have q1 := (hbw.cell (p := ⟨b, off + k * 2 + 1, none⟩) hbN).trans g1
      clear g0 g1
      obtain ⟨ux, hx⟩ : ∃ u, px l k = u := ⟨_, rfl⟩
      obtain ⟨uy, hy⟩ : ∃ u, py l k = u := ⟨_, rfl⟩
      have HU := hid (show (px l k, py l k) = (ux, uy) by rw [hx, hy])
      rw [hx] at q0
      rw [hy] at q1
      clear hx hy
      have hi0 : (0 : Int) ≤ (k : Int) := by omega
      have hi1 : (k : Int) < (l.length : Int) := by omega
      by_cases ex : ux = x
      · by_cases ey : uy = y
        · subst ex ey
          go_wp2
          go_ret
          exact ⟨ret_bool (by rw [has_at hkl (HU.out)]), grew hbw (by go_grown)⟩
        · have ey2 : (uy == y) = false := by simpa using ey
          have ey3 : (y == uy) = false := by simpa using fun h => ey h.symm
          have HN := hid (show ¬ (ux, uy) = (x, y) from fun e => ey (congrArg Prod.snd e))
          subst ex
          clear ey
          go_wp2
          go_roundw
          case rel => exact ⟨k + 1, by omega, by go_num, HC.out.succ (by rw [HU.out]; exact HN.out), cell_later (by go_grown) k0, cell_later (by go_grown) k1, grew hbw (by go_grown)⟩
          case measure => simp [intOf]; omega
      · have ex2 : (ux == x) = false := by simpa using ex
        have ex3 : (x == ux) = false := by simpa using fun h => ex h.symm
        have HN := hid (show ¬ (ux, uy) = (x, y) from fun e => ex (congrArg Prod.fst e))
        clear ex
        go_wp2
        go_roundw
        case rel => exact ⟨k + 1, by omega, by go_num, HC.out.succ (by rw [HU.out]; exact HN.out), cell_later (by go_grown) k0, cell_later (by go_grown) k1, grew hbw (by go_grown)⟩
        case measure => simp [intOf]; omega
    · obtain rfl : k = l.length := by omega
      go_wp2
      go_ret
      exact ⟨ret_bool (by rw [HC.out.no]), hbw⟩
set_option maxHeartbeats 4000000 in
theorem index_c (l : List (Int × Int)) (x y : Int) (a : Option Addr) (len cap : Nat) (w : World) (hl : l.length = len) (h1 : len ≤ 1048576) (hA : At w.heap.size a l w) :
    Calls Tryd.prog 69 #[.slice a len cap, .agg #[.int .i64 x, .int .i64 y]] w fun e w' => ∃ n : Int, e = .returned (.int .i64 n) ∧ (decide (0 ≤ n) = decide ((x, y) ∈ l)) ∧ Below w.heap.size w w' := by
  subst hl
  have HA := hid hA
  clear hA
  have hbw : Below w.heap.size w (w.alloc (.cells #[.int .i64 x, .int .i64 y] 30)) := by go_grown
  have k0 := box0 w x y 30
  have k1 := box1 w x y 30
  go_enter Tryd.func69, Tryd.ntmps69
  go_wp2
  go_loopw [8] (fun i wr => ∃ k : Nat, k ≤ l.length ∧ i = .int .i64 k ∧ NoneTo l x y k ∧ wr.cell? ⟨w.heap.size, 0, none⟩ = some (.int .i64 x) ∧ wr.cell? ⟨w.heap.size, 1, none⟩ = some (.int .i64 y) ∧ Below w.heap.size w wr) (fun i _ => l.length - (intOf i).toNat)
  case atStart => exact ⟨0, Nat.zero_le _, rfl, fun i hi => absurd hi (Nat.not_lt_zero _), k0, k1, hbw⟩
  case round =>
    clear k0 k1 hbw
    obtain ⟨k, hk, rfl, hC, k0, k1, hbw⟩ := hrel
    have HC := hid hC
    clear hC
    by_cases hkl : k < l.length
    · have hlt := World.block_lt_of_cell? _ _ k0
      obtain ⟨b, off, rfl, hbN, g0, g1⟩ := HA.out k hkl
      have q0 := (hbw.cell (p := ⟨b, off + k * 2, none⟩) hbN).trans g0
      have q1 := (hbw.cell (p := ⟨b, off + k * 2 + 1, none⟩) hbN).trans g1
      clear g0 g1
      obtain ⟨ux, hx⟩ : ∃ u, px l k = u := ⟨_, rfl⟩
      obtain ⟨uy, hy⟩ : ∃ u, py l k = u := ⟨_, rfl⟩
      have HU := hid (show (px l k, py l k) = (ux, uy) by rw [hx, hy])
      rw [hx] at q0
      rw [hy] at q1
      clear hx hy
      have hi0 : (0 : Int) ≤ (k : Int) := by omega
      have hi1 : (k : Int) < (l.length : Int) := by omega
      by_cases ex : ux = x
      · by_cases ey : uy = y
        · subst ex ey
          go_wp2
          go_quiet (fail)
          go_wp2
          go_ret
          exact ⟨_, rfl, by rw [has_at hkl (HU.out)]; simp, grew hbw (drewN_below _ _)⟩
        · have ey2 : (uy == y) = false := by simpa using ey
          have ey3 : (y == uy) = false := by simpa using fun h => ey h.symm
          have HN := hid (show ¬ (ux, uy) = (x, y) from fun e => ey (congrArg Prod.snd e))
          subst ex
          clear ey
          go_wp2
          go_quiet (fail)
          go_wp2
          go_roundw
          case rel => exact ⟨k + 1, by omega, by go_num, HC.out.succ (by rw [HU.out]; exact HN.out), cell_later (drewN_below _ _) k0, cell_later (drewN_below _ _) k1, grew hbw (drewN_below _ _)⟩
          case measure => simp [intOf]; omega
      · have ex2 : (ux == x) = false := by simpa using ex
        have ex3 : (x == ux) = false := by simpa using fun h => ex h.symm
        have HN := hid (show ¬ (ux, uy) = (x, y) from fun e => ex (congrArg Prod.fst e))
        clear ex
        go_wp2
        go_quiet (fail)
        go_wp2
        go_roundw
        case rel => exact ⟨k + 1, by omega, by go_num, HC.out.succ (by rw [HU.out]; exact HN.out), cell_later (drewN_below _ _) k0, cell_later (drewN_below _ _) k1, grew hbw (drewN_below _ _)⟩
        case measure => simp [intOf]; omega
    · obtain rfl : k = l.length := by omega
      go_wp2
      go_ret
      exact ⟨_, rfl, by rw [HC.out.no]; simp, hbw⟩
set_option maxHeartbeats 2000000 in
theorem contains_c (l : List (Int × Int)) (x y : Int) (a : Option Addr) (len cap : Nat) (w : World) (hl : l.length = len) (h1 : len ≤ 1048576) (hA : At w.heap.size a l w) :
    Calls Tryd.prog 49 #[.slice a len cap, .agg #[.int .i64 x, .int .i64 y]] w fun e w' => e = .returned (.bool (decide ((x, y) ∈ l))) ∧ Below w.heap.size w w' := by
  have hbw : Below w.heap.size w (w.alloc (.cells #[.int .i64 x, .int .i64 y] 30)) := by go_grown
  have HA := hid hA
  clear hA
  go_enter Tryd.func49, Tryd.ntmps49
  go_wp2_with (go_at_call 69; refine (index_c l x y _ _ _ _ hl h1 ((HA.out.later hbw).mono hbw.size)).mono ?_; rintro e w1 ⟨n, rfl, hn, hb⟩; have HN := hid hn; have hb1 := grew hbw hb; clear hn hb)
  go_ret
  exact ⟨ret_bool (by first | (rw [← HN.out]; done) | (rw [← HN.out]; simp)), hb1⟩
end Go.Proofs.YtoefllklngnmeaaDoor
