/-
  Where a point is of a ring, as the specification has it (contracts for the walks).
  Conditions: as each theorem states them.
-/
import Derived.Test.YtoefllklngnmeaaDoorOn4
namespace Go.Proofs.YtoefllklngnmeaaDoor
open Go.RowKit Go.Shelf
set_option linter.unusedVariables false
def rimS (h : List (Int × Int)) (q : Int × Int) : Nat := fstT (sideT onB h q) h.length
def onS (h : List (Int × Int)) (q : Int × Int) : Bool := decide (rimS h q < h.length)
def rimW (h : List (Int × Int)) (q : Int × Int) : Int := if onS h q = true then rimS h q else 0
/-- Where a point is, as the specification has it. -/
def whS (h : List (Int × Int)) (q : Int × Int) : Int := if onS h q = true then 1 else if h.length < 3 then 0 else if allT (sideT slB h q) h.length = true then 2 else 0
def outTo (h : List (Int × Int)) (q : Int × Int) (k : Nat) : Int := if allT (sideT slB h q) k = true then 2 else 0
theorem outTo.stay {h : List (Int × Int)} {q : Int × Int} {k : Nat} (e : sideT slB h q k = true) : outTo h q (k + 1) = outTo h q k := by
  unfold outTo; rw [allT_succ, e, Bool.and_true]
theorem outTo.no {h : List (Int × Int)} {q : Int × Int} {k : Nat} (e : sideT slB h q k = false) : outTo h q (k + 1) = 0 := by
  unfold outTo; rw [allT_succ, e, Bool.and_false]; rfl
set_option maxHeartbeats 4000000 in
set_option maxRecDepth 8000 in
theorem l4Where_c (l : List (Int × Int)) (qx qy : Int) (a : Option Addr) (len cap : Nat) (w : World) (hl : l.length = len) (h1 : len ≤ 1048576) (hA : At w.heap.size a l w) :
    Calls Tryd.prog 71 #[.slice a len cap, .agg #[.int .i64 qx, .int .i64 qy]] w fun e w' => e = .returned (.int .i64 (whS l (qx, qy))) ∧ Below w.heap.size w w' := by
  subst hl
  have HA := hid hA
  clear hA
  go_enter Tryd.func71, Tryd.ntmps71
  go_wp2
  go_loopw [5, 11] (fun o i wr => ∃ k : Nat, k ≤ l.length ∧ o = .int .i64 (outTo l (qx, qy) k) ∧ i = .int .i64 k ∧ NoTo (sideT onB l (qx, qy)) k ∧ wr.cell? ⟨w.heap.size, 0, none⟩ = some (.int .i64 qx) ∧ wr.cell? ⟨w.heap.size, 1, none⟩ = some (.int .i64 qy) ∧ Below w.heap.size w wr) (fun _ i _ => l.length - (intOf i).toNat)
  case atStart => exact ⟨0, Nat.zero_le _, rfl, rfl, fun i hi => absurd hi (Nat.not_lt_zero _), box0 _ _ _ _, box1 _ _ _ _, by go_grown⟩
  case round =>
    obtain ⟨k, hk, rfl, rfl, hC, r0, r1, hbw⟩ := hrel
    have HC := hid hC
    clear hC
    by_cases hkl : k < l.length
    · have hm : (k + 1) % l.length < l.length := Nat.mod_lt _ (by omega)
      have hc := mod_up (k := k) (n := l.length) rfl
      obtain ⟨m, hmm⟩ : ∃ m, (k + 1) % l.length = m := ⟨_, rfl⟩
      have HM : sideT onB l (qx, qy) k = onB (px l k, py l k) (px l m, py l m) (qx, qy) := by rw [← hmm]; rfl
      have HS : sideT slB l (qx, qy) k = slB (px l k, py l k) (px l m, py l m) (qx, qy) := by rw [← hmm]; rfl
      have HM' := hid HM
      have HS' := hid HS
      rw [hmm] at hm hc
      clear hmm HM HS
      have m0 : (0 : Int) ≤ (m : Int) := by omega
      have m1 : (m : Int) < (l.length : Int) := by omega
      obtain ⟨b, off, rfl, hbN, g0, g1⟩ := HA.out k hkl
      obtain ⟨b', off', hb', hbN', g2, g3⟩ := HA.out m hm
      cases hb'
      have q0 := cell_later hbw g0
      have q1 := cell_later hbw g1
      have q2 := cell_later hbw g2
      have q3 := cell_later hbw g3
      have hsz := hbw.size
      have hbl : b < wr.heap.size := by omega
      have hbq : w.heap.size < wr.heap.size := World.block_lt_of_cell? wr _ r0
      clear g0 g1 g2 g3
      have hbX : Below wr.heap.size wr ((wr.alloc (.cells #[.int .i64 (px l k), .int .i64 (py l k)] 30)).alloc (.cells #[.int .i64 (px l m), .int .i64 (py l m)] 30)) := by go_grown
      have HBX := hid (grew hbw hbX)
      have R0 := hid (cell_later hbX r0)
      have R1 := hid (cell_later hbX r1)
      have k0 : ((wr.alloc (.cells #[.int .i64 (px l k), .int .i64 (py l k)] 30)).alloc (.cells #[.int .i64 (px l m), .int .i64 (py l m)] 30)).cell? ⟨wr.heap.size, 0, none⟩ = some (.int .i64 (px l k)) := by simp [go_sem]
      have k1 : ((wr.alloc (.cells #[.int .i64 (px l k), .int .i64 (py l k)] 30)).alloc (.cells #[.int .i64 (px l m), .int .i64 (py l m)] 30)).cell? ⟨wr.heap.size, 1, none⟩ = some (.int .i64 (py l k)) := by simp [go_sem]
      have k2 : ((wr.alloc (.cells #[.int .i64 (px l k), .int .i64 (py l k)] 30)).alloc (.cells #[.int .i64 (px l m), .int .i64 (py l m)] 30)).cell? ⟨wr.heap.size + 1, 0, none⟩ = some (.int .i64 (px l m)) := by simp [go_sem]
      have k3 : ((wr.alloc (.cells #[.int .i64 (px l k), .int .i64 (py l k)] 30)).alloc (.cells #[.int .i64 (px l m), .int .i64 (py l m)] 30)).cell? ⟨wr.heap.size + 1, 1, none⟩ = some (.int .i64 (py l m)) := by simp [go_sem]
      have K0 := hid k0
      have K1 := hid k1
      have K2 := hid k2
      have K3 := hid k3
      clear k0 k1 k2 k3 hbX
      cases hE : onB (px l k, py l k) (px l m, py l m) (qx, qy)
      · by_cases hS : sg (crossW (px l k) (py l k) (px l m) (py l m) qx qy) ≤ 0
        · go_wp2_with (first
            | (go_at_call 93; refine (l4On_c _ _ _ _ _ _ _).mono ?_; rw [hE]; rintro e w1 ⟨rfl, hb⟩; have s0 := cell_later hb R0.out; have s1 := cell_later hb R1.out; have k0 := cell_later hb K0.out; have k1 := cell_later hb K1.out; have k2 := cell_later hb K2.out; have k3 := cell_later hb K3.out; have HB1 := hid (grew HBX.out hb); clear hb r0 r1 q0 q1 q2 q3)
            | (go_at_call 60; refine (side_c _ _ _ _ _ _ _).mono ?_; rintro e w2 ⟨rfl, hb⟩; have t0 := cell_later hb s0; have t1 := cell_later hb s1; have HB2 := hid (grew HB1.out hb); clear hb s0 s1 k0 k1 k2 k3))
          go_roundw
          case rel => exact ⟨k + 1, by omega, by rw [outTo.no (HS'.out.trans (by unfold slB; rw [decide_eq_true hS]; rfl))], by go_num, HC.out.succ (HM'.out.trans hE), t0, t1, HB2.out⟩
          case measure => simp [intOf]; omega
        · go_wp2_with (first
            | (go_at_call 93; refine (l4On_c _ _ _ _ _ _ _).mono ?_; rw [hE]; rintro e w1 ⟨rfl, hb⟩; have s0 := cell_later hb R0.out; have s1 := cell_later hb R1.out; have k0 := cell_later hb K0.out; have k1 := cell_later hb K1.out; have k2 := cell_later hb K2.out; have k3 := cell_later hb K3.out; have HB1 := hid (grew HBX.out hb); clear hb r0 r1 q0 q1 q2 q3)
            | (go_at_call 60; refine (side_c _ _ _ _ _ _ _).mono ?_; rintro e w2 ⟨rfl, hb⟩; have t0 := cell_later hb s0; have t1 := cell_later hb s1; have HB2 := hid (grew HB1.out hb); clear hb s0 s1 k0 k1 k2 k3))
          go_roundw
          case rel => exact ⟨k + 1, by omega, by rw [outTo.stay (HS'.out.trans (by unfold slB; rw [decide_eq_false (Int.not_le.2 hS)]; rfl))], by go_num, HC.out.succ (HM'.out.trans hE), t0, t1, HB2.out⟩
          case measure => simp [intOf]; omega
      · have hn : rimS l (qx, qy) = k := fstT_at HC.out (HM'.out.trans hE) _ hkl
        have ho : onS l (qx, qy) = true := by unfold onS; rw [hn]; exact decide_eq_true hkl
        have HO := hid ho
        clear hn ho
        go_wp2_with (first
          | (go_at_call 93; refine (l4On_c _ _ _ _ _ _ _).mono ?_; rw [hE]; rintro e w1 ⟨rfl, hb⟩; have HB1 := hid (grew HBX.out hb); clear hb r0 r1 q0 q1 q2 q3))
        go_ret
        exact ⟨ret_int (by unfold whS; rw [HO.out, if_pos rfl]), HB1.out⟩
    · obtain rfl : k = l.length := by omega
      have hn : rimS l (qx, qy) = l.length := fstT_none _ HC.out
      have ho : onS l (qx, qy) = false := by unfold onS; rw [hn]; exact decide_eq_false (Nat.lt_irrefl _)
      have HO := hid ho
      clear hn ho
      by_cases h3 : l.length < 3
      · have HL := hid h3
        have hd : decide ((l.length : Int) < 3) = true := decide_eq_true (by omega)
        go_wp2
        go_ret
        exact ⟨ret_int (by unfold whS; rw [HO.out, if_neg (by decide), if_pos HL.out]), hbw⟩
      · have HL := hid h3
        have hd : decide ((l.length : Int) < 3) = false := decide_eq_false (by omega)
        go_wp2
        go_ret
        exact ⟨ret_int (by unfold whS; rw [HO.out, if_neg (by decide), if_neg HL.out]; rfl), hbw⟩
end Go.Proofs.YtoefllklngnmeaaDoor
