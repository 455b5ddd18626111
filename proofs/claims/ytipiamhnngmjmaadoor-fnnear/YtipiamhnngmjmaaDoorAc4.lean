/-
  AcrossOf, as the specification has it (contracts for the walks).
  Conditions: as each theorem states them.
-/
import Derived.Test.YtipiamhnngmjmaaDoorAc3
import Derived.Test.YtipiamhnngmjmaaDoorIntLL
import Derived.Test.YtipiamhnngmjmaaDoorHGood
import Derived.Test.YtipiamhnngmjmaaDoorHOut
namespace Go.Proofs.YtipiamhnngmjmaaDoor
open Go.RowKit Go.Shelf
set_option linter.unusedVariables false
set_option maxRecDepth 8000
def acOk (l : List (Int × Int)) : Bool := ghB l && decide (3 ≤ l.length)
def acV (l : List (Int × Int)) : List (List Int) := if acOk l = true then acTo l l.length else []
theorem ret_vbI {v : Value} {a b : Bool} (k : a = b) : Ending.returned (.tuple #[v, .bool a]) = .returned (.tuple #[v, .bool b]) := by rw [k]
theorem gh_allA {l : List (Int × Int)} (h : ghB l = true) : allG l := by
  unfold ghB at h
  rw [Bool.and_eq_true] at h
  exact allG_of ((allGood_iff l).1 h.1)
theorem gh_lenA {l : List (Int × Int)} (h : ghB l = true) : l.length ≤ 60 := by
  unfold ghB at h
  rw [Bool.and_eq_true, Bool.and_eq_true] at h
  exact of_decide_eq_true h.2.1
theorem gh_ringA {h : List (Int × Int)} (hg : ghB h = true) (hne : h ≠ []) : Ring (fromL h) h := by
  have hA := gh_allA hg
  unfold ghB at hg
  rw [Bool.and_eq_true, Bool.and_eq_true, decide_eq_true_iff, decide_eq_true_iff] at hg
  have hA2 := fromL_all hA
  exact own_ring ((hullB_congr (t := tP) (t' := slB) fun a ha b hb c hc => (slB_eq (hA2 a ha) (hA2 b hb) (hA2 c hc)).symm).trans hg.2.2) hne
theorem gh_turns {l : List (Int × Int)} (h : ghB l = true) (h3 : 3 ≤ l.length) : ∀ k, k < l.length → 0 < cx (sidE l k) (sid l k) := by
  have hr : Ring (fromL l) l := gh_ringA h (by intro e; rw [e] at h3; simp at h3)
  intro k hk
  have h0 : 0 < l.length := by omega
  obtain ⟨j, hj, hjk⟩ : ∃ j, j < l.length ∧ (j + 1) % l.length = k := by
    refine ⟨(k + l.length - 1) % l.length, Nat.mod_lt _ h0, ?_⟩
    rw [Nat.mod_add_mod, show k + l.length - 1 + 1 = k + l.length by omega, Nat.add_mod_right, Nat.mod_eq_of_lt hk]
  have ht := hr.turn h3 hj
  rw [sd_step] at ht
  have e1 : (k + l.length - 1) % l.length = j := by
    by_cases hj1 : j + 1 = l.length
    · rw [hj1, Nat.mod_self] at hjk
      subst hjk
      rw [Nat.zero_add, Nat.mod_eq_of_lt (by omega)]
      omega
    · rw [Nat.mod_eq_of_lt (by omega)] at hjk
      rw [← hjk, show j + 1 + l.length - 1 = j + l.length by omega, Nat.add_mod_right, Nat.mod_eq_of_lt hj]
  have e2 : (j + 2) % l.length = (k + 1) % l.length := by
    rw [← hjk, Nat.mod_add_mod]
  unfold sidE
  rw [e1]
  unfold sid
  rw [hjk, ← e2]
  rw [hjk] at ht
  exact ht
theorem ownNewI {N : Nat} (w w' : World) (i j : Int) (hb : Below (w.heap.size + 1) (w.alloc (.cells #[.int .i64 i, .int .i64 j] 3)) w') (hN : N ≤ w.heap.size) : OwnI N (.slice (some ⟨w.heap.size, 0, none⟩) 2 2) [i, j] w' := by
  have e : w'.heap[w.heap.size]? = some (.cells #[.int .i64 i, .int .i64 j] 3 (0, 0)) := (hb.block _ (Nat.lt_succ_self _)).trans (heap_alloc_new _ _)
  exact ownI_of (l := [i, j]) hN e (Nat.le_refl _) (by unfold maxLen; decide) (by simp) (by simp [vals])
theorem ac_few {l : List (Int × Int)} (h : l.length ≤ 60) {i m : Nat} (hi : i ≤ l.length) (hm : m ≤ l.length) : (acTo l i ++ acRow l i m).length ≤ 4000 := by
  have h2 := acTo_len l i
  have h3 := acRow_len l i m
  have h4 : i * l.length ≤ 60 * 60 := Nat.mul_le_mul (by omega) (by omega)
  rw [List.length_append]
  omega
set_option maxHeartbeats 8000000 in
theorem acrossOfSpec_c (l : List (Int × Int)) (a : Option Addr) (len cap : Nat) (w : World) (hl : l.length = len) (h1 : len ≤ 1048576) (hA : At w.heap.size a l w) :
    Calls Tryd.prog 25 #[.slice a len cap] w fun e w' => ∃ v vs, e = .returned (.tuple #[v, .bool (acOk l)]) ∧ OwnIS w.heap.size v (acV l) vs w' ∧ Below w.heap.size w w' := by
  subst hl
  have HA := hid hA
  clear hA
  obtain ⟨is, hsi, hs0, hs1, hs2⟩ := info_parts info_si
  cases hG : ghB l
  · have HK := hid (show acOk l = false by unfold acOk; rw [hG]; rfl)
    go_enter Tryd.func25, Tryd.ntmps25
    go_wp2_with (go_at_call 54; refine (goodHullSpec_c l _ _ _ _ rfl h1 HA.out).mono ?_; rw [hG]; rintro e w1 ⟨rfl, hb1⟩)
    go_ret2
    exact ⟨_, [], ret_vbI HK.out.symm, by unfold acV; rw [HK.out]; exact OwnIS.nil _ _, hb1⟩
  · by_cases h3 : 3 ≤ l.length
    · have HK := hid (show acOk l = true by unfold acOk; rw [hG, decide_eq_true h3]; rfl)
      have H60 := hid (gh_lenA hG)
      have HG := hid (gh_allA hG)
      have HT := hid (gh_turns hG h3)
      have hd3 : decide ((l.length : Int) < 3) = false := decide_eq_false (by omega)
      go_enter Tryd.func25, Tryd.ntmps25
      go_wp2_with (go_at_call 54; refine (goodHullSpec_c l _ _ _ _ rfl h1 HA.out).mono ?_; rw [hG]; rintro e w1 ⟨rfl, hb1⟩)
      clear hG hd3
      have HB1 := hid hb1
      clear hb1
      go_loopw [4, 17] (fun o ii wr => ∃ (i : Nat) (vs : List Value), i ≤ l.length ∧ ii = .int .i64 i ∧ OwnIS w.heap.size o (acTo l i) vs wr ∧ Below w.heap.size w wr) (fun _ ii _ => l.length - (intOf ii).toNat)
      case atStart => exact ⟨0, [], Nat.zero_le _, rfl, OwnIS.nil _ _, HB1.out⟩
      case round =>
        obtain ⟨i, vs, hi, rfl, hO, hbw⟩ := hrel
        obtain ⟨a3, c3, hv3⟩ := hO.shape
        subst hv3
        by_cases hil : i < l.length
        · have hO2 : OwnIS w.heap.size (.slice a3 (acTo l i).length c3) (acTo l i ++ acRow l i 0) vs wr := by rw [show acRow l i 0 = [] from rfl, List.append_nil]; exact hO
          have HO := hid hO2
          have HBW := hid hbw
          clear hO hO2 hbw
          have j0 : (0 : Int) ≤ (i : Int) := by omega
          have hw1 : wrap64 ((i : Int) + 1) = ((i + 1 : Nat) : Int) := by rw [wrap_in (by omega) (by omega)]; omega
          have hw2 : IntKind.i64.wrap ((i : Int) + 1) = ((i + 1 : Nat) : Int) := by clear hw1; rw [IntKind.wrap_i64]; omega
          obtain ⟨N0, hN0⟩ : ∃ q, (acTo l i).length = q := ⟨_, rfl⟩
          rw [hN0] at HO ⊢
          have HN0 := hid hN0
          clear hN0
          go_wp2
          clear hw1 hw2
          go_loopw [4, 6] (fun o jj wr => ∃ (m : Nat) (vs : List Value), i + 1 + m ≤ l.length ∧ jj = .int .i64 ((i + 1 + m : Nat) : Int) ∧ OwnIS w.heap.size o (acTo l i ++ acRow l i m) vs wr ∧ Below w.heap.size w wr) (fun _ jj _ => l.length - (intOf jj).toNat)
          case atStart => exact ⟨0, vs, by omega, by first | rfl | go_num, HO.out, HBW.out⟩
          case round =>
            clear HO HBW HN0
            obtain ⟨m, vs2, hm, rfl, hO, hbw⟩ := hrel
            obtain ⟨a4, c4, hv4⟩ := hO.shape
            subst hv4
            have hvl : vs2.length = (acTo l i ++ acRow l i m).length := hO.len
            have HO := hid hO
            have HBW := hid hbw
            have HF := hid (ac_few H60.out (i := i) (m := m) (by omega) (by omega))
            clear hO
            obtain ⟨j, hj⟩ : ∃ j, i + 1 + m = j := ⟨_, rfl⟩
            rw [hj]
            by_cases hml : j < l.length
            · have FY := fun e => acRow_yes (h := l) (i := i) (m := m) e
              have FN := fun e => acRow_no (h := l) (i := i) (m := m) e
              rw [hj] at FY FN
              have HFY := hid FY
              have HFN := hid FN
              clear FY FN
              have HJ := hid hj
              clear hj
              obtain ⟨L, hL⟩ : ∃ L, acTo l i ++ acRow l i m = L := ⟨_, rfl⟩
              rw [hL] at HO HF hvl ⊢
              have HL := hid hL
              clear hL
              obtain ⟨t, ht⟩ : ∃ t, acB l i j = t := ⟨_, rfl⟩
              have HTB := hid ht
              have j0 : (0 : Int) ≤ (j : Int) := by omega
              have hd : decide ((j : Int) < (l.length : Int)) = true := decide_eq_true (by omega)
              have AR := True.intro
              cases t
              · go_wp2_with (go_at_call 55; refine (acrossS_c l i j _ _ _ _ rfl h1 hil hml ((HA.out.later hbw).mono hbw.size) HG.out HT.out).mono ?_; rw [HTB.out]; rintro e w5 ⟨rfl, hb5⟩; have HB5 := hid (grew hbw hb5); have HO5 := hid (HO.out.later hb5))
                go_roundw
                case rel => exact ⟨m + 1, vs2, by have := HJ.out; omega, by have := HJ.out; first | go_num | (congr 1; omega), by rw [HFN.out HTB.out, HL.out]; exact HO5.out, HB5.out⟩
                case measure => simp [intOf]; omega
              · go_wp2_with (first
                  | (go_at_call 55; refine (acrossS_c l i j _ _ _ _ rfl h1 hil hml ((HA.out.later hbw).mono hbw.size) HG.out HT.out).mono ?_; rw [HTB.out]; rintro e w5 ⟨rfl, hb5⟩; have HB5 := hid (grew hbw hb5); have HO5 := hid (HO.out.later hb5); have hs5 := HB5.out.size; clear hb5)
                  | (at_builtin; refine wpList_append_w rfl (.tmp 32) (.tmp 36) 39 rfl w.heap.size Tryd.underlying39 hsi hs0 hs1 hs2 (by rfl) (.slice a4 L.length c4) (.slice (some ⟨w5.heap.size, 0, none⟩) 2 2) vs2 rfl (by rfl) (HO5.out.out.later (by go_grown)) ⟨w5.heap.size + 1, 0, none⟩ _ rfl (by simp [go_sem]) rfl (by have := HF.out; omega) (by simp; omega) ?_; intro gq cp6 w6 hO6 hg6 hgg6; have HP := hid (HO5.out.push (l := [(i : Int), (j : Int)]) (by go_grown) hs5 (ownNewI w5 _ _ _ (by go_grown) (Nat.le_refl _)) hO6 hg6 hgg6); have HB6 := hid ((HO5.out.out.later (by go_grown)).grownBelow hg6 (by simp; omega)); rw [hvl] at HP ⊢; clear hO6 hg6 hgg6))
                go_roundw
                case rel => exact ⟨m + 1, _, by have := HJ.out; omega, by have := HJ.out; first | go_num | (congr 1; omega), by rw [HFY.out HTB.out, ← List.append_assoc, HL.out]; exact HP.out, (HB5.out.trans ((by go_grown : Below w5.heap.size w5 _).mono hs5)).trans HB6.out⟩
                case measure => simp [intOf]; omega
            · have hjn : j = l.length := by omega
              have hd : decide ((j : Int) < (l.length : Int)) = false := decide_eq_false (by omega)
              have HJ := hid hj
              clear hj
              go_wp2
              go_roundw
              case rel => exact ⟨i + 1, vs2, by omega, by go_num, by rw [acTo, show l.length - (i + 1) = m by have := HJ.out; omega]; exact HO.out, HBW.out⟩
              case measure => simp [intOf]; omega
        · obtain rfl : i = l.length := by omega
          go_wp2
          go_ret2
          exact ⟨_, vs, ret_vbI HK.out.symm, by unfold acV; rw [HK.out, if_pos rfl]; exact hO, hbw⟩
    · have HK := hid (show acOk l = false by unfold acOk; rw [hG, decide_eq_false h3]; rfl)
      have hd3 : decide ((l.length : Int) < 3) = true := decide_eq_true (by omega)
      have hd4 : l.length < 3 := by omega
      go_enter Tryd.func25, Tryd.ntmps25
      go_wp2_with (go_at_call 54; refine (goodHullSpec_c l _ _ _ _ rfl h1 HA.out).mono ?_; rw [hG]; rintro e w1 ⟨rfl, hb1⟩)
      go_ret2
      exact ⟨_, [], ret_vbI HK.out.symm, by unfold acV; rw [HK.out]; exact OwnIS.nil _ _, hb1⟩
end Go.Proofs.YtipiamhnngmjmaaDoor
