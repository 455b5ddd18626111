/-
  What is a good hull, and what is the hull of a set, in the specification and in the program (contracts for the walks).
  Conditions: as each theorem states them.
-/
import Derived.Test.YtipiamhnngmjmaaDoorHHull
namespace Go.Proofs.YtipiamhnngmjmaaDoor
open Go.RowKit Go.Shelf
set_option linter.unusedVariables false
set_option maxRecDepth 8000
theorem put1_mem {s : List (Int × Int)} {x y : Int} {p : Int × Int} (h : p ∈ put1 s x y) : p ∈ s ∨ p = (x, y) := by
  unfold put1 at h
  split at h
  · exact .inl h
  · unfold putR at h
    rcases List.mem_append.1 h with h | h
    · exact .inl (List.mem_of_mem_take h)
    · rcases List.mem_cons.1 h with h | h
      · exact .inr h
      · exact .inl (List.mem_of_mem_drop h)
theorem fromL_mem_aux (l : List (Int × Int)) : ∀ (s : List (Int × Int)) (p : Int × Int), p ∈ l.foldl (fun s p => put1 s p.1 p.2) s → p ∈ s ∨ p ∈ l := by
  induction l with
  | nil => intro s p h; exact .inl h
  | cons q l ih =>
    intro s p h
    rcases ih _ _ h with h | h
    · rcases put1_mem h with h | h
      · exact .inl h
      · exact .inr (by simp [h])
    · exact .inr (by simp [h])
theorem fromL_mem {l : List (Int × Int)} {p : Int × Int} (h : p ∈ fromL l) : p ∈ l := by
  rcases fromL_mem_aux l [] p h with h | h
  · cases h
  · exact h
theorem fromL_all {l : List (Int × Int)} (h : allG l) : allG (fromL l) := fun p hp => h p (fromL_mem hp)
theorem fromL_few (l : List (Int × Int)) : (fromL l).length ≤ l.length := by
  have := fromL_len l l.length (Nat.le_refl _)
  rwa [List.take_length] at this
def ghB (l : List (Int × Int)) : Bool := allGood l && (decide (l.length ≤ 60) && decide (hullB slB (fromL l) = l))
set_option maxHeartbeats 2000000 in
theorem goodHullSpec_c (l : List (Int × Int)) (a : Option Addr) (len cap : Nat) (w : World) (hl : l.length = len) (h1 : len ≤ 1048576) (hA : At w.heap.size a l w) :
    Calls Tryd.prog 54 #[.slice a len cap] w fun e w' => e = .returned (.bool (ghB l)) ∧ Below w.heap.size w w' := by
  subst hl
  have HA := hid hA
  clear hA
  go_enter Tryd.func54, Tryd.ntmps54
  go_wp2
  go_loopw [7] (fun i wr => ∃ k : Nat, k ≤ l.length ∧ i = .int .i64 k ∧ GoodTo l k ∧ Below w.heap.size w wr) (fun i _ => l.length - (intOf i).toNat)
  case atStart => exact ⟨0, Nat.zero_le _, rfl, GoodTo.zero _, Below.refl _ _⟩
  case round =>
    obtain ⟨k, hk, rfl, hC, hbw⟩ := hrel
    have HC := hid hC
    clear hC
    by_cases hkl : k < l.length
    · obtain ⟨b, off, rfl, hbN, g0, g1⟩ := HA.out k hkl
      have q0 := cell_later hbw g0
      have q1 := cell_later hbw g1
      have hsz := hbw.size
      clear g0 g1
      cases hE : goodB (px l k) (py l k)
      · go_wp2_with (go_at_call 46; refine (goodSpec_e _ _ _).mono ?_; rw [hE]; rintro e w1 ⟨rfl, hb1⟩)
        go_ret
        exact ⟨by rw [ghB, allGood_false hkl hE]; rfl, grew hbw (grew (by go_grown) hb1)⟩
      · go_wp2_with (go_at_call 46; refine (goodSpec_e _ _ _).mono ?_; rw [hE]; rintro e w1 ⟨rfl, hb1⟩)
        go_roundw
        case rel => exact ⟨k + 1, by omega, by go_num, HC.out.succ hE, grew hbw (grew (by go_grown) hb1)⟩
        case measure => simp [intOf]; omega
    · obtain rfl : k = l.length := by omega
      have hG := (allGood_iff l).2 HC.out
      have hlt : l.length ≤ l.length := Nat.le_refl _
      by_cases h6 : l.length ≤ 60
      · have hd : decide ((l.length : Int) ≤ 60) = true := decide_eq_true (by omega)
        have e2 : ghB l = decide (hullB slB (fromL l) = l) := by unfold ghB; rw [hG, decide_eq_true h6]; rfl
        have HE2 := hid e2
        have f1 := fromL_few l
        have f2 := hullB_len (t := slB) (fromL l)
        clear e2
        go_wp2_with (first
          | (go_at_call 83; refine (l2From_c l _ _ _ wr rfl h1 ((HA.out.later hbw).mono hbw.size)).mono ?_; rintro e w1 ⟨v1, rfl, ho1, hb1⟩; obtain ⟨a1, p1, hv1⟩ := ho1.shape; subst hv1; have hbw1 := grew hbw hb1)
          | (go_at_call 82; refine (l3Hull_c (fromL l) _ _ _ w1 rfl (by omega) ho1.fit ho1.at).mono ?_; rintro e w2 ⟨v2, rfl, ho2, hb2⟩; obtain ⟨a2, p2, hv2⟩ := ho2.shape; subst hv2; have hbw2 := grew hbw1 hb2)
          | (go_at_call 81; refine (l3Same_c (hullB slB (fromL l)) l _ _ _ _ _ _ w2 rfl rfl (by omega) h1 ho2.at ((HA.out.later hbw2).mono hbw2.size)).mono ?_; rintro e w3 ⟨rfl, hb3⟩))
        go_ret
        exact ⟨ret_bool (by rw [HE2.out]; first | done | simp), grew hbw2 hb3⟩
      · have hd : decide ((l.length : Int) ≤ 60) = false := decide_eq_false (by omega)
        have e2 : ghB l = false := by unfold ghB; rw [hG, decide_eq_false h6]; rfl
        have HE2 := hid e2
        clear e2
        go_wp2
        go_ret
        exact ⟨ret_bool (by rw [HE2.out]; first | done | simp), hbw⟩
set_option maxHeartbeats 2000000 in
theorem goodHullImpl_c (l : List (Int × Int)) (a : Option Addr) (len cap : Nat) (w : World) (hl : l.length = len) (h1 : len ≤ 1048576) (hA : At w.heap.size a l w) (c0 : w.cell? ⟨0, 0, none⟩ = some (.int .i64 1000000)) :
    Calls Tryd.prog 56 #[.slice a len cap] w fun e w' => e = .returned (.bool (ghB l)) ∧ Below w.heap.size w w' := by
  subst hl
  have HA := hid hA
  have C0 := hid c0
  clear hA c0
  cases hE : (decide (l.length ≤ 60) && allGood l)
  · have e2 : ghB l = false := by
      unfold ghB
      cases h : allGood l
      · rfl
      · rw [h] at hE
        simp at hE
        simp
        omega
    rw [e2]
    go_enter Tryd.func56, Tryd.ntmps56
    go_wp2_with (go_at_call 78; refine (fewGood_c l _ _ _ _ rfl h1 HA.out C0.out).mono ?_; rw [hE]; rintro e w1 ⟨rfl, hb1⟩)
    go_ret
    exact ⟨rfl, hb1⟩
  · have h6 : l.length ≤ 60 := by simp at hE; exact hE.1
    have hG : allGood l = true := by simp at hE; exact hE.2
    have hall := allG_of ((allGood_iff l).1 hG)
    have e2 : ghB l = decide (l = hullB tlB (fromL l)) := by
      unfold ghB
      rw [hG, decide_eq_true h6, hull_eq (fromL_all hall)]
      simp [eq_comm]
    rw [e2]
    have f1 := fromL_few l
    have f2 := hullB_len (t := tlB) (fromL l)
    clear e2
    go_enter Tryd.func56, Tryd.ntmps56
    go_wp2_with (first
      | (go_at_call 78; refine (fewGood_c l _ _ _ _ rfl h1 HA.out C0.out).mono ?_; rw [hE]; rintro e w1 ⟨rfl, hb1⟩)
      | (go_at_call 87; refine (sortedFrom_c l _ _ _ w1 rfl h1 ((HA.out.later hb1).mono hb1.size)).mono ?_; rintro e w2 ⟨v2, rfl, ho2, hb2⟩; obtain ⟨a2, p2, hv2⟩ := ho2.shape; subst hv2; have hbw2 := grew hb1 hb2)
      | (go_at_call 66; refine (hullOf_c (fromL l) _ _ _ w2 rfl (by omega) ho2.at (cell_later hbw2 C0.out)).mono ?_; rintro e w3 ⟨v3, rfl, ho3, hb3⟩; obtain ⟨a3, p3, hv3⟩ := ho3.shape; subst hv3; have hbw3 := grew hbw2 hb3)
      | (go_at_call 86; refine (equal_c l (hullB tlB (fromL l)) _ _ _ _ _ _ w3 rfl rfl h1 (by omega) ((HA.out.later hbw3).mono hbw3.size) ho3.at).mono ?_; rintro e w4 ⟨rfl, hb4⟩))
    go_ret
    exact ⟨by first | rfl | simp, grew hbw3 hb4⟩
def ihOk (l m : List (Int × Int)) : Bool := goodL l && decide (m.length ≤ 60)
def ihB (l m : List (Int × Int)) : Bool := ihOk l m && decide (hullB slB l = m)
theorem ret_bb {a b c d : Bool} (h : a = b) (k : c = d) : Ending.returned (.tuple #[.bool a, .bool c]) = .returned (.tuple #[.bool b, .bool d]) := by rw [h, k]
end Go.Proofs.YtipiamhnngmjmaaDoor
