/-
  Sets out of lists, in the specification and in the program (contracts for the walks).
  Conditions: as each theorem states them.
-/
import Derived.Test.YtegmlemejmahiaaDoorSet13
namespace Go.Proofs.YtegmlemejmahiaaDoor
open Go.RowKit
set_option linter.unusedVariables false
/-- A point put in where it lacks. -/
def put1 (l : List (Int × Int)) (x y : Int) : List (Int × Int) := if hasB l x y then l else putR l x y
/-- The set of a list. -/
def fromL (l : List (Int × Int)) : List (Int × Int) := l.foldl (fun s p => put1 s p.1 p.2) []
theorem put1_len (l : List (Int × Int)) (x y : Int) : (put1 l x y).length ≤ l.length + 1 := by
  unfold put1
  split
  · omega
  · have := plc_le l x y
    rw [putR, List.length_append, List.length_take, List.length_cons, List.length_drop]; omega
theorem fromL_succ {l : List (Int × Int)} {k : Nat} (h : k < l.length) : fromL (l.take (k + 1)) = put1 (fromL (l.take k)) (px l k) (py l k) := by
  unfold fromL
  rw [List.take_succ_eq_append_getElem h, List.foldl_append]
  simp [px, py, h]
theorem fromL_len (l : List (Int × Int)) : ∀ k, k ≤ l.length → (fromL (l.take k)).length ≤ k := by
  intro k
  induction k with
  | zero => intro _; simp [fromL]
  | succ k ih =>
    intro hk
    rw [fromL_succ (by omega)]
    have := put1_len (fromL (l.take k)) (px l k) (py l k)
    have := ih (by omega)
    omega
theorem plc_below (l : List (Int × Int)) (x y : Int) : ∀ i, i < plc l x y → lessB (px l i) (py l i) x y = true := by
  induction l with
  | nil => intro i hi; simp [plc] at hi
  | cons q l ih =>
    intro i hi
    cases hq : lessB q.1 q.2 x y
    · simp [plc, List.takeWhile, hq] at hi
    · cases i with
      | zero => simpa [px, py] using hq
      | succ i =>
        have e : plc (q :: l) x y = plc l x y + 1 := by simp [plc, List.takeWhile, hq]
        have := ih i (by omega)
        simpa [px, py] using this
theorem plc_at (l : List (Int × Int)) (x y : Int) : plc l x y < l.length → lessB (px l (plc l x y)) (py l (plc l x y)) x y = false := by
  induction l with
  | nil => intro h; simp [plc] at h
  | cons q l ih =>
    intro h
    cases hq : lessB q.1 q.2 x y
    · have e : plc (q :: l) x y = 0 := by simp [plc, List.takeWhile, hq]
      rw [e]; simpa [px, py] using hq
    · have e : plc (q :: l) x y = plc l x y + 1 := by simp [plc, List.takeWhile, hq]
      rw [e] at h ⊢
      have := ih (by simpa using h)
      simpa [px, py] using this
theorem pxy_put (l : List (Int × Int)) (k : Nat) (x y : Int) (hk : k ≤ l.length) : ∀ i, ((l.take k ++ (x, y) :: l.drop k).getD i (0, 0)) = if i < k then l.getD i (0, 0) else if i = k then (x, y) else l.getD (i - 1) (0, 0) := by
  intro i
  rw [List.getD_eq_getElem?_getD, List.getElem?_append, List.length_take]
  by_cases h1 : i < k
  · rw [if_pos (by omega), if_pos h1, List.getElem?_take, if_pos h1, List.getD_eq_getElem?_getD]
  · rw [if_neg (by omega), if_neg h1]
    by_cases h2 : i = k
    · subst h2; simp [Nat.min_eq_left hk]
    · rw [if_neg h2, Nat.min_eq_left hk, show i - k = (i - 1 - k) + 1 by omega, List.getElem?_cons_succ, List.getElem?_drop, show k + (i - 1 - k) = i - 1 by omega, List.getD_eq_getElem?_getD]
theorem put_rises {l : List (Int × Int)} {x y : Int} (h : RisesTo l (l.length - 1)) (hn : hasB l x y = false) : RisesTo (putR l x y) ((putR l x y).length - 1) := by
  have hk := plc_le l x y
  have hlen : (putR l x y).length = l.length + 1 := by rw [putR, List.length_append, List.length_take, List.length_cons, List.length_drop]; omega
  rw [hlen]
  intro i hi
  have hb := plc_below l x y
  have hat := plc_at l x y
  have hno : plc l x y < l.length → lessB x y (px l (plc l x y)) (py l (plc l x y)) = true := fun hl => by
    have e2 := less_eq (hat hl)
    rw [hasB, decide_eq_true hl, Bool.true_and, e2] at hn
    simpa using hn
  clear hn
  unfold putR px py
  rw [pxy_put l _ x y hk i, pxy_put l _ x y hk (i + 1)]
  generalize plc l x y = k at *
  by_cases h1 : i + 1 < k
  · rw [if_pos (by omega), if_pos h1]; exact h i (by omega)
  · by_cases h2 : i + 1 = k
    · rw [if_pos (by omega), if_neg h1, if_pos h2]; exact hb i (by omega)
    · by_cases h3 : i = k
      · subst h3
        rw [if_neg (by omega), if_pos rfl, if_neg (by omega), if_neg (by omega)]
        exact hno (by omega)
      · rw [if_neg (by omega), if_neg h3, if_neg (by omega), if_neg (by omega)]
        have := h (i - 1) (by omega)
        rw [show i - 1 + 1 = i by omega] at this
        exact this
theorem Own.fit {N n cap : Nat} {a : Option Addr} {l : List (Int × Int)} {w : World} (h : Own N (.slice a n cap) l w) : Fit a n cap := by
  rcases h with ⟨rfl, e⟩ | ⟨g, c, f, e, _, h2, h3, _⟩
  · simp at e
    exact .inl ⟨e.1, e.2.2, e.2.1⟩
  · simp at e
    obtain ⟨rfl, rfl, rfl⟩ := e
    exact .inr ⟨⟨g, 0, rfl⟩, h2, h3⟩
set_option maxHeartbeats 1000000 in
theorem l2Put_has (l : List (Int × Int)) (x y : Int) (a : Option Addr) (len cap : Nat) (w : World) (hl : l.length = len) (h1 : len ≤ 1048576) (hA : At w.heap.size a l w) (hN : hasB l x y = true) :
    Calls Tryd.prog 82 #[.slice a len cap, .agg #[.int .i64 x, .int .i64 y]] w fun e w' => e = .returned (.slice a len cap) ∧ Below w.heap.size w w' := by
  subst hl
  have HA := hid hA
  clear hA
  have hC := l2Place_c l x y a l.length cap (w.alloc (.cells #[.int .i64 x, .int .i64 y] 26)) rfl h1 ((HA.out.later (by go_grown)).mono (by simp))
  obtain ⟨k, hk⟩ : ∃ k, plc l x y = k := ⟨_, rfl⟩
  rw [hk] at hC
  rw [hasB, hk, Bool.and_eq_true] at hN
  have hlt := of_decide_eq_true hN.1
  obtain ⟨e1, e2⟩ := of_decide_eq_true hN.2
  clear hN hk
  obtain ⟨b, off, rfl, hbN, g0, g1⟩ := HA.out k hlt
  rw [e1] at g0
  rw [e2] at g1
  clear e1 e2
  have hi1 : (0 : Int) ≤ (k : Int) := by omega
  have hi2 : (k : Int) < (l.length : Int) := by omega
  go_enter Tryd.func82, Tryd.ntmps82
  go_wp2_with (go_at_call 102; refine hC.mono ?_; rintro e w2 ⟨rfl, hb⟩; have hb2 : Below w.heap.size w w2 := grew (by go_grown) hb; have c0 := cell_later hb (box0 w x y 26); have c1 := cell_later hb (box1 w x y 26); have c2 := cell_later hb2 g0; have c3 := cell_later hb2 g1)
  go_quiet (fail)
  go_wp2
  go_ret
  exact ⟨rfl, grew hb2 (drewN_below _ _)⟩
theorem l2Put_own (l : List (Int × Int)) (x y : Int) (N : Nat) (a : Option Addr) (n cap : Nat) (w : World) (h1 : n ≤ 1048576) (hN : N ≤ w.heap.size) (hO : Own N (.slice a n cap) l w) :
    Calls Tryd.prog 82 #[.slice a n cap, .agg #[.int .i64 x, .int .i64 y]] w fun e w' => ∃ v, e = .returned v ∧ Own N v (put1 l x y) w' ∧ Below w.heap.size w w' := by
  cases hT : hasB l x y
  · refine (l2Put_new l x y a n cap w hO.len h1 hO.fit hO.at hT).mono ?_
    rintro e w' ⟨v, he, ho, hb⟩
    exact ⟨v, he, by rw [put1, hT]; exact ho.mono hN, hb⟩
  · refine (l2Put_has l x y a n cap w hO.len h1 hO.at hT).mono ?_
    rintro e w' ⟨he, hb⟩
    exact ⟨_, he, by rw [put1, hT]; exact hO.later hb, hb⟩
set_option maxHeartbeats 1000000 in
theorem l2From_c (l : List (Int × Int)) (a : Option Addr) (len cap : Nat) (w : World) (hl : l.length = len) (h1 : len ≤ 1048576) (hA : At w.heap.size a l w) :
    Calls Tryd.prog 53 #[.slice a len cap] w fun e w' => ∃ v, e = .returned v ∧ Own w.heap.size v (fromL l) w' ∧ Below w.heap.size w w' := by
  subst hl
  have HA := hid hA
  clear hA
  go_enter Tryd.func53, Tryd.ntmps53
  go_wp2
  go_loopw [3, 8] (fun v i wr => ∃ k : Nat, k ≤ l.length ∧ i = .int .i64 k ∧ Own w.heap.size v (fromL (l.take k)) wr ∧ Below w.heap.size w wr) (fun v i _ => l.length - (intOf i).toNat)
  case atStart => exact ⟨0, Nat.zero_le _, rfl, Own.nil _ _, Below.refl _ _⟩
  case round =>
    obtain ⟨k, hk, rfl, hO, hbw⟩ := hrel
    by_cases hkl : k < l.length
    · obtain ⟨b, off, rfl, hbN, g0, g1⟩ := HA.out k hkl
      have q0 := cell_later hbw g0
      have q1 := cell_later hbw g1
      have hsz := hbw.size
      have hbb : b < wr.heap.size := by omega
      clear g0 g1
      have hL := fromL_len l k hk
      have HS := hid (fromL_succ hkl)
      obtain ⟨av, cv, hv⟩ := hO.shape
      subst hv
      generalize fromL (l.take k) = L at hO hL HS ⊢
      have HO := hid hO
      clear hO
      go_wp2_with (go_at_call 82; refine (l2Put_own L _ _ w.heap.size _ _ _ _ ?_ ?_ (HO.out.later (by go_grown))).mono ?_; (omega); (go_size); rintro e w3 ⟨v3, rfl, ho3, hb3⟩)
      go_roundw
      case rel => exact ⟨k + 1, by omega, by go_num, by rw [HS.out]; exact ho3, grew hbw (grew (by go_grown) hb3)⟩
      case measure => simp [intOf]; omega
    · obtain rfl : k = l.length := by omega
      rw [List.take_length] at hO
      go_wp2
      go_ret
      exact ⟨_, rfl, hO, hbw⟩
theorem fromL_rises (l : List (Int × Int)) : ∀ k, k ≤ l.length → RisesTo (fromL (l.take k)) ((fromL (l.take k)).length - 1) := by
  intro k
  induction k with
  | zero => intro _; exact fun i hi => absurd hi (by simp [fromL])
  | succ k ih =>
    intro hk
    rw [fromL_succ (by omega)]
    unfold put1
    split
    · exact ih (by omega)
    · rename_i e
      exact put_rises (ih (by omega)) (by simpa using e)
set_option maxHeartbeats 1000000 in
theorem sortedFrom_c (l : List (Int × Int)) (a : Option Addr) (len cap : Nat) (w : World) (hl : l.length = len) (h1 : len ≤ 1048576) (hA : At w.heap.size a l w) :
    Calls Tryd.prog 56 #[.slice a len cap] w fun e w' => ∃ v, e = .returned v ∧ Own w.heap.size v (fromL l) w' ∧ Below w.heap.size w w' := by
  subst hl
  have HA := hid hA
  clear hA
  go_enter Tryd.func56, Tryd.ntmps56
  go_wp2
  go_loopw [3, 10] (fun v i wr => ∃ k : Nat, k ≤ l.length ∧ i = .int .i64 k ∧ Own w.heap.size v (fromL (l.take k)) wr ∧ Below w.heap.size w wr) (fun v i _ => l.length - (intOf i).toNat)
  case atStart => exact ⟨0, Nat.zero_le _, rfl, Own.nil _ _, Below.refl _ _⟩
  case round =>
    obtain ⟨k, hk, rfl, hO, hbw⟩ := hrel
    by_cases hkl : k < l.length
    · obtain ⟨b, off, rfl, hbN, g0, g1⟩ := HA.out k hkl
      have q0 := cell_later hbw g0
      have q1 := cell_later hbw g1
      have hsz := hbw.size
      have hbb : b < wr.heap.size := by omega
      clear g0 g1
      have hL := fromL_len l k hk
      have HS := hid (fromL_succ hkl)
      have HR := hid (fromL_rises l k hk)
      obtain ⟨av, cv, hv⟩ := hO.shape
      subst hv
      generalize fromL (l.take k) = L at hO hL HS HR ⊢
      have HO := hid hO
      clear hO
      have hLm : L.length ≤ 1048576 := by omega
      have HB := hid (box0 wr (px l k) (py l k) 26)
      have HC := hid (box1 wr (px l k) (py l k) 26)
      cases hT : hasB L (px l k) (py l k)
      · go_wp2_with (first
          | (go_at_call 87; refine (search_c L _ _ _ _ _ _ rfl hLm HR.out (HO.out.later (by go_grown)).at).mono ?_; rintro e w3 ⟨rfl, hb3⟩; have c0 := cell_later hb3 HB.out; have c1 := cell_later hb3 HC.out; have ho3 := (HO.out.later (by go_grown)).later hb3)
          | (go_at_call 88; refine (with_c L (plc L (px l k) (py l k)) _ _ _ _ _ w3 rfl hLm (plc_le _ _ _) ho3.fit ho3.at).mono ?_; rintro e w4 ⟨v4, rfl, ho4, hb4⟩))
        go_roundw
        case rel =>
          have hb03 : Below w.heap.size w w3 := grew hbw (grew (by go_grown) hb3)
          exact ⟨k + 1, by omega, by go_num, by rw [HS.out, put1, hT]; exact ho4.mono hb03.size, grew hb03 hb4⟩
        case measure => simp [intOf]; omega
      · go_wp2_with (go_at_call 87; refine (search_c L _ _ _ _ _ _ rfl hLm HR.out (HO.out.later (by go_grown)).at).mono ?_; rintro e w3 ⟨rfl, hb3⟩; have c0 := cell_later hb3 HB.out; have c1 := cell_later hb3 HC.out; have ho3 := (HO.out.later (by go_grown)).later hb3)
        go_roundw
        case rel =>
          have hb03 : Below w.heap.size w w3 := grew hbw (grew (by go_grown) hb3)
          exact ⟨k + 1, by omega, by go_num, by rw [HS.out, put1, hT]; exact ho3, hb03⟩
        case measure => simp [intOf]; omega
    · obtain rfl : k = l.length := by omega
      rw [List.take_length] at hO
      go_wp2
      go_ret
      exact ⟨_, rfl, hO, hbw⟩
end Go.Proofs.YtegmlemejmahiaaDoor
