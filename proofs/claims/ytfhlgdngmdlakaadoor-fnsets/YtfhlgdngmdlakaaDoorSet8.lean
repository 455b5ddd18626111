/-
  Lists that grow, and what MoveSet answers, in the specification and in the program (contracts for the walks).
  Conditions: as each theorem states them.
-/
import Derived.Test.YtfhlgdngmdlakaaDoorSet7
import Derived.Test.YtfhlgdngmdlakaaDoorSet6
import Derived.Laws.OwnMore
import Derived.Laws.AppendOwnNone
namespace Go.Proofs.YtfhlgdngmdlakaaDoor
open Go.RowKit
set_option linter.unusedVariables false
/-- The cells of a list of points, in a row. -/
def cells (l : List (Int × Int)) : List Value := l.flatMap fun p => [.int .i64 p.1, .int .i64 p.2]
theorem cells_append (l m : List (Int × Int)) : cells (l ++ m) = cells l ++ cells m := by simp [cells]
theorem cells_one (p : Int × Int) : cells [p] = [.int .i64 p.1, .int .i64 p.2] := rfl
theorem cells_len (l : List (Int × Int)) : (cells l).length = l.length * 2 := by
  induction l with
  | nil => rfl
  | cons p l ih =>
    have : cells (p :: l) = .int .i64 p.1 :: .int .i64 p.2 :: cells l := rfl
    rw [this]; simp [ih]; omega
theorem cells_get (l : List (Int × Int)) : ∀ j, j < l.length * 2 → (cells l)[j]? = some (cel l j) := by
  induction l with
  | nil => intro j hj; simp at hj
  | cons p l ih =>
    intro j hj
    have e : cells (p :: l) = .int .i64 p.1 :: .int .i64 p.2 :: cells l := rfl
    rw [e]
    match j, hj with
    | 0, _ => simp [cel, px]
    | 1, _ => simp [cel, py]
    | j + 2, hj =>
      have h := ih j (by simp at hj; omega)
      simp only [List.getElem?_cons_succ]
      rw [h]
      congr 1
      unfold cel
      rw [show (j + 2) % 2 = j % 2 by omega, show (j + 2) / 2 = j / 2 + 1 by omega]
      simp [px, py]
theorem cells_ones (l : List (Int × Int)) : ∀ u ∈ cells l, u.oneCell' = true := by
  intro u hu
  simp only [cells, List.mem_flatMap] at hu
  obtain ⟨p, _, hp⟩ := hu
  simp at hp
  rcases hp with rfl | rfl <;> rfl
theorem own_of {N : Nat} {v : Value} {l : List (Int × Int)} {w : World} {n : Nat} (h : w.ownsRow N 26 2 v n (cells l)) : Own N v l w := by
  obtain ⟨hlen, h⟩ := h
  rw [cells_len] at hlen
  have hn : n = l.length := by omega
  subst hn
  rcases h with ⟨rfl, h0⟩ | ⟨g, cap, cur, rfl, h1, h2, h3, h4, h5, h6⟩
  · exact .inl ⟨List.eq_nil_of_length_eq_zero h0, rfl⟩
  · refine .inr ⟨g, cap, fun i => (cur[i]?).getD undef, rfl, h1, h3, h4, ⟨cur, h2, h5, fun i hi => ?_⟩, fun i hi => ?_⟩
    · show cur[i]? = some ((cur[i]?).getD undef)
      rw [Array.getElem?_eq_getElem (by omega)]; rfl
    · have h := cells_get l i hi
      rw [← h6, List.getElem?_take, if_pos hi, Array.getElem?_toList] at h
      show (cur[i]?).getD undef = cel l i
      rw [h]; rfl
theorem row_of {N : Nat} {v : Value} {l : List (Int × Int)} {w : World} (h : Own N v l w) : w.ownsRow N 26 2 v l.length (cells l) := by
  refine ⟨cells_len l, ?_⟩
  rcases h with ⟨rfl, e⟩ | ⟨g, cap, f, e, h1, h2, h3, ⟨cc, k1, k2, k3⟩, h5⟩
  · exact .inl ⟨e, rfl⟩
  · refine .inr ⟨g, cap, cc, e, h1, k1, h2, h3, k2, ?_⟩
    refine List.ext_getElem? fun i => ?_
    by_cases hi : i < l.length * 2
    · rw [List.getElem?_take, if_pos hi, Array.getElem?_toList, k3 i (by omega), h5 i hi, cells_get l i hi]
    · rw [List.getElem?_eq_none (by simp; omega), List.getElem?_eq_none (by rw [cells_len]; omega)]
theorem Cop.later {l : List (Int × Int)} {k : Nat} {w wr u : World} (h : Cop l k w wr) (hb : Below wr.heap.size wr u) : Cop l k w u := ⟨grew h.below hb, rowIs_later h.row hb h.row.lt⟩
theorem Cop.own {l : List (Int × Int)} {w wr : World} (h : Cop l l.length w wr) (hm : l.length ≤ 1048576) : Own w.heap.size (.slice (some ⟨w.heap.size, 0, none⟩) l.length l.length) l wr :=
  .inr ⟨w.heap.size, l.length, _, rfl, Nat.le_refl _, Nat.le_refl _, by unfold maxLen; omega, h.row, fun i hi => by rw [if_pos hi]⟩
theorem grown_own {w wr u w' : World} {v : Value} {n : Nat} {xs : List Value} (h : Below w.heap.size w wr) (hb : Below wr.heap.size wr u) (hg : u.grownBy w' v.ownBlock) (ho : wr.ownsRow w.heap.size 26 2 v n xs) : Below w.heap.size w w' :=
  (grew h hb).grown hg (Nat.le_trans h.size hb.size) (fun k hk => (ho.lt k hk).1)
/-- Every point moved. -/
def moveL (l : List (Int × Int)) (x y : Int) : List (Int × Int) := l.map fun p => (p.1 + x, p.2 + y)
theorem moveL_len (l : List (Int × Int)) (x y : Int) : (moveL l x y).length = l.length := by simp [moveL]
theorem px_move {l : List (Int × Int)} {k : Nat} (x y : Int) (h : k < l.length) : px (moveL l x y) k = px l k + x := by simp [px, moveL, h]
theorem py_move {l : List (Int × Int)} {k : Nat} (x y : Int) (h : k < l.length) : py (moveL l x y) k = py l k + y := by simp [py, moveL, h]
def movOk (l : List (Int × Int)) (x y : Int) : Bool := goodL l && goodB x y && goodL (moveL l x y)
def movR (l : List (Int × Int)) (x y : Int) : List (Int × Int) := if movOk l x y then moveL l x y else []
theorem move_rises {l : List (Int × Int)} (x y : Int) (h : RisesTo l (l.length - 1)) : RisesTo (moveL l x y) ((moveL l x y).length - 1) := fun i hi => by
  rw [moveL_len] at hi
  have := of_decide_eq_true (h i hi)
  rw [px_move x y (by omega), py_move x y (by omega), px_move x y (by omega), py_move x y (by omega)]
  exact decide_eq_true (by omega)
theorem move_good {l : List (Int × Int)} {x y : Int} (h : goodL l = true) : goodL (moveL l x y) = allGood (moveL l x y) := by
  rw [goodL, (rises_iff _).2 (move_rises x y (goodL_rises h)), decide_eq_true (by rw [moveL_len]; exact goodL_few h)]; simp
theorem moveL_take {l : List (Int × Int)} {k : Nat} (x y : Int) (h : k < l.length) : moveL (l.take (k + 1)) x y = moveL (l.take k) x y ++ [(px l k + x, py l k + y)] := by
  unfold moveL
  rw [List.take_succ_eq_append_getElem h, List.map_append]
  simp [px, py, h]
theorem goodB_b {x y : Int} (h : goodB x y = true) : (-1000000 ≤ x ∧ x ≤ 1000000) ∧ (-1000000 ≤ y ∧ y ≤ 1000000) := by have := of_decide_eq_true h; omega
set_option maxHeartbeats 1000000 in
theorem moveSpec_c (l : List (Int × Int)) (x y : Int) (a : Option Addr) (len cap : Nat) (w : World) (hl : l.length = len) (h1 : len ≤ 1048576) (hA : At w.heap.size a l w) :
    Calls Tryd.prog 23 #[.slice a len cap, .agg #[.int .i64 x, .int .i64 y]] w fun e w' => ∃ v, e = .returned (.tuple #[v, .bool (movOk l x y)]) ∧ Own w.heap.size v (movR l x y) w' ∧ Below w.heap.size w w' := by
  subst hl
  have HA := hid hA
  clear hA
  have B0 := box0 w x y 26
  have B1 := box1 w x y 26
  cases hG : goodL l
  · have e1 : movOk l x y = false := by rw [movOk, hG]; rfl
    have e2 : movR l x y = [] := by rw [movR, e1]; rfl
    rw [e1, e2]
    clear e1 e2
    go_enter Tryd.func23, Tryd.ntmps23
    go_wp2_with (go_at_call 36; refine (l2Good_c l _ _ _ _ rfl h1 ((HA.out.later (by go_grown)).mono (by go_size))).mono ?_; rintro e w1 ⟨rfl, hb1⟩)
    go_ret2
    exact ⟨_, rfl, Own.nil _ _, grew (by go_grown) hb1⟩
  · cases hH : goodB x y
    · have e1 : movOk l x y = false := by rw [movOk, hG, hH]; rfl
      have e2 : movR l x y = [] := by rw [movR, e1]; rfl
      rw [e1, e2]
      clear e1 e2
      go_enter Tryd.func23, Tryd.ntmps23
      go_wp2_with (first | (go_at_call 36; refine (l2Good_c l _ _ _ _ rfl h1 ((HA.out.later (by go_grown)).mono (by go_size))).mono ?_; rintro e w1 ⟨rfl, hb1⟩; have hbw : Below w.heap.size w w1 := grew (by go_grown) hb1; have r0 := cell_later hb1 B0; have r1 := cell_later hb1 B1) | (go_at_call 37; refine (goodSpec_e _ _ _).mono ?_; rintro e w2 ⟨rfl, hb2⟩))
      go_ret2
      exact ⟨_, rfl, Own.nil _ _, grew hbw hb2⟩
    · have hgood := hid (goodL_good hG)
      have hfew := goodL_few hG
      have hxy := goodB_b hH
      obtain ⟨i0, hi, hz0, hz1, hz2⟩ := info_parts info_pt
      go_enter Tryd.func23, Tryd.ntmps23
      go_wp2_with (first | (go_at_call 36; refine (l2Good_c l _ _ _ _ rfl h1 ((HA.out.later (by go_grown)).mono (by go_size))).mono ?_; rintro e w1 ⟨rfl, hb1⟩; have hbw : Below w.heap.size w w1 := grew (by go_grown) hb1; have r0 := cell_later hb1 B0; have r1 := cell_later hb1 B1) | (go_at_call 37; refine (goodSpec_e _ _ _).mono ?_; rintro e w2 ⟨rfl, hb2⟩; have hbw2 := grew hbw hb2; have s0 := cell_later hb2 r0; have s1 := cell_later hb2 r1))
      go_loopw [6, 19] (fun v i wr => ∃ k : Nat, k ≤ l.length ∧ i = .int .i64 k ∧ wr.ownsRow w2.heap.size 26 2 v k (cells (moveL (l.take k) x y)) ∧ Below w2.heap.size w2 wr) (fun v i _ => l.length - (intOf i).toNat)
      case atStart => exact ⟨0, Nat.zero_le _, rfl, World.ownsRow_nil _ _ _ _, Below.refl _ _⟩
      case round =>
        obtain ⟨k, hk, rfl, hown, hbr⟩ := hrel
        have hbA := grew hbw2 hbr
        have t0 := cell_later hbr s0
        have t1 := cell_later hbr s1
        have hsz := hbA.size
        have hsz2 := hbr.size
        have hwb : w.heap.size < wr.heap.size := World.block_lt_of_cell? wr _ t0
        by_cases hkl : k < l.length
        · obtain ⟨b, off, rfl, hbN, g0, g1⟩ := HA.out k hkl
          have q0 := cell_later hbA g0
          have q1 := cell_later hbA g1
          clear g0 g1
          have hbb : b < wr.heap.size := by omega
          have hgk := goodB_b (hgood.out k hkl)
          go_wp2_with (at_builtin; refine wpList_append_own _ rfl _ _ 24 rfl w2.heap.size 26 i0 _ 2 16 Tryd.underlying24 hi hz0 hz1 hz2 rfl (by decide) _ _ _ rfl ((hown.alloc _).alloc _) ⟨wr.heap.size + 1, 0, none⟩ 1 1 [.int .i64 (px l k + x), .int .i64 (py l k + y)] rfl rfl ?c1 ?c2 ?c3 ?c4 ?c5 ?_)
          case c1 =>
            intro j u hj
            match j, hj with
            | 0, hj => simp at hj; subst hj; simp [Addr.add, go_sem]
            | 1, hj => simp at hj; subst hj; simp [Addr.add, go_sem]
          case c2 => intro u hu; simp at hu; rcases hu with rfl | rfl <;> rfl
          case c3 => unfold maxLen; omega
          case c4 => omega
          case c5 => simp; omega
          · intro v' w4 hown' hgrow _
            have hR : w4.ownsRow w2.heap.size 26 2 v' (k + 1) (cells (moveL (l.take (k + 1)) x y)) := by
              rw [moveL_take x y hkl, cells_append, cells_one]; exact hown'
            have hB4 : Below w2.heap.size w2 w4 := grown_own hbr (by go_grown) hgrow hown
            clear hown' hgrow hown
            go_wp2
            go_roundw
            case rel => exact ⟨k + 1, by omega, by go_num, hR, hB4⟩
            case measure => simp [intOf]; omega
        · obtain rfl : k = l.length := by omega
          rw [List.take_length] at hown
          have hO := own_of hown
          obtain ⟨av, cv, hv⟩ := hO.shape
          rw [moveL_len] at hv
          subst hv
          have HO := hid hO
          clear hO hown
          cases hM : goodL (moveL l x y)
          · have e1 : movOk l x y = false := by rw [movOk, hG, hH, hM]; rfl
            have e2 : movR l x y = [] := by rw [movR, e1]; rfl
            have E1 := hid e1
            have E2 := hid e2
            clear e1 e2
            go_wp2_with (go_at_call 36; refine (l2Good_c (moveL l x y) _ _ _ _ (moveL_len l x y) h1 HO.out.at).mono ?_; rintro e w5 ⟨rfl, hb5⟩)
            go_ret2
            rw [E1.out, E2.out]
            exact ⟨_, rfl, Own.nil _ _, grew hbA hb5⟩
          · have e1 : movOk l x y = true := by rw [movOk, hG, hH, hM]; rfl
            have e2 : movR l x y = moveL l x y := by rw [movR, e1]; rfl
            have E1 := hid e1
            have E2 := hid e2
            clear e1 e2
            go_wp2_with (go_at_call 36; refine (l2Good_c (moveL l x y) _ _ _ _ (moveL_len l x y) h1 HO.out.at).mono ?_; rintro e w5 ⟨rfl, hb5⟩)
            go_ret2
            rw [E1.out, E2.out]
            exact ⟨_, rfl, (HO.out.later hb5).mono hbw2.size, grew hbA hb5⟩
end Go.Proofs.YtfhlgdngmdlakaaDoor
