/-
  Sets of points: what is put is there, what is dropped is not, four turns are none, and two sets are joined both ways alike (lists alone).
  Conditions: as each theorem states them.
-/
import Derived.Test.YtfhlgdngmdlakaaDoorSet21
import Derived.Test.YtfhlgdngmdlakaaDoorSet15
import Derived.Test.YtfhlgdngmdlakaaDoorSet18
namespace Go.Proofs.YtfhlgdngmdlakaaDoor
open Go.RowKit
set_option linter.unusedVariables false
theorem putR_len (l : List (Int × Int)) (x y : Int) : (putR l x y).length = l.length + 1 := by
  have := plc_le l x y
  rw [putR, List.length_append, List.length_take, List.length_cons, List.length_drop]; omega
theorem pxy_putR (l : List (Int × Int)) (x y : Int) (i : Nat) : (putR l x y).getD i (0, 0) = if i < plc l x y then l.getD i (0, 0) else if i = plc l x y then (x, y) else l.getD (i - 1) (0, 0) := pxy_put l _ x y (plc_le l x y) i
theorem px_putR_at (l : List (Int × Int)) (x y : Int) : px (putR l x y) (plc l x y) = x := by
  unfold px; rw [pxy_putR, if_neg (Nat.lt_irrefl _), if_pos rfl]
theorem py_putR_at (l : List (Int × Int)) (x y : Int) : py (putR l x y) (plc l x y) = y := by
  unfold py; rw [pxy_putR, if_neg (Nat.lt_irrefl _), if_pos rfl]
theorem plc_putR (l : List (Int × Int)) (x y : Int) : plc (putR l x y) x y = plc l x y := by
  have hk := plc_le l x y
  refine plc_is _ x y _ (by rw [putR_len]; omega) (fun i hi => ?_) (fun _ => ?_)
  · have := plc_below l x y i hi
    unfold px py at this ⊢
    rw [pxy_putR, if_pos hi]; exact this
  · rw [px_putR_at, py_putR_at]; exact less_irrefl x y
theorem has_putR (l : List (Int × Int)) (x y : Int) : hasB (putR l x y) x y = true := by
  have hk := plc_le l x y
  rw [hasB, plc_putR, px_putR_at, py_putR_at, decide_eq_true (by rw [putR_len]; omega), eqB, decide_eq_true ⟨rfl, rfl⟩]; rfl
theorem drop_putR (l : List (Int × Int)) (x y : Int) : dropR (putR l x y) (plc l x y) = l := by
  have hk := plc_le l x y
  have ht : (l.take (plc l x y)).length = plc l x y := by rw [List.length_take]; omega
  unfold dropR putR
  rw [List.take_append_of_le_length (by omega), List.take_of_length_le (by omega), List.drop_append, List.drop_eq_nil_of_le (by omega), List.nil_append, ht, show plc l x y + 1 - plc l x y = 1 by omega, List.drop_one, List.tail_cons, List.take_append_drop]
theorem good_putR {l : List (Int × Int)} {x y : Int} (h : putOk l x y = true) : goodL (putR l x y) = true := by
  rw [putOk, Bool.and_eq_true, Bool.and_eq_true, Bool.and_eq_true] at h
  obtain ⟨hG, hH, h60, hT⟩ := h
  have hT' : hasB l x y = false := by simpa using hT
  have h60' : ¬ l.length = 60 := by simpa using h60
  have hf := goodL_few hG
  have hr := put_rises (goodL_rises hG) hT'
  rw [goodL, decide_eq_true (by rw [putR_len]; omega), (rises_iff _).2 hr, (allGood_iff _).2 (fun i hi => ?_)]
  · rfl
  · rw [putR_len] at hi
    unfold px py
    rw [pxy_putR]
    by_cases h1 : i < plc l x y
    · rw [if_pos h1]; have := plc_le l x y; exact goodL_good hG i (by omega)
    · rw [if_neg h1]
      by_cases h2 : i = plc l x y
      · rw [if_pos h2]; exact hH
      · rw [if_neg h2]; exact goodL_good hG (i - 1) (by omega)
theorem put_there {l : List (Int × Int)} {x y : Int} (h : putOk l x y = true) : plcOk (putR l x y) x y = true := by
  rw [plcOk, good_putR h, has_putR]; rfl
theorem put_drop {l : List (Int × Int)} {x y : Int} (h : putOk l x y = true) : dropA (putR l x y) x y = l := by
  rw [dropA, put_there h, plc_putR]; exact drop_putR l x y
theorem good_mem {l : List (Int × Int)} : GoodTo l l.length ↔ ∀ p ∈ l, goodB p.1 p.2 = true := by
  constructor
  · intro h p hp
    obtain ⟨i, hi, rfl⟩ := List.getElem_of_mem hp
    have := h i hi
    rw [← pair_of hi]; exact this
  · intro h i hi
    have := h _ (List.getElem_mem hi)
    rw [← pair_of hi] at this; exact this
theorem good_from {l : List (Int × Int)} (hg : GoodTo l l.length) (h : (fromL l).length ≤ 60) : goodL (fromL l) = true := by
  have hr := fromL_rises l l.length (Nat.le_refl _)
  rw [List.take_length] at hr
  rw [goodL, decide_eq_true h, (rises_iff _).2 hr, (allGood_iff _).2 (good_mem.2 fun p hp => good_mem.1 hg p ((mem_fromL l p).1 hp))]
  rfl
theorem good_setA {l : List (Int × Int)} (h : setOk l = true) : goodL (setA l) = true := by
  rw [setA, h]
  rw [setOk, Bool.and_eq_true] at h
  have hl := fromL_len l l.length (Nat.le_refl _)
  rw [List.take_length] at hl
  have := of_decide_eq_true h.1
  exact good_from ((allGood_iff l).1 h.2) (by omega)
/-- A move back. -/
theorem move_back (l : List (Int × Int)) (x y : Int) : moveL (moveL l x y) (-x) (-y) = l := by
  unfold moveL
  rw [List.map_map]
  refine (List.map_congr_left fun p _ => ?_).trans (List.map_id l)
  exact Prod.ext (by simp; omega) (by simp; omega)
theorem mov_back {l : List (Int × Int)} {x y : Int} (h : movOk l x y = true) : movOk (moveL l x y) (-x) (-y) = true ∧ movR (moveL l x y) (-x) (-y) = l := by
  have h0 := h
  rw [movOk, Bool.and_eq_true, Bool.and_eq_true] at h
  obtain ⟨⟨hG, hH⟩, hM⟩ := h
  have hb := goodB_b hH
  have e : movOk (moveL l x y) (-x) (-y) = true := by
    rw [movOk, hM, move_back, hG, show goodB (-x) (-y) = true from decide_eq_true (by omega)]; rfl
  exact ⟨e, by rw [movR, e]; exact move_back l x y⟩
/-- Turns. -/
theorem mem_turn (l : List (Int × Int)) (r : Int × Int) : r ∈ turnL l ↔ (r.2, -r.1) ∈ l := by
  unfold turnL
  rw [List.mem_map]
  constructor
  · rintro ⟨p, hp, rfl⟩; simpa using hp
  · intro h; exact ⟨_, h, by simp⟩
theorem has_mem {l : List (Int × Int)} (hr : RisesTo l (l.length - 1)) (p : Int × Int) : hasB l p.1 p.2 = true ↔ p ∈ l := by
  constructor
  · intro h
    have := (mem_put1 l p.1 p.2 p).2 (.inr rfl)
    rwa [put1, h] at this
  · intro hp
    cases h : hasB l p.1 p.2
    · exfalso
      have hpw := rises_pair (put_rises hr h)
      rw [putR, List.pairwise_append] at hpw
      rw [← List.take_append_drop (plc l p.1 p.2) l, List.mem_append] at hp
      rcases hp with hp | hp
      · exact ltP_irrefl (hpw.2.2 _ hp _ (by simp))
      · exact ltP_irrefl ((List.pairwise_cons.1 hpw.2.1).1 _ hp)
    · rfl
theorem fold_len : ∀ (l s : List (Int × Int)), RisesTo s (s.length - 1) → l.Nodup → (∀ p ∈ l, p ∉ s) → (l.foldl (fun s p => put1 s p.1 p.2) s).length = s.length + l.length := by
  intro l
  induction l with
  | nil => intro s _ _ _; simp
  | cons p l ih =>
    intro s hs hn hd
    have hp : hasB s p.1 p.2 = false := by
      cases h : hasB s p.1 p.2
      · rfl
      · exact absurd ((has_mem hs p).1 h) (hd p (by simp))
    have e : put1 s p.1 p.2 = putR s p.1 p.2 := by rw [put1, hp]; rfl
    have hn' := List.nodup_cons.1 hn
    rw [List.foldl_cons, e, ih _ (put_rises hs hp) hn'.2 (fun q hq hqs => ?_), putR_len, List.length_cons]
    · omega
    · rw [← e] at hqs
      rcases (mem_put1 s p.1 p.2 q).1 hqs with h | h
      · exact hd q (by simp [hq]) h
      · subst h; exact hn'.1 hq
theorem from_len {l : List (Int × Int)} (h : l.Nodup) : (fromL l).length = l.length := by
  have := fold_len l [] (fun i hi => absurd hi (by simp)) h (by simp)
  simpa [fromL] using this
theorem rises_nodup {l : List (Int × Int)} (h : RisesTo l (l.length - 1)) : l.Nodup := by
  refine (rises_pair h).imp fun {a b} hab e => ?_
  subst e; exact ltP_irrefl hab
theorem turn_nodup {l : List (Int × Int)} (h : l.Nodup) : (turnL l).Nodup := by
  unfold turnL
  unfold List.Nodup
  rw [List.pairwise_map]
  refine List.Pairwise.imp ?_ h
  intro a b hab e
  simp at e
  exact hab (Prod.ext e.2 e.1)
/-- One turn of a good set: a good set of as many points. -/
theorem turn_one {l : List (Int × Int)} (h : goodL l = true) : goodL (fromL (turnL l)) = true ∧ (fromL (turnL l)).length = l.length := by
  have hlen : (fromL (turnL l)).length = l.length := by rw [from_len (turn_nodup (rises_nodup (goodL_rises h))), turnL_len]
  refine ⟨good_from (good_mem.2 fun p hp => ?_) (by rw [hlen]; exact goodL_few h), hlen⟩
  have := goodB_b (good_mem.1 (goodL_good h) _ ((mem_turn l p).1 hp))
  exact decide_eq_true (by simp only at this; omega)
def turn1 (l : List (Int × Int)) : List (Int × Int) := fromL (turnL l)
theorem mem_turn1 (l : List (Int × Int)) (r : Int × Int) : r ∈ turn1 l ↔ (r.2, -r.1) ∈ l := by rw [turn1, mem_fromL, mem_turn]
theorem turn_four {l : List (Int × Int)} (h : goodL l = true) : turn1 (turn1 (turn1 (turn1 l))) = l := by
  have hr := fromL_rises (turnL (turn1 (turn1 (turn1 l)))) _ (Nat.le_refl _)
  rw [List.take_length] at hr
  refine same_sets _ _ (rises_pair hr) (rises_pair (goodL_rises h)) fun r => ?_
  rw [mem_turn1, mem_turn1, mem_turn1, mem_turn1]
  simp
theorem join_comm (l m : List (Int × Int)) : fromL (l ++ m) = fromL (m ++ l) := by
  have h1 := fromL_rises (l ++ m) _ (Nat.le_refl _)
  have h2 := fromL_rises (m ++ l) _ (Nat.le_refl _)
  rw [List.take_length] at h1 h2
  refine same_sets _ _ (rises_pair h1) (rises_pair h2) fun r => ?_
  rw [mem_fromL, mem_fromL, List.mem_append, List.mem_append]
  exact Or.comm
theorem joinOk_comm (l m : List (Int × Int)) : joinOk m l = joinOk l m := by
  rw [joinOk, joinOk, join_comm m l]
  cases goodL l <;> cases goodL m <;> simp
theorem joinA_comm (l m : List (Int × Int)) : joinA m l = joinA l m := by
  rw [joinA, joinA, joinOk_comm l m, join_comm m l]
end Go.Proofs.YtfhlgdngmdlakaaDoor
