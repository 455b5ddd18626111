/-
  Wrapped, by halves, or from left to right, the hull is the same, and it is its own (no walk in it).
  Conditions: as each theorem states them.
-/
import Derived.Test.YtipiamhnngmjmaaDoorHRing
namespace Go.Proofs.YtipiamhnngmjmaaDoor
set_option linter.unusedVariables false
set_option maxRecDepth 8000
theorem Ahead.ne {d : Int × Int} {c : List (Int × Int)} (h : Ahead d c) {i j : Nat} (hij : i < j) (hj : j < c.length) : pt c i ≠ pt c j := fun e => by
  have := (h i j hij hj).ne
  rw [e] at this
  exact this (by unfold vec; simp)
theorem take_pt {c : List (Int × Int)} {i k : Nat} (h : i + k < c.length) : (c.drop (i + 1)).take (k + 1) = (c.drop (i + 1)).take k ++ (if i + 1 + k < c.length then [pt c (i + 1 + k)] else []) := by
  by_cases hk : i + 1 + k < c.length
  · rw [if_pos hk, List.take_succ_eq_append_getElem (by rw [List.length_drop]; omega), List.getElem_drop, pt_get hk]
  · rw [if_neg hk, List.append_nil, List.take_of_length_le (by rw [List.length_drop]; omega), List.take_of_length_le (by rw [List.length_drop]; omega)]
/-- Round along a chain. -/
theorem Round.along {s c : List (Int × Int)} {f : Int × Int} {d : Int × Int} {l : List (Int × Int)} (hC : Conv d l c) (hA : Ahead d l) (hl : 1 ≤ l.length) (hm : ∀ q, q ∈ s ↔ q ∈ l) {i : Nat} {r : List (Int × Int)} (h : Round s f r (pt c i)) : ∀ k, i + k < c.length → (∀ j, i < j → j ≤ i + k → pt c j ≠ f) → Round s f (r ++ (c.drop (i + 1)).take k) (pt c (i + k)) := by
  intro k
  induction k with
  | zero => intro _ _; simpa using h
  | succ k ih =>
    intro hk hf
    have i1 := ih (by omega) (fun j h1 h2 => hf j h1 (by omega))
    have hE := i1.went.ext _ i1.went.last
    have hn : nx s (pt c (i + k)) = pt c (i + k + 1) := by
      refine nx_unique hE ((hm _).2 (hC.sub _ (pt_mem (by omega)))) (fun e => hC.ahead.ne (i := i + k) (j := i + k + 1) (by omega) (by omega) e.symm) fun q hq _ => ?_
      exact hC.dom hA hl (by omega) ((hm q).1 hq)
    have st := i1.step (by rw [hn]; exact hf _ (by omega) (by omega))
    rw [hn] at st
    rw [take_pt (by omega), if_pos (by omega), ← List.append_assoc, show i + 1 + k = i + k + 1 by omega]
    exact st
theorem dropLast_pt {c : List (Int × Int)} (h : 1 ≤ c.length) : c = c.dropLast ++ [pt c (c.length - 1)] := by
  have hne : c ≠ [] := by intro e; subst e; simp at h
  rw [pt_get (by omega)]
  conv => lhs; rw [← List.dropLast_concat_getLast hne]
  rw [List.getLast_eq_getElem]
theorem head_drop {c : List (Int × Int)} (h : 1 ≤ c.length) : c = pt c 0 :: c.drop 1 := by
  match c, h with
  | p :: t, _ => rfl
theorem rev_mem {s : List (Int × Int)} : ∀ q, q ∈ s ↔ q ∈ s.reverse := fun q => by simp
/-- Wrapped, the hull is the one that is built from left to right. -/
theorem wrap_hull {s : List (Int × Int)} (h : Rise s) : wrapR s = hullB tP s := by
  by_cases h2 : s.length < 2
  · rw [wrapR_short h2]; unfold hullB; rw [if_pos h2]
  · match s, h, h2 with
    | f :: t, h, h2 =>
      obtain ⟨s, hs⟩ : ∃ s, f :: t = s := ⟨_, rfl⟩
      have hring := wrapR_ring h
      have hst := Round.start (s := f :: t) (f := f) (by simp) h.ext
      have hp0 : pt (f :: t) 0 = f := rfl
      rw [hs] at hring hst hp0 h h2 ⊢
      have hlen : 2 ≤ s.length := by omega
      have cl := chain_conv (s.length - 1) s (by omega) (ahead_rises h)
      have cu := chain_conv (s.length - 1) s.reverse (by rw [List.length_reverse]; omega) (ahead_back h)
      have l2 := chainB_two (t := tP) hlen
      have u2 := chainB_two (t := tP) (l := s.reverse) (by rw [List.length_reverse]; exact hlen)
      unfold hullB
      rw [if_neg h2]
      obtain ⟨lo, hlo⟩ : ∃ lo, chainB tP s = lo := ⟨_, rfl⟩
      obtain ⟨up, hup⟩ : ∃ up, chainB tP s.reverse = up := ⟨_, rfl⟩
      rw [hlo] at cl l2 ⊢
      rw [hup] at cu u2 ⊢
      have lo0 : pt lo 0 = f := by rw [cl.head, hp0]
      have upl : pt up (up.length - 1) = f := by rw [cu.last, List.length_reverse, pt_rev (by omega), show s.length - 1 - (s.length - 1) = 0 by omega, hp0]
      have mid : pt lo (lo.length - 1) = pt up 0 := by rw [cl.last, cu.head, pt_rev (by omega)]; rfl
      have r1 : Round s f [f] (pt lo 0) := by rw [lo0]; exact hst
      have r2 := r1.along cl (ahead_rises h) (by omega) (fun _ => Iff.rfl) (lo.length - 1) (by omega) (fun j h1 h2 e => cl.ahead.ne (i := 0) (j := j) (by omega) (by omega) (lo0.trans e.symm))
      have e2 : [f] ++ (lo.drop (0 + 1)).take (lo.length - 1) = lo := by
        rw [List.take_of_length_le (by rw [List.length_drop]; omega)]
        conv => rhs; rw [head_drop (c := lo) (by omega), lo0]
        rfl
      rw [e2, Nat.zero_add, mid] at r2
      have r3 := r2.along cu (ahead_back h) (by rw [List.length_reverse]; omega) rev_mem (up.length - 2) (by omega) (fun j h1 h2 e => cu.ahead.ne (i := j) (j := up.length - 1) (by omega) (by omega) (e.trans upl.symm))
      have e3 : lo ++ (up.drop (0 + 1)).take (up.length - 2) = lo.dropLast ++ up.dropLast := by
        conv => lhs; rw [dropLast_pt (c := lo) (by omega), mid]
        rw [List.append_assoc]
        congr 1
        have : up.dropLast = pt up 0 :: (up.drop 1).take (up.length - 2) := by
          rw [List.dropLast_eq_take]
          conv => lhs; rw [head_drop (c := up) (by omega)]
          rw [show (pt up 0 :: up.drop 1).length - 1 = (up.length - 2) + 1 by simp; omega, List.take_succ_cons]
        rw [this]
        rfl
      rw [e3] at r3
      have hE := r3.went.ext _ r3.went.last
      have hnx : nx s (pt up (0 + (up.length - 2))) = f := by
        have hb : pt up (0 + (up.length - 2) + 1) = f := by rw [show 0 + (up.length - 2) + 1 = up.length - 1 by omega]; exact upl
        rw [← hb]
        refine nx_unique hE ((rev_mem _).2 (cu.sub _ (pt_mem (by omega)))) (fun e => cu.ahead.ne (i := 0 + (up.length - 2)) (j := 0 + (up.length - 2) + 1) (by omega) (by omega) e.symm) fun q hq _ => ?_
        exact cu.dom (ahead_back h) (by rw [List.length_reverse]; omega) (by omega) ((rev_mem q).1 hq)
      obtain ⟨z, hz, hzf⟩ := hring
      have key : ∀ (m : Nat) (r r' : List (Int × Int)) (a a' : Int × Int), Round s f r a → Round s f r' a' → nx s a = f → nx s a' = f → r.length ≤ m → r = r' := by
        intro m r r' a a' h1 h2 n1 n2 _
        have st : ∀ i, i < r.length → i < r'.length → pt r i = pt r' i := by
          intro i
          induction i with
          | zero => intro _ _; rw [h1.head, h2.head]
          | succ i ih =>
            intro i1 i2
            rw [← h1.chain i i1, ← h2.chain i i2, ih (by omega) (by omega)]
        have hd : ∀ (r : List (Int × Int)) (a : Int × Int), Round s f r a → ∀ i, i + 1 < r.length → nx s (pt r i) ≠ f := by
          intro r a hr i hi e
          rw [hr.chain i hi, ← hr.head, pt_get hi, pt_get (by omega)] at e
          have := (List.getElem_inj hr.went.nodup).1 e
          omega
        have hlen : r.length = r'.length := by
          have o1 := h1.one
          have o2 := h2.one
          rcases Nat.lt_trichotomy r.length r'.length with e | e | e
          · exfalso
            refine hd r' a' h2 (r.length - 1) (by omega) ?_
            rw [← st _ (by omega) (by omega), h1.last]; exact n1
          · exact e
          · exfalso
            refine hd r a h1 (r'.length - 1) (by omega) ?_
            rw [st _ (by omega) (by omega), h2.last]; exact n2
        refine List.ext_getElem hlen fun i i1 i2 => ?_
        rw [← pt_get i1, ← pt_get i2]
        exact st i i1 i2
      exact key _ _ _ _ _ hz r3 hzf hnx (Nat.le_refl _)
/-- No vector between two others, in one half plane, is on the other side in another one. -/
theorem between_no {e d u v w : Int × Int} (hu : Pos e u) (hv : Pos e v) (hw : Pos e w) (h1 : 0 < cx u v) (h2 : 0 < cx v w) (hdd : d ≠ (0, 0)) (h : (0 ≤ cx d v ∧ cx d u ≤ 0 ∧ cx d w ≤ 0) ∨ (cx d v ≤ 0 ∧ 0 ≤ cx d u ∧ 0 ≤ cx d w)) : False := by
  have h3 := tri_l hu hv hw h1 (Int.le_of_lt h2)
  have p := plucker d u v w
  have hd := dd_pos hdd
  have hz : cx d u = 0 ∧ cx d w = 0 := by
    rcases h with ⟨a1, a2, a3⟩ | ⟨a1, a2, a3⟩
    · have m1 := Int.mul_nonneg (Int.le_of_lt h3) a1
      have m2 := Int.mul_nonneg (Int.le_of_lt h1) (show 0 ≤ - cx d w by omega)
      have m3 := Int.mul_nonneg (Int.le_of_lt h2) (show 0 ≤ - cx d u by omega)
      rw [Int.mul_neg] at m2 m3
      have z1 : cx u v * cx d w = 0 := by omega
      have z2 : cx v w * cx d u = 0 := by omega
      exact ⟨(Int.mul_eq_zero.1 z2).resolve_left (by omega), (Int.mul_eq_zero.1 z1).resolve_left (by omega)⟩
    · have m1 := Int.mul_nonneg (Int.le_of_lt h3) (show 0 ≤ - cx d v by omega)
      have m2 := Int.mul_nonneg (Int.le_of_lt h1) a3
      have m3 := Int.mul_nonneg (Int.le_of_lt h2) a2
      rw [Int.mul_neg] at m1
      have z1 : cx u v * cx d w = 0 := by omega
      have z2 : cx v w * cx d u = 0 := by omega
      exact ⟨(Int.mul_eq_zero.1 z2).resolve_left (by omega), (Int.mul_eq_zero.1 z1).resolve_left (by omega)⟩
  have r := ray d u w hz.2
  rw [cx_anti d u, hz.1, Int.neg_zero, Int.mul_zero] at r
  have := Int.mul_pos h3 hd
  omega
theorem vec_cx_neg (d a b : Int × Int) : cx d (vec b a) = - cx d (vec a b) := by unfold cx vec; grind
/-- Between which two of a chain a point is that is not in it. -/
theorem Conv.between {d : Int × Int} {l c : List (Int × Int)} (h : Conv d l c) (hA : Ahead d l) (hl : 1 ≤ l.length) {q : Int × Int} (hq : q ∈ l) (hn : q ∉ c) : ∃ i, i + 1 < c.length ∧ Pos d (vec (pt c i) q) ∧ Pos d (vec q (pt c (i + 1))) := by
  have hc := h.some
  have ne : ∀ i, i < c.length → pt c i ≠ q := fun i hi e => hn (e ▸ pt_mem hi)
  have fst : Pos d (vec (pt c 0) q) := by
    obtain ⟨j, hj, rfl⟩ := mem_pt hq
    rw [h.head]
    by_cases e : j = 0
    · exact absurd (by rw [h.head, e]) (ne 0 (by omega))
    · exact hA 0 j (by omega) hj
  have lst : Pos d (vec q (pt c (c.length - 1))) := by
    obtain ⟨j, hj, rfl⟩ := mem_pt hq
    rw [h.last]
    by_cases e : j = l.length - 1
    · exact absurd (by rw [h.last, e]) (ne (c.length - 1) (by omega))
    · exact hA j (l.length - 1) (by omega) (by omega)
  have go : ∀ k, k < c.length → Pos d (vec (pt c (c.length - 1 - k)) q) ∨ Pos d (vec q (pt c (c.length - 1 - k))) := fun k hk => by
    rcases hA.tri (h.sub _ (pt_mem (i := c.length - 1 - k) (by omega))) hq with e | e | e
    · exact absurd e (ne _ (by omega))
    · exact .inl e
    · exact .inr e
  have find : ∀ k, k < c.length → Pos d (vec q (pt c k)) → ∃ i, i + 1 < c.length ∧ Pos d (vec (pt c i) q) ∧ Pos d (vec q (pt c (i + 1))) := by
    intro k
    induction k with
    | zero => intro _ hp; exact (fst.not hp).elim
    | succ k ih =>
      intro hk hp
      rcases hA.tri (h.sub _ (pt_mem (i := k) (by omega))) hq with e | e | e
      · exact absurd e (ne _ (by omega))
      · exact ⟨k, hk, e, hp⟩
      · exact ih (by omega) e
  exact find _ (by omega) lst
theorem same_no {e d u v : Int × Int} (hu : Pos e u) (hv : Pos e v) (h : cx u v = 0) (h1 : Pos d u) (h2 : Pos d (-v.1, -v.2)) : False := by
  have s1 := same_ray hu hv h
  have c2 : cx u (-v.1, -v.2) = 0 := by
    have : cx u (-v.1, -v.2) = - cx u v := by unfold cx; grind
    omega
  have s2 := same_ray h1 h2 c2
  have : dt u (-v.1, -v.2) = - dt u v := by unfold dt; grind
  omega
/-- A point with all others within a half plane is a corner. -/
theorem ext_hull {s : List (Int × Int)} (h : Rise s) {p : Int × Int} (hp : p ∈ s) (hE : Ext s p) : p ∈ hullB tP s := by
  by_cases h2 : s.length < 2
  · unfold hullB; rw [if_pos h2]; exact hp
  · have hlen : 2 ≤ s.length := by omega
    have cl := chain_conv (s.length - 1) s (by omega) (ahead_rises h)
    have cu := chain_conv (s.length - 1) s.reverse (by rw [List.length_reverse]; omega) (ahead_back h)
    have l2 := chainB_two (t := tP) hlen
    have u2 := chainB_two (t := tP) (l := s.reverse) (by rw [List.length_reverse]; exact hlen)
    unfold hullB
    rw [if_neg h2]
    obtain ⟨lo, hlo⟩ : ∃ lo, chainB tP s = lo := ⟨_, rfl⟩
    obtain ⟨up, hup⟩ : ∃ up, chainB tP s.reverse = up := ⟨_, rfl⟩
    rw [hlo] at cl l2 ⊢
    rw [hup] at cu u2 ⊢
    have mid : pt lo (lo.length - 1) = pt up 0 := by rw [cl.last, cu.head, pt_rev (by omega)]; rfl
    have bot : pt up (up.length - 1) = pt lo 0 := by rw [cu.last, cl.head, List.length_reverse, pt_rev (by omega), show s.length - 1 - (s.length - 1) = 0 by omega]
    have dl : ∀ (c : List (Int × Int)) i, i + 1 < c.length → pt c i ∈ c.dropLast := fun c i hi => by
      rw [pt_get (by omega), ← List.getElem_dropLast (by rw [List.length_dropLast]; omega)]
      exact List.getElem_mem _
    apply Classical.byContradiction
    intro hn
    have nl : p ∉ lo := fun hm => by
      obtain ⟨i, hi, rfl⟩ := mem_pt hm
      by_cases e : i + 1 < lo.length
      · exact hn (List.mem_append_left _ (dl lo i e))
      · rw [show i = lo.length - 1 by omega, mid] at hn
        exact hn (List.mem_append_right _ (dl up 0 (by omega)))
    have nu : p ∉ up := fun hm => by
      obtain ⟨i, hi, rfl⟩ := mem_pt hm
      by_cases e : i + 1 < up.length
      · exact hn (List.mem_append_right _ (dl up i e))
      · rw [show i = up.length - 1 by omega, bot] at hn
        exact hn (List.mem_append_left _ (dl lo 0 (by omega)))
    obtain ⟨i, hi, a1, a2⟩ := cl.between (ahead_rises h) (by omega) hp nl
    obtain ⟨j, hj, b1, b2⟩ := cu.between (ahead_back h) (by rw [List.length_reverse]; omega) ((rev_mem p).1 hp) nu
    have c1 := cl.left i hi p hp
    have c2 := cu.left j hj p ((rev_mem p).1 hp)
    have m1 : pt lo i ∈ s := cl.sub _ (pt_mem (by omega))
    have m2 : pt lo (i + 1) ∈ s := cl.sub _ (pt_mem hi)
    have m3 : pt up j ∈ s := (rev_mem _).2 (cu.sub _ (pt_mem (by omega)))
    have m4 : pt up (j + 1) ∈ s := (rev_mem _).2 (cu.sub _ (pt_mem hj))
    have n1 : pt lo i ≠ p := fun e => nl (e ▸ pt_mem (by omega))
    have n2 : pt lo (i + 1) ≠ p := fun e => nl (e ▸ pt_mem hi)
    have n3 : pt up j ≠ p := fun e => nu (e ▸ pt_mem (by omega))
    have n4 : pt up (j + 1) ≠ p := fun e => nu (e ▸ pt_mem hj)
    obtain ⟨d, hd⟩ := hE
    have p1 := hd _ m1 n1
    have p2 := hd _ m2 n2
    have p3 := hd _ m3 n3
    have p4 := hd _ m4 n4
    obtain ⟨a, ea⟩ : ∃ a, pt lo i = a := ⟨_, rfl⟩
    obtain ⟨b, eb⟩ : ∃ b, pt lo (i + 1) = b := ⟨_, rfl⟩
    obtain ⟨b', eb'⟩ : ∃ b, pt up j = b := ⟨_, rfl⟩
    obtain ⟨a', ea'⟩ : ∃ a, pt up (j + 1) = a := ⟨_, rfl⟩
    rw [ea] at a1 c1 p1
    rw [eb] at a2 c1 p2
    rw [eb'] at b1 c2 p3
    rw [ea'] at b2 c2 p4
    have flip : ∀ u v : Int × Int, Pos (0, 1) (vec u v) → Pos (0, -1) (vec v u) := fun u v hh => by
      unfold Pos cx dt vec at *
      simp at *
      omega
    have b1' := flip _ _ b1
    have b2' := flip _ _ b2
    have neg : ∀ u v : Int × Int, vec u v = (-(vec v u).1, -(vec v u).2) := fun u v => by unfold vec; simp; omega
    -- X = a to p, Y = p to b, X' = a' to p, Y' = p to b'
    have k1 : 0 ≤ cx (vec p b) (vec a p) := by
      have : sd a b p = cx (vec p b) (vec a p) := by unfold sd cx vec; grind
      omega
    have k2 : 0 ≤ cx (vec a' p) (vec p b') := by
      have : sd b' a' p = cx (vec a' p) (vec p b') := by unfold sd cx vec; grind
      omega
    have dX : Pos d (-(vec a p).1, -(vec a p).2) := by rw [← neg]; exact p1
    have dX' : Pos d (-(vec a' p).1, -(vec a' p).2) := by rw [← neg]; exact p4
    have s1 : 0 < cx (vec p b) (vec a p) := by
      apply Classical.byContradiction
      intro hh
      exact same_no a2 a1 (by omega) p2 dX
    have s2 : 0 < cx (vec a' p) (vec p b') := by
      apply Classical.byContradiction
      intro hh
      exact same_no b1' b2' (by rw [cx_anti (vec a' p)]; omega) p3 dX'
    have q1 := p2.nn
    have q2 := p3.nn
    have q3 : cx d (vec a p) ≤ 0 := by have := p1.nn; rw [vec_cx_neg d a p] at this; omega
    have q4 : cx d (vec a' p) ≤ 0 := by have := p4.nn; rw [vec_cx_neg d a' p] at this; omega
    by_cases t1 : 0 < cx (vec a' p) (vec p b)
    · exact between_no b2' a2 a1 t1 s1 p2.base (.inl ⟨q1, q4, q3⟩)
    · by_cases t2 : cx (vec a' p) (vec p b) = 0
      · exact same_no a2 b2' (by rw [cx_anti (vec a' p)]; omega) p2 dX'
      · exact between_no a2 b2' b1' (by rw [cx_anti (vec a' p)]; omega) s2 p2.base (.inr ⟨q4, q1, q2⟩)
theorem hull_ext {s : List (Int × Int)} (h : Rise s) {p : Int × Int} (hp : p ∈ hullB tP s) : p ∈ s ∧ Ext s p := by
  rw [← wrap_hull h] at hp
  match s, h, hp with
  | f :: t, h, hp =>
    obtain ⟨z, hz, _⟩ := wrapR_ring h
    exact ⟨hz.went.sub p hp, hz.went.ext p hp⟩
/-- The hull of fewer points, all corners among them, is the same. -/
theorem hull_sub {s s' : List (Int × Int)} (h : Rise s) (h' : Rise s') (hs : ∀ q, q ∈ s' → q ∈ s) (hc : ∀ q, q ∈ hullB tP s → q ∈ s') : hullB tP s' = hullB tP s := by
  rw [← wrap_hull h, ← wrap_hull h']
  exact wrap_sub h h' hs (by rw [wrap_hull h]; exact hc)
theorem fromL_rise (l : List (Int × Int)) : Rise (fromL l) := by
  have := fromL_rises l l.length (Nat.le_refl _)
  rwa [List.take_length] at this
end Go.Proofs.YtipiamhnngmjmaaDoor
