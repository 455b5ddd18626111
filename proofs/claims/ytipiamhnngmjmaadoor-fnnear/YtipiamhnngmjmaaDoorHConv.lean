/-
  The lower and the upper points of a list, in order, turn left, and all others are on them or to the left of each way (Andrew; no walk in it).
  Conditions: as each theorem states them.
-/
import Derived.Test.YtipiamhnngmjmaaDoorB2
namespace Go.Proofs.YtipiamhnngmjmaaDoor
set_option linter.unusedVariables false
set_option maxRecDepth 8000
/-- Each point lies ahead of those before it. -/
def Ahead (d : Int × Int) (l : List (Int × Int)) : Prop := ∀ i j, i < j → j < l.length → Pos d (vec (pt l i) (pt l j))
/-- Whether three points turn left. -/
def tP (a b c : Int × Int) : Bool := decide (0 < sd a b c)
theorem tP_eq {l : List (Int × Int)} (h : allG l) : chainB tlB l = chainB tP l := chainB_congr fun a ha b hb c hc => tlB_eq (h a ha) (h b hb) (h c hc)
theorem Pos.not {d a b : Int × Int} (h : Pos d (vec a b)) (k : Pos d (vec b a)) : False := by
  have e1 : cx d (vec b a) = - cx d (vec a b) := by unfold cx vec; grind
  have e2 : dt d (vec b a) = - dt d (vec a b) := by unfold dt vec; grind
  unfold Pos at h k
  omega
theorem mem_pt {l : List (Int × Int)} {q : Int × Int} (h : q ∈ l) : ∃ i, i < l.length ∧ pt l i = q := by
  obtain ⟨i, hi, rfl⟩ := List.getElem_of_mem h
  exact ⟨i, hi, pt_get hi⟩
theorem Ahead.tri {d : Int × Int} {l : List (Int × Int)} (h : Ahead d l) {p q : Int × Int} (hp : p ∈ l) (hq : q ∈ l) : p = q ∨ Pos d (vec p q) ∨ Pos d (vec q p) := by
  obtain ⟨i, hi, rfl⟩ := mem_pt hp
  obtain ⟨j, hj, rfl⟩ := mem_pt hq
  rcases Nat.lt_trichotomy i j with e | e | e
  · exact .inr (.inl (h i j e hj))
  · subst e; exact .inl rfl
  · exact .inr (.inr (h j i e hi))
theorem pt_app_l {l : List (Int × Int)} {p : Int × Int} {i : Nat} (h : i < l.length) : pt (l ++ [p]) i = pt l i := by
  rw [pt_get (by simp; omega), pt_get h, List.getElem_append_left h]
theorem pt_app_r {l : List (Int × Int)} {p : Int × Int} : pt (l ++ [p]) l.length = p := by
  rw [pt_get (by simp)]; simp
theorem pt_take_l {l : List (Int × Int)} {n i : Nat} (h : i < n) (hn : n ≤ l.length) : pt (l.take n) i = pt l i := by
  rw [pt_get (by rw [List.length_take]; omega), pt_get (by omega), List.getElem_take]
theorem keepB_top {t : Int × Int → Int × Int → Int × Int → Bool} {l : List (Int × Int)} {p : Int × Int} : ∀ m, (2 ≤ keepB t l p m → t (pt l (keepB t l p m - 2)) (pt l (keepB t l p m - 1)) p = true) ∧ (keepB t l p m < m → t (pt l (keepB t l p m - 1)) (pt l (keepB t l p m)) p = false)
  | 0 => ⟨fun h => absurd h (by simp [keepB]), fun h => absurd h (by simp)⟩
  | 1 => ⟨fun h => absurd h (by simp [keepB]), fun h => absurd h (by simp [keepB])⟩
  | m + 2 => by
    by_cases ht : t (pt l m) (pt l (m + 1)) p = true
    · rw [keepB_stop ht]
      exact ⟨fun _ => ht, fun h => absurd h (Nat.lt_irrefl _)⟩
    · have ht' : t (pt l m) (pt l (m + 1)) p = false := by simpa using ht
      rw [keepB_go ht']
      obtain ⟨i1, i2⟩ := keepB_top (t := t) (l := l) (p := p) (m + 1)
      refine ⟨i1, fun h => ?_⟩
      have hle := keepB_le (t := t) (l := l) (p := p) (m + 1)
      by_cases e : keepB t l p (m + 1) = m + 1
      · rw [e]; exact ht'
      · exact i2 (by omega)
/-- A chain that turns left, with all points of a list on it or to the left. -/
structure Conv (d : Int × Int) (l c : List (Int × Int)) : Prop where
  some : 1 ≤ c.length
  ahead : Ahead d c
  sub : ∀ q, q ∈ c → q ∈ l
  turn : ∀ i, i + 2 < c.length → 0 < sd (pt c i) (pt c (i + 1)) (pt c (i + 2))
  left : ∀ i, i + 1 < c.length → ∀ q, q ∈ l → 0 ≤ sd (pt c i) (pt c (i + 1)) q
  head : pt c 0 = pt l 0
  last : pt c (c.length - 1) = pt l (l.length - 1)
/-- What turns left at the end is to the left of all ways. -/
theorem Conv.far {d : Int × Int} {l c : List (Int × Int)} {p : Int × Int} {n : Nat} (h : Conv d l c) (hn : n + 1 < c.length) (hp : ∀ q, q ∈ l → Pos d (vec q p)) (ht : 0 < sd (pt c n) (pt c (n + 1)) p) : ∀ k, k ≤ n → 0 ≤ sd (pt c (n - k)) (pt c (n - k + 1)) p := by
  intro k
  induction k with
  | zero => intro _; exact Int.le_of_lt ht
  | succ k ih =>
    intro hk
    have i1 := ih (by omega)
    obtain ⟨i, hi⟩ : ∃ i, n - (k + 1) = i := ⟨_, rfl⟩
    rw [show n - k = i + 1 by omega] at i1
    rw [hi]
    have t1 := h.turn i (by omega)
    rw [sd_step] at t1
    rw [sd_cx] at i1
    rw [sd_step]
    exact Int.le_of_lt (tri_l (h.ahead i (i + 1) (by omega) (by omega)) (h.ahead (i + 1) (i + 2) (by omega) (by omega)) (hp _ (h.sub _ (pt_mem (by omega)))) t1 i1)
theorem conv_step {d : Int × Int} {l c : List (Int × Int)} {p : Int × Int} (h : Conv d l c) (hl : 1 ≤ l.length) (hA : Ahead d l) (hp : ∀ q, q ∈ l → Pos d (vec q p)) : Conv d (l ++ [p]) (stepB tP c p) := by
  have hc := h.some
  obtain ⟨n, hn⟩ : ∃ n, keepB tP c p c.length = n := ⟨_, rfl⟩
  have k0 := keepB_le (t := tP) (l := c) (p := p) c.length
  have k1 := keepB_pos (t := tP) (l := c) (p := p) c.length (by omega)
  obtain ⟨k2, k3⟩ := keepB_top (t := tP) (l := c) (p := p) c.length
  rw [hn] at k0 k1 k2 k3
  have e : stepB tP c p = c.take n ++ [p] := by rw [stepB, hn]
  rw [e]
  clear e hn
  have tl : (c.take n).length = n := by rw [List.length_take]; omega
  have len : (c.take n ++ [p]).length = n + 1 := by rw [List.length_append, tl]; rfl
  have low : ∀ i, i < n → pt (c.take n ++ [p]) i = pt c i := fun i hi => by rw [pt_app_l (by omega), pt_take_l hi k0]
  have top : pt (c.take n ++ [p]) n = p := by
    have := pt_app_r (l := c.take n) (p := p)
    rwa [tl] at this
  have inl : ∀ i, i < n → pt c i ∈ l := fun i hi => h.sub _ (pt_mem (by omega))
  have t2 : ∀ m, n = m + 2 → 0 < sd (pt c m) (pt c (m + 1)) p := fun m hm => by
    have := k2 (by omega)
    rw [hm] at this
    exact of_decide_eq_true this
  refine ⟨by omega, ?_, ?_, ?_, ?_, ?_, ?_⟩
  · intro i j hij hj
    rw [len] at hj
    by_cases e : j = n
    · subst e
      rw [top, low i hij]
      exact hp _ (inl i hij)
    · rw [low i (by omega), low j (by omega)]
      exact h.ahead i j hij (by omega)
  · intro q hq
    rcases List.mem_append.1 hq with hq | hq
    · exact List.mem_append_left _ (h.sub q (List.mem_of_mem_take hq))
    · exact List.mem_append_right _ hq
  · intro i hi
    rw [len] at hi
    by_cases e : i + 2 = n
    · rw [low i (by omega), low (i + 1) (by omega), e, top]
      exact t2 i e.symm
    · rw [low i (by omega), low (i + 1) (by omega), low (i + 2) (by omega)]
      exact h.turn i (by omega)
  · intro i hi q hq
    rw [len] at hi
    by_cases e : i + 1 = n
    · rw [e, top, low i (by omega)]
      rcases List.mem_append.1 hq with hq | hq
      · obtain ⟨a, ha⟩ : ∃ a, pt c i = a := ⟨_, rfl⟩
        have hal : a ∈ l := by rw [← ha]; exact inl i (by omega)
        rw [ha]
        rcases hA.tri hal hq with e2 | e2 | e2
        · rw [← e2, sd_start]; omega
        · by_cases e3 : n < c.length
          · have b1 := h.left i (by omega) q hq
            have b2 := k3 e3
            rw [show n - 1 = i by omega, ← e] at b2
            have b2' : ¬ 0 < sd (pt c i) (pt c (i + 1)) p := of_decide_eq_false b2
            have b3 := h.ahead i (i + 1) (by omega) (by omega)
            rw [ha] at b1 b2' b3
            rw [sd_cx] at b1 b2' ⊢
            refine tri (hp a hal) b3 e2 ?_ b1
            rw [cx_anti (vec a (pt c (i + 1)))]
            omega
          · exfalso
            have hla := h.last
            rw [show c.length - 1 = i by omega, ha] at hla
            obtain ⟨j, hj, rfl⟩ := mem_pt hq
            by_cases ej : j = l.length - 1
            · rw [ej, ← hla] at e2
              have := e2.ne
              exact this (by unfold vec; simp)
            · rw [hla] at e2
              exact e2.not (hA j (l.length - 1) (by omega) (by omega))
        · by_cases e3 : 2 ≤ n
          · obtain ⟨m, hm⟩ : ∃ m, n = m + 2 := ⟨n - 2, by omega⟩
            obtain rfl : i = m + 1 := by omega
            have b1 := h.left m (by omega) q hq
            have b2 := t2 m hm
            have b3 := h.ahead m (m + 1) (by omega) (by omega)
            rw [ha] at b1 b2 b3
            rw [sd_step] at b1 b2
            have b4 := hp a hal
            obtain ⟨z, hz⟩ : ∃ z, pt c m = z := ⟨_, rfl⟩
            rw [hz] at b1 b2 b3
            have b5 : 0 ≤ cx (vec q a) (vec z a) := by
              have : cx (vec q a) (vec z a) = cx (vec z a) (vec a q) := by unfold cx vec; grind
              omega
            have b6 := tri_r e2 b3 b4 b5 b2
            have : sd a p q = cx (vec q a) (vec a p) := by unfold sd cx vec; grind
            omega
          · exfalso
            obtain rfl : i = 0 := by omega
            rw [h.head] at ha
            obtain ⟨j, hj, rfl⟩ := mem_pt hq
            rw [← ha] at e2
            by_cases ej : j = 0
            · rw [ej] at e2
              exact e2.ne (by unfold vec; simp)
            · exact e2.not (hA 0 j (by omega) hj)
      · simp at hq
        rw [hq, sd_end]
        omega
    · rw [low i (by omega), low (i + 1) (by omega)]
      rcases List.mem_append.1 hq with hq | hq
      · exact h.left i (by omega) q hq
      · simp at hq
        rw [hq]
        obtain ⟨m, hm⟩ : ∃ m, n = m + 2 := ⟨n - 2, by omega⟩
        have := h.far (n := m) (by omega) hp (t2 m hm) (m - i) (by omega)
        rwa [show m - (m - i) = i by omega] at this
  · rw [low 0 (by omega), pt_app_l (by omega)]
    exact h.head
  · rw [len, show n + 1 - 1 = n by omega, top, show (l ++ [p]).length - 1 = l.length by simp, pt_app_r]
theorem Ahead.init {d : Int × Int} {l : List (Int × Int)} {p : Int × Int} (h : Ahead d (l ++ [p])) : Ahead d l ∧ ∀ q, q ∈ l → Pos d (vec q p) := by
  refine ⟨fun i j hij hj => ?_, fun q hq => ?_⟩
  · have := h i j hij (by simp; omega)
    rwa [pt_app_l (by omega), pt_app_l hj] at this
  · obtain ⟨i, hi, rfl⟩ := mem_pt hq
    have := h i l.length hi (by simp)
    rwa [pt_app_l hi, pt_app_r] at this
theorem chain_conv {d : Int × Int} : ∀ (n : Nat) (l : List (Int × Int)), l.length = n + 1 → Ahead d l → Conv d l (chainB tP l) := by
  intro n
  induction n with
  | zero =>
    intro l hl _
    match l, hl with
    | [p], _ =>
      show Conv d [p] [p]
      refine ⟨by simp, fun i j hij hj => ?_, fun q hq => hq, fun i hi => ?_, fun i hi => ?_, rfl, rfl⟩
      · simp at hj; omega
      · simp at hi
      · simp at hi
  | succ n ih =>
    intro l hl hA
    have hne : l ≠ [] := by intro e; subst e; simp at hl
    obtain ⟨l', p, rfl⟩ : ∃ l' p, l = l' ++ [p] := ⟨l.dropLast, l.getLast hne, (List.dropLast_concat_getLast hne).symm⟩
    rw [List.length_append] at hl
    simp at hl
    obtain ⟨h1, h2⟩ := hA.init
    rw [chainB_snoc]
    exact conv_step (ih l' hl h1) (by omega) h1 h2
theorem less_trans2 {a b c : Int × Int} (h : lessB a.1 a.2 b.1 b.2 = true) (k : lessB b.1 b.2 c.1 c.2 = true) : lessB a.1 a.2 c.1 c.2 = true := by
  unfold lessB at *
  have h' := of_decide_eq_true h
  have k' := of_decide_eq_true k
  refine decide_eq_true ?_
  omega
theorem rises_less {l : List (Int × Int)} (h : RisesTo l (l.length - 1)) : ∀ (k i : Nat), i + k + 1 < l.length → lessB (pt l i).1 (pt l i).2 (pt l (i + k + 1)).1 (pt l (i + k + 1)).2 = true := by
  intro k
  induction k with
  | zero => intro i hi; exact h i (by omega)
  | succ k ih =>
    intro i hi
    have h1 := ih i (by omega)
    have h2 : lessB (pt l (i + k + 1)).1 (pt l (i + k + 1)).2 (pt l (i + (k + 1) + 1)).1 (pt l (i + (k + 1) + 1)).2 = true := h (i + k + 1) (by omega)
    exact less_trans2 h1 h2
theorem less_at {l : List (Int × Int)} (h : RisesTo l (l.length - 1)) {i j : Nat} (hij : i < j) (hj : j < l.length) : lessB (pt l i).1 (pt l i).2 (pt l j).1 (pt l j).2 = true := by
  have := rises_less h (j - i - 1) i (by omega)
  rwa [show i + (j - i - 1) + 1 = j by omega] at this
theorem ahead_rises {l : List (Int × Int)} (h : RisesTo l (l.length - 1)) : Ahead (0, -1) l := fun i j hij hj => by
  have k := less_at h hij hj
  unfold lessB at k
  have k' := of_decide_eq_true k
  unfold Pos cx dt vec
  simp
  omega
theorem pt_rev {l : List (Int × Int)} {i : Nat} (h : i < l.length) : pt l.reverse i = pt l (l.length - 1 - i) := by
  rw [pt_get (by simpa using h), pt_get (by omega), List.getElem_reverse]
theorem ahead_back {l : List (Int × Int)} (h : RisesTo l (l.length - 1)) : Ahead (0, 1) l.reverse := fun i j hij hj => by
  rw [List.length_reverse] at hj
  rw [pt_rev (by omega), pt_rev hj]
  have k := less_at h (i := l.length - 1 - j) (j := l.length - 1 - i) (by omega) (by omega)
  unfold lessB at k
  have k' := of_decide_eq_true k
  unfold Pos cx dt vec
  simp
  omega
theorem lower_conv {l : List (Int × Int)} (hG : goodL l = true) (h2 : 1 ≤ l.length) : Conv (0, -1) l (chainB tlB l) := by
  rw [tP_eq (goodL_all hG)]
  exact chain_conv (l.length - 1) l (by omega) (ahead_rises (goodL_rises hG))
theorem upper_conv {l : List (Int × Int)} (hG : goodL l = true) (h2 : 1 ≤ l.length) : Conv (0, 1) l.reverse (chainB tlB l.reverse) := by
  rw [tP_eq (goodL_all hG).rev]
  exact chain_conv (l.length - 1) l.reverse (by rw [List.length_reverse]; omega) (ahead_back (goodL_rises hG))
/-- What the law asks of each way and each point. -/
theorem side_left {d : Int × Int} {l c s : List (Int × Int)} (h : Conv d l c) (hl : allG l) (hs : ∀ q, q ∈ s → q ∈ l) {k i : Nat} (hk : k + 1 < c.length) (hi : i < s.length) : sideOk (px c k) (py c k) (px c (k + 1)) (py c (k + 1)) (px s i) (py s i) = true ∧ ¬ sideN (px c k) (py c k) (px c (k + 1)) (py c (k + 1)) (px s i) (py s i) < 0 := by
  have g1 : gp (pt c k) := hl _ (h.sub _ (pt_mem (by omega)))
  have g2 : gp (pt c (k + 1)) := hl _ (h.sub _ (pt_mem (by omega)))
  have g3 : gp (pt s i) := hl _ (hs _ (pt_mem hi))
  refine ⟨?_, ?_⟩
  · have a1 : goodB (px c k) (py c k) = true := g1
    have a2 : goodB (px c (k + 1)) (py c (k + 1)) = true := g2
    have a3 : goodB (px s i) (py s i) = true := g3
    simp [sideOk, a1, a2, a3]
  · have e := sideN_eq g1 g2 g3
    have e' : sideN (px c k) (py c k) (px c (k + 1)) (py c (k + 1)) (px s i) (py s i) = sg (sd (pt c k) (pt c (k + 1)) (pt s i)) := e
    rw [e', (sg_pos _).2.2.1]
    have := h.left k hk _ (hs _ (pt_mem hi))
    omega
end Go.Proofs.YtipiamhnngmjmaaDoor
