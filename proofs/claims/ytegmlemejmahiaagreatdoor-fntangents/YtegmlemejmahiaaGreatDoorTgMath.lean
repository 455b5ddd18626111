/-
  The fold that finds what is farthest to a side, and the specification's: the same point (plain geometry).
  Conditions: as each theorem states them.
-/
import Derived.Test.YtegmlemejmahiaaGreatDoorExMath
import Derived.Test.YtegmlemejmahiaaGreatDoorHWrapP
import Derived.Test.YtegmlemejmahiaaGreatDoorHWrapQ
namespace Go.Proofs.YtegmlemejmahiaaGreatDoor
open Go.RowKit
set_option linter.unusedVariables false
set_option maxRecDepth 8000
/-- One step of a search for what is farthest. -/
def farStep (f : Int × Int → Int × Int → Bool) (b p : Int × Int) : Int × Int := if f p b = true then p else b
/-- What is farthest of a list. -/
def farOf (f : Int × Int → Int × Int → Bool) (l : List (Int × Int)) : Int × Int := l.foldl (farStep f) (pt l 0)
theorem farStep_or (f : Int × Int → Int × Int → Bool) (b p : Int × Int) : farStep f b p = p ∨ farStep f b p = b := by
  unfold farStep; split
  · exact .inl rfl
  · exact .inr rfl
theorem far_mem (f : Int × Int → Int × Int → Bool) : ∀ (l : List (Int × Int)) (b : Int × Int), l.foldl (farStep f) b = b ∨ l.foldl (farStep f) b ∈ l
  | [], b => .inl rfl
  | p :: t, b => by
    show t.foldl (farStep f) (farStep f b p) = b ∨ t.foldl (farStep f) (farStep f b p) ∈ p :: t
    rcases far_mem f t (farStep f b p) with h | h
    · rw [h]
      rcases farStep_or f b p with e | e
      · rw [e]; exact .inr (by simp)
      · rw [e]; exact .inl rfl
    · exact .inr (List.mem_cons_of_mem _ h)
theorem farOf_mem (f : Int × Int → Int × Int → Bool) {l : List (Int × Int)} (h : 0 < l.length) : farOf f l ∈ l := by
  rcases far_mem f l (pt l 0) with e | e
  · unfold farOf; rw [e]; exact pt_mem h
  · exact e
/-- None is farther than what is told, by an order that is transitive. -/
theorem fold_top {f : Int × Int → Int × Int → Bool} {S : Int × Int → Prop} (irr : ∀ x, S x → f x x = false) (tr : ∀ x p b, S x → S p → S b → f x p = true → f p b = true → f x b = true) :
    ∀ (l done : List (Int × Int)) (b : Int × Int), S b → (∀ x, x ∈ l → S x) → (∀ x, x ∈ done → S x ∧ f x b = false) → ∀ x, x ∈ done ++ l → f x (l.foldl (farStep f) b) = false
  | [], done, b, _, _, hD, x, hx => by simp at hx; exact (hD x hx).2
  | p :: t, done, b, hb, hl, hD, x, hx => by
    have hp := hl p (by simp)
    have key := fold_top irr tr t (done ++ [p]) (farStep f b p) (by rcases farStep_or f b p with e | e <;> rw [e] <;> assumption) (fun y hy => hl y (List.mem_cons_of_mem _ hy))
    refine key (fun y hy => ?_) x (by simpa using hx)
    rcases List.mem_append.1 hy with h | h
    · refine ⟨(hD y h).1, ?_⟩
      unfold farStep
      split
      · rename_i h1
        cases e : f y p
        · rfl
        · have := tr y p b (hD y h).1 hp hb e h1
          rw [(hD y h).2] at this; cases this
      · exact (hD y h).2
    · simp at h
      subst h
      refine ⟨hp, ?_⟩
      unfold farStep
      split
      · exact irr y hp
      · rename_i h1; simpa using h1
theorem farOf_top {f : Int × Int → Int × Int → Bool} {S : Int × Int → Prop} (irr : ∀ x, S x → f x x = false) (tr : ∀ x p b, S x → S p → S b → f x p = true → f p b = true → f x b = true) {l : List (Int × Int)} (h : 0 < l.length) (hS : ∀ x, x ∈ l → S x) {x : Int × Int} (hx : x ∈ l) : f x (farOf f l) = false :=
  fold_top irr tr l [] (pt l 0) (hS _ (pt_mem h)) hS (fun y hy => by cases hy) x (by simpa using hx)
theorem fold_congr {f g : Int × Int → Int × Int → Bool} {S : Int × Int → Prop} (h : ∀ x p, S x → S p → f x p = g x p) : ∀ (l : List (Int × Int)) (b : Int × Int), S b → (∀ x, x ∈ l → S x) → l.foldl (farStep f) b = l.foldl (farStep g) b
  | [], b, _, _ => rfl
  | p :: t, b, hb, hl => by
    have hp := hl p (by simp)
    have e : farStep f b p = farStep g b p := by unfold farStep; rw [h p b hp hb]
    show t.foldl (farStep f) (farStep f b p) = t.foldl (farStep g) (farStep g b p)
    rw [e]
    exact fold_congr h t _ (by rcases farStep_or g b p with e | e <;> rw [e] <;> assumption) (fun y hy => hl y (List.mem_cons_of_mem _ hy))
theorem farOf_congr {f g : Int × Int → Int × Int → Bool} {S : Int × Int → Prop} (h : ∀ x p, S x → S p → f x p = g x p) {l : List (Int × Int)} (hl : ∀ x, x ∈ l → S x) (h0 : 0 < l.length) : farOf f l = farOf g l := fold_congr h l _ (hl _ (pt_mem h0)) hl
/-- b lies behind p, seen from q. -/
def Beh (q p b : Int × Int) : Prop := 0 < dt (vec q p) (vec p b)
theorem beh_dt (q p b : Int × Int) : dt (vec q p) (vec p b) = dt (vec q p) (vec q b) - dt (vec q p) (vec q p) := by unfold dt vec; grind
theorem beh_irr (q p : Int × Int) : ¬ Beh q p p := by unfold Beh; rw [beh_dt]; omega
theorem beh_trans {d q x p b : Int × Int} (hx : Pos d (vec q x)) (hp : Pos d (vec q p)) (h0 : sd q p b = 0) (h1 : Beh q x p) (h2 : Beh q p b) : Beh q x b := by
  unfold Beh at *
  rw [beh_dt] at *
  have hxx := dd_pos hx.ne
  have hpp := dd_pos hp.ne
  have r := rayd (vec q p) (vec q x) (vec q b) (by rw [← sd_cx]; exact h0)
  rw [dt_comm (vec q x) (vec q p)] at r h1
  have m1 : dt (vec q x) (vec q x) * dt (vec q p) (vec q p) < dt (vec q p) (vec q b) * dt (vec q p) (vec q x) := by
    have a1 : dt (vec q p) (vec q p) * dt (vec q x) (vec q x) < dt (vec q p) (vec q p) * dt (vec q p) (vec q x) := Int.mul_lt_mul_of_pos_left (by omega) hpp
    have a2 : dt (vec q p) (vec q p) * dt (vec q p) (vec q x) < dt (vec q p) (vec q b) * dt (vec q p) (vec q x) := Int.mul_lt_mul_of_pos_right (by omega) (by omega)
    rw [Int.mul_comm (dt (vec q x) (vec q x))]
    omega
  have m2 : 0 < (dt (vec q x) (vec q b) - dt (vec q x) (vec q x)) * dt (vec q p) (vec q p) := by rw [Int.sub_mul]; omega
  exact pos_of_mul m2 hpp
theorem beh_same {d q a b : Int × Int} (ha : Pos d (vec q a)) (hb : Pos d (vec q b)) (h0 : sd q a b = 0) (h1 : ¬ Beh q a b) (h2 : ¬ Beh q b a) : a = b := by
  have hs : 0 < dt (vec q a) (vec q b) := same_ray ha hb (by rw [← sd_cx]; exact h0)
  unfold Beh at *
  rw [beh_dt] at *
  rw [dt_comm (vec q b) (vec q a)] at h2
  have hl := lagr (vec q a) (vec q b)
  rw [← sd_cx, h0] at hl
  have haa := dd_pos ha.ne
  have hbb := dd_pos hb.ne
  have e1 : dt (vec q a) (vec q a) = dt (vec q a) (vec q b) := by
    apply Classical.byContradiction
    intro hn
    have a1 : dt (vec q a) (vec q b) * dt (vec q a) (vec q b) < dt (vec q a) (vec q a) * dt (vec q a) (vec q b) := Int.mul_lt_mul_of_pos_right (by omega) hs
    have a2 : dt (vec q a) (vec q a) * dt (vec q a) (vec q b) ≤ dt (vec q a) (vec q a) * dt (vec q b) (vec q b) := Int.mul_le_mul_of_nonneg_left (by omega) (by omega)
    omega
  have e2 : dt (vec q b) (vec q b) = dt (vec q a) (vec q b) := by
    rw [e1] at hl
    have : dt (vec q a) (vec q b) * dt (vec q b) (vec q b) = dt (vec q a) (vec q b) * dt (vec q a) (vec q b) := by omega
    exact Int.eq_of_mul_eq_mul_left (by omega) this
  have e3 : dt (vec a b) (vec a b) = 0 := by
    have : dt (vec a b) (vec a b) = dt (vec q b) (vec q b) + dt (vec q a) (vec q a) - 2 * dt (vec q a) (vec q b) := by unfold dt vec; grind
    omega
  have e4 := dd_zero e3
  unfold vec at e4
  have e5 := congrArg Prod.fst e4
  have e6 := congrArg Prod.snd e4
  simp only at e5 e6
  exact Prod.ext (by omega) (by omega)
/-- p is farther to the right than b, seen from q; of one line the nearer. -/
def RtR (q p b : Int × Int) : Prop := sd q b p < 0 ∨ (sd q p b = 0 ∧ Beh q p b)
/-- .. to the left. -/
def RtL (q p b : Int × Int) : Prop := 0 < sd q b p ∨ (sd q p b = 0 ∧ Beh q p b)
theorem rtR_irr (q p : Int × Int) : ¬ RtR q p p := by
  rintro (h | ⟨_, h⟩)
  · rw [sd_end] at h; omega
  · exact beh_irr q p h
theorem rtL_irr (q p : Int × Int) : ¬ RtL q p p := by
  rintro (h | ⟨_, h⟩)
  · rw [sd_end] at h; omega
  · exact beh_irr q p h
theorem line_trans {d q x p b : Int × Int} (hx : Pos d (vec q x)) (hp : Pos d (vec q p)) (hb : Pos d (vec q b)) (h1 : sd q x p = 0) (h2 : sd q p b = 0) : sd q x b = 0 := by
  rw [sd_cx] at *
  have a1 := tri hx hp hb (by omega) (by omega)
  have a2 := tri hb hp hx (by rw [cx_anti (vec q p)]; omega) (by rw [cx_anti (vec q x)]; omega)
  rw [cx_anti (vec q x)] at a2
  omega
theorem rtR_trans {d q x p b : Int × Int} (hx : Pos d (vec q x)) (hp : Pos d (vec q p)) (hb : Pos d (vec q b)) (h1 : RtR q x p) (h2 : RtR q p b) : RtR q x b := by
  have c1 : sd q p x < 0 → 0 < cx (vec q x) (vec q p) := fun h => by rw [sd_cx, cx_anti (vec q x)] at h; omega
  have c2 : sd q b p < 0 → 0 < cx (vec q p) (vec q b) := fun h => by rw [sd_cx, cx_anti (vec q p)] at h; omega
  have c3 : 0 < cx (vec q x) (vec q b) → RtR q x b := fun h => .inl (by rw [sd_cx, cx_anti (vec q x)]; omega)
  rcases h1 with h1 | ⟨h1, k1⟩
  · rcases h2 with h2 | ⟨h2, k2⟩
    · exact c3 (tri_l hx hp hb (c1 h1) (Int.le_of_lt (c2 h2)))
    · exact c3 (tri_l hx hp hb (c1 h1) (by rw [sd_cx] at h2; omega))
  · rcases h2 with h2 | ⟨h2, k2⟩
    · exact c3 (tri_r hx hp hb (by rw [sd_cx] at h1; omega) (c2 h2))
    · exact .inr ⟨line_trans hx hp hb h1 h2, beh_trans hx hp h2 k1 k2⟩
theorem rtL_trans {d q x p b : Int × Int} (hx : Pos d (vec q x)) (hp : Pos d (vec q p)) (hb : Pos d (vec q b)) (h1 : RtL q x p) (h2 : RtL q p b) : RtL q x b := by
  have c3 : 0 < cx (vec q b) (vec q x) → RtL q x b := fun h => .inl (by rw [sd_cx]; exact h)
  rcases h1 with h1 | ⟨h1, k1⟩
  · rcases h2 with h2 | ⟨h2, k2⟩
    · exact c3 (tri_l hb hp hx h2 (Int.le_of_lt h1))
    · exact c3 (tri_r hb hp hx (by rw [sd_cx] at h2; rw [cx_anti (vec q p)]; omega) h1)
  · rcases h2 with h2 | ⟨h2, k2⟩
    · exact c3 (tri_l hb hp hx h2 (by rw [sd_cx] at h1; rw [cx_anti (vec q x)]; omega))
    · exact .inr ⟨line_trans hx hp hb h1 h2, beh_trans hx hp h2 k1 k2⟩
/-- One step of the specification's search: among those that are free, the nearest. -/
def frStep (fr : Int × Int → Bool) (nr : Int × Int → Int × Int → Bool) (b : (Int × Int) × Bool) (p : Int × Int) : (Int × Int) × Bool := if (fr p && (!b.2 || nr p b.1)) = true then (p, true) else b
theorem frStep_yes {fr : Int × Int → Bool} {nr : Int × Int → Int × Int → Bool} {b : (Int × Int) × Bool} {p : Int × Int} (h : (fr p && (!b.2 || nr p b.1)) = true) : frStep fr nr b p = (p, true) := by unfold frStep; rw [if_pos h]
theorem frStep_no {fr : Int × Int → Bool} {nr : Int × Int → Int × Int → Bool} {b : (Int × Int) × Bool} {p : Int × Int} (h : (fr p && (!b.2 || nr p b.1)) = false) : frStep fr nr b p = b := by unfold frStep; rw [if_neg (by rw [h]; exact Bool.false_ne_true)]
def frOf (fr : Int × Int → Bool) (nr : Int × Int → Int × Int → Bool) (l : List (Int × Int)) : (Int × Int) × Bool := l.foldl (frStep fr nr) (pt l 0, false)
/-- What a search has found of those that it went by. -/
structure FrInv (fr : Int × Int → Bool) (nr : Int × Int → Int × Int → Bool) (done : List (Int × Int)) (b : (Int × Int) × Bool) : Prop where
  none : b.2 = false → ∀ x, x ∈ done → fr x = false
  some : b.2 = true → b.1 ∈ done ∧ fr b.1 = true ∧ ∀ x, x ∈ done → fr x = true → nr x b.1 = false
theorem fr_fold {fr : Int × Int → Bool} {nr : Int × Int → Int × Int → Bool} {S : Int × Int → Prop} (irr : ∀ x, S x → nr x x = false) (tr : ∀ x p b, S x → S p → S b → fr x = true → fr p = true → fr b = true → nr x p = true → nr p b = true → nr x b = true) :
    ∀ (l done : List (Int × Int)) (b : (Int × Int) × Bool), (∀ x, x ∈ l → S x) → (∀ x, x ∈ done → S x) → FrInv fr nr done b → FrInv fr nr (done ++ l) (l.foldl (frStep fr nr) b)
  | [], done, b, _, _, H => by simpa using H
  | p :: t, done, b, hl, hd, H => by
    have hp := hl p (by simp)
    have key := fr_fold irr tr t (done ++ [p]) (frStep fr nr b p) (fun y hy => hl y (List.mem_cons_of_mem _ hy)) (fun y hy => by
      rcases List.mem_append.1 hy with h | h
      · exact hd y h
      · simp at h; subst h; exact hp)
    rw [List.append_assoc] at key
    refine key ?_
    cases e : (fr p && (!b.2 || nr p b.1))
    · rw [frStep_no e]
      refine ⟨fun h x hx => ?_, fun h => ?_⟩
      · rcases List.mem_append.1 hx with h1 | h1
        · exact H.none h x h1
        · simp at h1; subst h1; rw [h] at e; simpa using e
      · obtain ⟨h1, h2, h3⟩ := H.some h
        refine ⟨List.mem_append_left _ h1, h2, fun x hx hf => ?_⟩
        rcases List.mem_append.1 hx with h4 | h4
        · exact h3 x h4 hf
        · simp at h4; subst h4; rw [h, hf] at e; simpa using e
    · rw [frStep_yes e]
      rw [Bool.and_eq_true, Bool.or_eq_true] at e
      refine ⟨fun h => Bool.noConfusion h, fun _ => ⟨by simp, e.1, fun x hx hf => ?_⟩⟩
      rcases List.mem_append.1 hx with h4 | h4
      · cases hb : b.2
        · rw [H.none hb x h4] at hf; cases hf
        · obtain ⟨h1, h2, h3⟩ := H.some hb
          have e2 : nr p b.1 = true := by
            rcases e.2 with e2 | e2
            · rw [hb] at e2; cases e2
            · exact e2
          cases e3 : nr x p
          · rfl
          · have := tr x p b.1 (hd x h4) hp (hd _ h1) hf e.1 h2 e3 e2
            rw [h3 x h4 hf] at this; cases this
      · simp at h4; subst h4; exact irr x hp
theorem frOf_spec {fr : Int × Int → Bool} {nr : Int × Int → Int × Int → Bool} {S : Int × Int → Prop} (irr : ∀ x, S x → nr x x = false) (tr : ∀ x p b, S x → S p → S b → fr x = true → fr p = true → fr b = true → nr x p = true → nr p b = true → nr x b = true) {l : List (Int × Int)} (hS : ∀ x, x ∈ l → S x) {a : Int × Int} (ha : a ∈ l) (hf : fr a = true) :
    (frOf fr nr l).1 ∈ l ∧ fr (frOf fr nr l).1 = true ∧ ∀ x, x ∈ l → fr x = true → nr x (frOf fr nr l).1 = false := by
  have H := fr_fold irr tr l [] (pt l 0, false) hS (fun x hx => by cases hx) ⟨fun _ x hx => (List.not_mem_nil hx).elim, fun h => Bool.noConfusion h⟩
  rw [List.nil_append] at H
  refine H.some ?_
  cases e : (l.foldl (frStep fr nr) (pt l 0, false)).2
  · rw [H.none e a ha] at hf; cases hf
  · rfl
/-- The program's search to the right, and the specification's, from outside: the same point. -/
theorem Ring.right_same {s h : List (Int × Int)} {q : Int × Int} (H : Ring s h) (hn : ¬ InP h q) {f nr : Int × Int → Int × Int → Bool} {fr : Int × Int → Bool}
    (hf : ∀ x p, x ∈ h → p ∈ h → (f x p = true ↔ RtR q x p)) (hr : ∀ x, x ∈ h → (fr x = true ↔ ∀ p, p ∈ h → 0 ≤ sd q x p)) (hr2 : ∀ x p, x ∈ h → p ∈ h → (nr x p = true ↔ Beh q x p)) :
    farOf f h = (frOf fr nr h).1 ∧ farOf f h ∈ h ∧ ∀ p, p ∈ h → 0 ≤ sd q (farOf f h) p := by
  obtain ⟨d, hd⟩ := H.out hn
  have m1 := farOf_mem f (l := h) H.one
  have t1 : ∀ x, x ∈ h → ¬ RtR q x (farOf f h) := fun x hx hR => by
    have := farOf_top (f := f) (S := fun x => x ∈ h) (fun x hx => by cases e : f x x; rfl; exact absurd ((hf x x hx hx).1 e) (rtR_irr q x)) (fun x p b hx hp hb h1 h2 => (hf x b hx hb).2 (rtR_trans (hd x hx) (hd p hp) (hd b hb) ((hf x p hx hp).1 h1) ((hf p b hp hb).1 h2))) H.one (fun x hx => hx) hx
    rw [(hf x _ hx m1).2 hR] at this; cases this
  have g1 : ∀ p, p ∈ h → 0 ≤ sd q (farOf f h) p := fun p hp => by
    have := t1 p hp
    apply Classical.byContradiction
    intro hc
    exact this (.inl (by omega))
  obtain ⟨a1, a2, a3⟩ := frOf_spec (fr := fr) (nr := nr) (S := fun x => x ∈ h) (fun x hx => by cases e : nr x x; rfl; exact absurd ((hr2 x x hx hx).1 e) (beh_irr q x))
    (fun x p b hx hp hb f1 f2 f3 n1 n2 => (hr2 x b hx hb).2 (beh_trans (hd x hx) (hd p hp) (by
      have b1 := (hr p hp).1 f2 b hb
      have b2 := (hr b hb).1 f3 p hp
      rw [sd_cx, cx_anti (vec q p), ← sd_cx] at b2
      omega) ((hr2 x p hx hp).1 n1) ((hr2 p b hp hb).1 n2))) (fun x hx => hx) m1 ((hr _ m1).2 g1)
  refine ⟨?_, m1, g1⟩
  have b1 := g1 _ a1
  have b2 := (hr _ a1).1 a2 _ m1
  have b3 : sd q (farOf f h) (frOf fr nr h).1 = 0 := by
    rw [sd_cx, cx_anti (vec q (farOf f h)), ← sd_cx] at b2
    omega
  refine beh_same (hd _ m1) (hd _ a1) b3 (fun hb => ?_) (fun hb => ?_)
  · have := a3 _ m1 ((hr _ m1).2 g1)
    rw [(hr2 _ _ m1 a1).2 hb] at this; cases this
  · refine t1 _ a1 (.inr ⟨?_, hb⟩)
    rw [sd_cx, cx_anti (vec q (farOf f h)), ← sd_cx, b3]; rfl
/-- .. to the left. -/
theorem Ring.left_same {s h : List (Int × Int)} {q : Int × Int} (H : Ring s h) (hn : ¬ InP h q) {f nr : Int × Int → Int × Int → Bool} {fr : Int × Int → Bool}
    (hf : ∀ x p, x ∈ h → p ∈ h → (f x p = true ↔ RtL q x p)) (hr : ∀ x, x ∈ h → (fr x = true ↔ ∀ p, p ∈ h → sd q x p ≤ 0)) (hr2 : ∀ x p, x ∈ h → p ∈ h → (nr x p = true ↔ Beh q x p)) :
    farOf f h = (frOf fr nr h).1 ∧ farOf f h ∈ h ∧ ∀ p, p ∈ h → sd q (farOf f h) p ≤ 0 := by
  obtain ⟨d, hd⟩ := H.out hn
  have m1 := farOf_mem f (l := h) H.one
  have t1 : ∀ x, x ∈ h → ¬ RtL q x (farOf f h) := fun x hx hR => by
    have := farOf_top (f := f) (S := fun x => x ∈ h) (fun x hx => by cases e : f x x; rfl; exact absurd ((hf x x hx hx).1 e) (rtL_irr q x)) (fun x p b hx hp hb h1 h2 => (hf x b hx hb).2 (rtL_trans (hd x hx) (hd p hp) (hd b hb) ((hf x p hx hp).1 h1) ((hf p b hp hb).1 h2))) H.one (fun x hx => hx) hx
    rw [(hf x _ hx m1).2 hR] at this; cases this
  have g1 : ∀ p, p ∈ h → sd q (farOf f h) p ≤ 0 := fun p hp => by
    have := t1 p hp
    apply Classical.byContradiction
    intro hc
    exact this (.inl (by omega))
  obtain ⟨a1, a2, a3⟩ := frOf_spec (fr := fr) (nr := nr) (S := fun x => x ∈ h) (fun x hx => by cases e : nr x x; rfl; exact absurd ((hr2 x x hx hx).1 e) (beh_irr q x))
    (fun x p b hx hp hb f1 f2 f3 n1 n2 => (hr2 x b hx hb).2 (beh_trans (hd x hx) (hd p hp) (by
      have b1 := (hr p hp).1 f2 b hb
      have b2 := (hr b hb).1 f3 p hp
      rw [sd_cx, cx_anti (vec q p), ← sd_cx] at b2
      omega) ((hr2 x p hx hp).1 n1) ((hr2 p b hp hb).1 n2))) (fun x hx => hx) m1 ((hr _ m1).2 g1)
  refine ⟨?_, m1, g1⟩
  have b1 := g1 _ a1
  have b2 := (hr _ a1).1 a2 _ m1
  have b3 : sd q (farOf f h) (frOf fr nr h).1 = 0 := by
    rw [sd_cx, cx_anti (vec q (farOf f h)), ← sd_cx] at b2
    omega
  refine beh_same (hd _ m1) (hd _ a1) b3 (fun hb => ?_) (fun hb => ?_)
  · have := a3 _ m1 ((hr _ m1).2 g1)
    rw [(hr2 _ _ m1 a1).2 hb] at this; cases this
  · refine t1 _ a1 (.inr ⟨?_, hb⟩)
    rw [sd_cx, cx_anti (vec q (farOf f h)), ← sd_cx, b3]; rfl
end Go.Proofs.YtegmlemejmahiaaGreatDoor
