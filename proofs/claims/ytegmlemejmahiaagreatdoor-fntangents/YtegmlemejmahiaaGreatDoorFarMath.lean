/-
  Chapter 5, plain: what the program's searches and the specification's find is the same.
  Conditions: as each theorem states them.
-/
import Derived.Test.YtegmlemejmahiaaGreatDoorTgMath
import Derived.Test.YtegmlemejmahiaaGreatDoorWhMath
namespace Go.Proofs.YtegmlemejmahiaaGreatDoor
open Go.RowKit Go.Shelf
set_option linter.unusedVariables false
set_option maxRecDepth 8000
/-- The sign by which b is farther than a. -/
def dsOk (dx dy ax ay bx b_y : Int) : Bool := goodB dx dy && goodB ax ay && goodB bx b_y
def dsN (dx dy ax ay bx b_y : Int) : Int := if dsOk dx dy ax ay bx b_y then sg (dotW dx dy ax ay bx b_y) else 0
/-- The program: p is farther than t in the direction d. -/
def alB (d p t : Int × Int) : Bool := (dsN d.1 d.2 t.1 t.2 p.1 p.2 == 1) || ((dsN d.1 d.2 t.1 t.2 p.1 p.2 == 0) && lt2 p t)
def scW (d p : Int × Int) : Int := wrap64 (wrap64 (d.1 * p.1) + wrap64 (d.2 * p.2))
def scD (d p b : Int × Int) : Int := wrap64 (scW d p - scW d b)
/-- The specification: p is farther than b in the direction d. -/
def exB (d p b : Int × Int) : Bool := decide (0 < scD d p b) || (decide (scD d p b = 0) && lt2 p b)
theorem scW_eq {d p : Int × Int} (hd : gp d) (hp : gp p) : scW d p = score d p := by
  have h1 := goodB_r hd
  have h2 := goodB_r hp
  have m1 := small_mul (x := d.1) (y := p.1) (by omega) (by omega)
  have m2 := small_mul (x := d.2) (y := p.2) (by omega) (by omega)
  unfold scW score
  rw [wrap_in (x := d.1 * p.1) (by omega) (by omega), wrap_in (x := d.2 * p.2) (by omega) (by omega), wrap_in (by omega) (by omega)]
theorem score_r {d p : Int × Int} (hd : gp d) (hp : gp p) : -32000000000000 ≤ score d p ∧ score d p ≤ 32000000000000 := by
  have h1 := goodB_r hd
  have h2 := goodB_r hp
  have m1 := small_mul (x := d.1) (y := p.1) (by omega) (by omega)
  have m2 := small_mul (x := d.2) (y := p.2) (by omega) (by omega)
  unfold score
  omega
theorem scD_eq {d p b : Int × Int} (hd : gp d) (hp : gp p) (hb : gp b) : scD d p b = score d p - score d b := by
  have r1 := score_r hd hp
  have r2 := score_r hd hb
  unfold scD
  rw [scW_eq hd hp, scW_eq hd hb, wrap_in (by omega) (by omega)]
theorem dsN_eq {d p b : Int × Int} (hd : gp d) (hp : gp p) (hb : gp b) : dsN d.1 d.2 b.1 b.2 p.1 p.2 = sg (score d p - score d b) := by
  have e : dsOk d.1 d.2 b.1 b.2 p.1 p.2 = true := by
    unfold dsOk
    rw [show goodB d.1 d.2 = true from hd, show goodB p.1 p.2 = true from hp, show goodB b.1 b.2 = true from hb]; rfl
  have h1 := goodB_r hd
  have h2 := goodB_r hp
  have h3 := goodB_r hb
  have m1 := small_mul (x := d.1) (y := p.1 - b.1) (by omega) (by omega)
  have m2 := small_mul (x := d.2) (y := p.2 - b.2) (by omega) (by omega)
  unfold dsN
  rw [if_pos e]
  congr 1
  unfold dotW
  rw [wrap_in (x := p.1 - b.1) (by omega) (by omega), wrap_in (x := p.2 - b.2) (by omega) (by omega), wrap_in (x := d.1 * (p.1 - b.1)) (by omega) (by omega), wrap_in (x := d.2 * (p.2 - b.2)) (by omega) (by omega), wrap_in (by omega) (by omega)]
  unfold score
  rw [Int.mul_sub, Int.mul_sub]; omega
theorem al_ex {d p b : Int × Int} (hd : gp d) (hp : gp p) (hb : gp b) : alB d p b = exB d p b := by
  unfold alB exB
  rw [dsN_eq hd hp hb, scD_eq hd hp hb]
  have s := sg_pos (score d p - score d b)
  congr 1
  · rw [Bool.eq_iff_iff, beq_iff_eq, decide_eq_true_iff]; exact s.1
  · congr 1
    rw [Bool.eq_iff_iff, beq_iff_eq, decide_eq_true_iff]; exact s.2.2.2
/-- Farther, or as far and less. -/
theorem exB_iff {d p b : Int × Int} (hd : gp d) (hp : gp p) (hb : gp b) : exB d p b = true ↔ score d b < score d p ∨ (score d p = score d b ∧ lt2 p b = true) := by
  unfold exB
  rw [scD_eq hd hp hb, Bool.or_eq_true, Bool.and_eq_true, decide_eq_true_iff, decide_eq_true_iff]
  refine or_congr ?_ (and_congr ?_ Iff.rfl) <;> omega
theorem lt2_trans {a b c : Int × Int} (h : lt2 a b = true) (k : lt2 b c = true) : lt2 a c = true := by
  unfold lt2 lessB at *
  rw [decide_eq_true_iff] at *
  omega
theorem ext_top {d : Int × Int} {l : List (Int × Int)} (hd : gp d) (hl : allG l) (h0 : 0 < l.length) {x : Int × Int} (hx : x ∈ l) : score d x ≤ score d (farOf (exB d) l) := by
  have hm := farOf_mem (exB d) h0
  have := farOf_top (f := exB d) (S := gp) (fun x hx => by
      cases e : exB d x x
      · rfl
      · rcases (exB_iff hd hx hx).1 e with h | ⟨_, h⟩
        · omega
        · unfold lt2 at h; rw [less_irr] at h; cases h)
    (fun x p b hx hp hb h1 h2 => by
      rw [exB_iff hd hx hp] at h1
      rw [exB_iff hd hp hb] at h2
      rw [exB_iff hd hx hb]
      rcases h1 with h1 | ⟨h1, k1⟩ <;> rcases h2 with h2 | ⟨h2, k2⟩
      · exact .inl (by omega)
      · exact .inl (by omega)
      · exact .inl (by omega)
      · exact .inr ⟨by omega, lt2_trans k1 k2⟩) h0 hl hx
  apply Classical.byContradiction
  intro hn
  rw [(exB_iff hd (hl x hx) (hl _ hm)).2 (.inl (by omega))] at this
  cases this
/-- The program: p is farther to a side than t, seen from q. -/
def tsB (q : Int × Int) (side : Int) (p t : Int × Int) : Bool := (sideN q.1 q.2 t.1 t.2 p.1 p.2 == side) || byB q p t
/-- The specification: none of a list is on a side of the way from q to p. -/
def frT (h : List (Int × Int)) (q : Int × Int) (side : Int) (p : Int × Int) (k : Nat) : Bool := !decide (ssd q p (px h k, py h k) = side)
def frB (h : List (Int × Int)) (q : Int × Int) (side : Int) (p : Int × Int) : Bool := allT (frT h q side p) h.length
/-- The program's word for it. -/
def ntT (h : List (Int × Int)) (q : Int × Int) (side : Int) (p : Int × Int) (k : Nat) : Bool := !(sideN q.1 q.2 p.1 p.2 (px h k) (py h k) == side)
def ntB (h : List (Int × Int)) (q : Int × Int) (side : Int) (p : Int × Int) : Bool := allT (ntT h q side p) h.length
theorem nt_fr {h : List (Int × Int)} {q p : Int × Int} (hA : allG h) (hq : gp q) (hp : gp p) (side : Int) : ntB h q side p = frB h q side p := by
  unfold ntB frB
  refine allT_congr fun i hi => ?_
  have hg : gp (px h i, py h i) := hA.pt hi
  unfold ntT frT ssd
  have e := sideN_eq hq hp hg
  rw [crossW_eq hq hp hg]
  show (!(sideN q.1 q.2 p.1 p.2 (px h i, py h i).1 (px h i, py h i).2 == side)) = _
  rw [e, Bool.eq_iff_iff]; simp
theorem frB_iff {h : List (Int × Int)} {q p : Int × Int} (hA : allG h) (hq : gp q) (hp : gp p) (side : Int) : frB h q side p = true ↔ ∀ x, x ∈ h → sg (sd q p x) ≠ side := by
  unfold frB
  rw [allT_iff]
  constructor
  · intro H x hx
    obtain ⟨i, hi, rfl⟩ := mem_pt hx
    have := H i hi
    unfold frT ssd at this
    have e := crossW_eq hq hp (hA.pt hi)
    simp only [Bool.not_eq_true', decide_eq_false_iff_not] at this
    intro h1
    exact this ((congrArg sg e).trans h1)
  · intro H i hi
    unfold frT ssd
    have e := crossW_eq hq hp (hA.pt hi)
    have := H _ (pt_mem hi)
    simp only [Bool.not_eq_true', decide_eq_false_iff_not]
    exact fun h1 => this ((congrArg sg e).symm.trans h1)
theorem tg_prep {h : List (Int × Int)} {q : Int × Int} (hg : ghB h = true) (hq : gp q) (hne : h ≠ []) (hw : whS h q = 0) : allG h ∧ Ring (fromL h) h ∧ ¬ InP h q := by
  have hA := ghB_all hg
  exact ⟨hA, gh_ring hg hne, fun hi => (whS_in hA hq).2 hi hw⟩
theorem tgR {h : List (Int × Int)} {q : Int × Int} (hg : ghB h = true) (hq : gp q) (hne : h ≠ []) (hw : whS h q = 0) :
    farOf (tsB q (-1)) h = (frOf (frB h q (-1)) (farB q) h).1 ∧ farOf (tsB q (-1)) h ∈ h ∧ ∀ p, p ∈ h → 0 ≤ sd q (farOf (tsB q (-1)) h) p := by
  obtain ⟨hA, hR, hn⟩ := tg_prep hg hq hne hw
  obtain ⟨d, hd⟩ := hR.out hn
  have hneq : ∀ x, x ∈ h → x ≠ q := fun x hx e => (hd x hx).ne (by rw [e]; unfold vec; simp)
  refine hR.right_same hn (fun x p hx hp => ?_) (fun x hx => ?_) (fun x p hx hp => ?_)
  · unfold tsB RtR Beh
    rw [Bool.or_eq_true, sideN_eq hq (hA p hp) (hA x hx), byB_eq hq (hA x hx) (hA p hp) (hneq x hx), decide_eq_true_iff]
    have s := sg_pos (sd q p x)
    refine or_congr ?_ Iff.rfl
    rw [beq_iff_eq]
    unfold sg at *
    split <;> (try split) <;> omega
  · rw [frB_iff hA hq (hA x hx)]
    refine forall_congr' fun p => imp_congr_right fun _ => ?_
    unfold sg
    split <;> (try split) <;> omega
  · rw [farB_eq hq (hA x hx) (hA p hp), decide_eq_true_iff]; rfl
theorem tgL {h : List (Int × Int)} {q : Int × Int} (hg : ghB h = true) (hq : gp q) (hne : h ≠ []) (hw : whS h q = 0) :
    farOf (tsB q 1) h = (frOf (frB h q 1) (farB q) h).1 ∧ farOf (tsB q 1) h ∈ h ∧ ∀ p, p ∈ h → sd q (farOf (tsB q 1) h) p ≤ 0 := by
  obtain ⟨hA, hR, hn⟩ := tg_prep hg hq hne hw
  obtain ⟨d, hd⟩ := hR.out hn
  have hneq : ∀ x, x ∈ h → x ≠ q := fun x hx e => (hd x hx).ne (by rw [e]; unfold vec; simp)
  refine hR.left_same hn (fun x p hx hp => ?_) (fun x hx => ?_) (fun x p hx hp => ?_)
  · unfold tsB RtL Beh
    rw [Bool.or_eq_true, sideN_eq hq (hA p hp) (hA x hx), byB_eq hq (hA x hx) (hA p hp) (hneq x hx), decide_eq_true_iff]
    refine or_congr ?_ Iff.rfl
    rw [beq_iff_eq]
    unfold sg
    split <;> (try split) <;> omega
  · rw [frB_iff hA hq (hA x hx)]
    refine forall_congr' fun p => imp_congr_right fun _ => ?_
    unfold sg
    split <;> (try split) <;> omega
  · rw [farB_eq hq (hA x hx) (hA p hp), decide_eq_true_iff]; rfl
/-- What ExtremeOf and SupportOf tell. -/
def exOk (l : List (Int × Int)) (x y : Int) : Bool := ghB l && !decide (l.length = 0) && goodB x y && !(decide (x = 0) && decide (y = 0))
def exP (l : List (Int × Int)) (x y : Int) : Int × Int := if exOk l x y = true then farOf (exB (x, y)) l else (0, 0)
def suV (l : List (Int × Int)) (x y : Int) : Int := if exOk l x y = true then scW (x, y) (farOf (exB (x, y)) l) else 0
/-- What TangentsFrom and IsTangent tell. -/
def tgOk (l : List (Int × Int)) (x y : Int) : Bool := ghB l && !decide (l.length = 0) && goodB x y && decide (whS l (x, y) = 0)
def tgA (l : List (Int × Int)) (x y side : Int) : Int × Int := if tgOk l x y = true then (frOf (frB l (x, y) side) (farB (x, y)) l).1 else (0, 0)
def itOk (l : List (Int × Int)) (x y u v : Int) : Bool := tgOk l x y && decide ((u, v) ∈ l)
def itB (l : List (Int × Int)) (x y u v : Int) : Bool := itOk l x y u v && (frB l (x, y) (-1) (u, v) || frB l (x, y) 1 (u, v))
theorem exOk_parts {l : List (Int × Int)} {x y : Int} (h : exOk l x y = true) : ghB l = true ∧ l ≠ [] ∧ 0 < l.length ∧ goodB x y = true := by
  unfold exOk at h
  rw [Bool.and_eq_true, Bool.and_eq_true, Bool.and_eq_true] at h
  obtain ⟨⟨⟨h1, h2⟩, h3⟩, _⟩ := h
  have h4 : 0 < l.length := by simpa using Nat.pos_of_ne_zero (by simpa using h2)
  exact ⟨h1, List.ne_nil_of_length_pos h4, h4, h3⟩
theorem tgOk_parts {l : List (Int × Int)} {x y : Int} (h : tgOk l x y = true) : ghB l = true ∧ l ≠ [] ∧ 0 < l.length ∧ goodB x y = true ∧ whS l (x, y) = 0 := by
  unfold tgOk at h
  rw [Bool.and_eq_true, Bool.and_eq_true, Bool.and_eq_true] at h
  obtain ⟨⟨⟨h1, h2⟩, h3⟩, h5⟩ := h
  have h4 : 0 < l.length := by simpa using Nat.pos_of_ne_zero (by simpa using h2)
  exact ⟨h1, List.ne_nil_of_length_pos h4, h4, h3, of_decide_eq_true h5⟩
theorem ex_same {l : List (Int × Int)} {x y : Int} (h : exOk l x y = true) : farOf (alB (x, y)) l = farOf (exB (x, y)) l := by
  obtain ⟨h1, _, h2, h3⟩ := exOk_parts h
  exact farOf_congr (S := gp) (fun p b hp hb => al_ex (d := (x, y)) h3 hp hb) (ghB_all h1) h2
end Go.Proofs.YtegmlemejmahiaaGreatDoor
