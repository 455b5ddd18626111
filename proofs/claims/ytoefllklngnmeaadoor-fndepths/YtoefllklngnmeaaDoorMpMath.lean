/-
  A map of points: which points it has (a word for the walks).
  Conditions: as each theorem states them.
-/
import Derived.Maps.OwnSet
import Derived.Maps.RangeWalk
import Derived.DeepKeys4
import Derived.Test.YtoefllklngnmeaaDoorSrtAll
namespace Go.Proofs.YtoefllklngnmeaaDoor
open Go.RowKit Go.Shelf
set_option linter.unusedVariables false
set_option maxRecDepth 8000
/-- What a point reads as, as a key. -/
def klP (p : Int × Int) : Lit := .string (keyBytes [.int .i64 p.1, .int .i64 p.2])
theorem rowPt : (30 : TypeId) < Tryd.prog.types.size := of_decide_eq_true (by kernel_rfl)
theorem widePt : (match Tryd.prog.underlying 30 with | some (.array _ _) | some (.struct _) => true | _ => false) = true := by rw [Tryd.underlying30]
theorem laidPt : laidOutB Tryd.prog = true := by kernel_rfl
theorem lawPt : Go.Maps.Keyed Tryd.prog 30 := Go.Maps.Keyed.of_law (deep_law_laid laidPt (m := 2) (by omega) rowPt (by kernel_rfl) widePt)
theorem keyTypePt : Tryd.prog.keyType 30 = true := by kernel_rfl
theorem cellsOfI : Tryd.prog.cellsOf 3 = 1 := by kernel_rfl
theorem lits_int {m : Nat} {v : Value} {ls : List Lit} (h : Tryd.prog.keyLits (m + 1) 3 [v] = some ls) : ∃ x : Int, v = .int .i64 x ∧ ls = [.int .i64 x] := by
  unfold Program.keyLits at h
  rw [Tryd.underlying3] at h
  cases v <;> simp at h
  obtain ⟨⟨rfl, _⟩, rfl⟩ := h
  exact ⟨_, rfl, rfl⟩
theorem lits_mk {m : Nat} {x : Int} (h : (Lit.int .i64 x).wf = true) : Tryd.prog.keyLits (m + 1) 3 [.int .i64 x] = some [.int .i64 x] := by
  unfold Program.keyLits
  rw [Tryd.underlying3]
  simp [h]
theorem sizeTy : ∃ m, Tryd.prog.types.size = m + 1 := ⟨Tryd.prog.types.size - 1, by have h : (30 : Nat) < Tryd.prog.types.size := rowPt; omega⟩
theorem lits_pt {m : Nat} {a b : Value} {la lb : List Lit} (h1 : Tryd.prog.keyLits (m + 1) 3 [a] = some la) (h2 : Tryd.prog.keyLits (m + 1) 3 [b] = some lb) : Tryd.prog.keyLits (m + 1 + 1) 30 [a, b] = some (la ++ lb) := by
  unfold Program.keyLits
  rw [Tryd.underlying30]
  simp only [cells_pt, List.length_cons, List.length_nil]
  simp [cellsOfI, h1, h2]
theorem keyOf_pt {x y : Int} (hx : (Lit.int .i64 x).wf = true) (hy : (Lit.int .i64 y).wf = true) : keyOf Tryd.prog 30 (.agg #[.int .i64 x, .int .i64 y]) = some (klP (x, y)) := by
  obtain ⟨m, hm⟩ := sizeTy
  unfold keyOf
  rw [Tryd.underlying30, hm]
  simp only [keyTypePt, Value.formed, Tryd.underlying30, cells_pt, Value.cells]
  rw [lits_pt (lits_mk hx) (lits_mk hy)]
  rfl
theorem keyOf_pt_inv {key : Value} {kl : Lit} (h : keyOf Tryd.prog 30 key = some kl) : ∃ x y : Int, key = .agg #[.int .i64 x, .int .i64 y] ∧ kl = klP (x, y) := by
  obtain ⟨m, hm⟩ := sizeTy
  unfold keyOf at h
  rw [Tryd.underlying30, hm] at h
  simp only [keyTypePt, Bool.true_and] at h
  split at h
  · next hf =>
    cases key <;> simp [Value.formed, Tryd.underlying30] at hf
    rename_i cs
    rw [cells_pt] at hf
    obtain ⟨a, b, rfl⟩ : ∃ a b, cs = #[a, b] := by
      rcases cs with ⟨l⟩
      match l, hf with
      | [a, b], _ => exact ⟨a, b, rfl⟩
    simp only [Value.cells] at h
    cases h1 : Tryd.prog.keyLits (m + 1) 3 [a] with
    | none =>
      unfold Program.keyLits at h
      rw [Tryd.underlying30] at h
      simp [cells_pt, cellsOfI, h1] at h
    | some la =>
      cases h2 : Tryd.prog.keyLits (m + 1) 3 [b] with
      | none =>
        unfold Program.keyLits at h
        rw [Tryd.underlying30] at h
        simp [cells_pt, cellsOfI, h1, h2] at h
      | some lb =>
        rw [lits_pt h1 h2] at h
        obtain ⟨x, rfl, rfl⟩ := lits_int h1
        obtain ⟨y, rfl, rfl⟩ := lits_int h2
        simp at h
        exact ⟨x, y, rfl, h.symm⟩
  · cases h
theorem gp_wf {p : Int × Int} (h : gp p) : (Lit.int .i64 p.1).wf = true ∧ (Lit.int .i64 p.2).wf = true := by
  have := gp_r h
  exact ⟨WalkArith.wf_i64 (by omega), WalkArith.wf_i64 (by omega)⟩
theorem keyOf_gp {p : Int × Int} (h : gp p) : keyOf Tryd.prog 30 (.agg #[.int .i64 p.1, .int .i64 p.2]) = some (klP p) := keyOf_pt (gp_wf h).1 (gp_wf h).2
theorem klP_key (p : Int × Int) : WideAt.IsKeyLit (klP p) := trivial
theorem klP_inj {p q : Int × Int} (hp : gp p) (hq : gp q) (h : klP p = klP q) : p = q := by
  have h1 := keyOf_gp hp
  rw [h] at h1
  have := lawPt.inj h1 (keyOf_gp hq)
  simp at this
  exact Prod.ext this.1 this.2
/-- Block b is a map that has just the points of s (at most n entries were ever there). -/
structure PM (w : World) (b n : Nat) (s : List (Int × Int)) (D : DataW Unit) : Prop where
  own : w.ownsMap Tryd.prog 30 unitElem b n D
  has : ∀ kl, Go.Maps.has D kl = true ↔ ∃ p ∈ s, klP p = kl
  size : Go.Maps.size D = s.length
  good : allG s
theorem PM.lt {w : World} {b n : Nat} {s : List (Int × Int)} {D : DataW Unit} (h : PM w b n s D) : b < w.heap.size := h.own.lt
theorem PM.kept {w w' : World} {b n : Nat} {s : List (Int × Int)} {D : DataW Unit} {row : Option Nat} (h : PM w b n s D) (hg : w.grownBy w' row) (hne : some b ≠ row) : PM w' b n s D := ⟨h.own.kept hg hne, h.has, h.size, h.good⟩
theorem PM.later {w w' : World} {b n N : Nat} {s : List (Int × Int)} {D : DataW Unit} (h : PM w b n s D) (hb : Below N w w') (hN : b < N) : PM w' b n s D := by
  refine ⟨?_, h.has, h.size, h.good⟩
  obtain ⟨es, clock, hbk, F, hs, hD⟩ := h.own
  exact ⟨es, clock, (hb.block b hN).trans hbk, F, hs, hD⟩
theorem PM.mem {w : World} {b n : Nat} {s : List (Int × Int)} {D : DataW Unit} (h : PM w b n s D) {p : Int × Int} (hp : gp p) : Go.Maps.has D (klP p) = decide (p ∈ s) := by
  rw [Bool.eq_iff_iff, h.has, decide_eq_true_iff]
  constructor
  · rintro ⟨q, hq, e⟩
    rw [← klP_inj (h.good q hq) hp e]; exact hq
  · exact fun h => ⟨p, h, rfl⟩
theorem PM.made (w : World) : PM (w.alloc (.map #[] 0)) w.heap.size 0 [] (.map []) :=
  ⟨World.ownsMap_made _ _ _ _, fun kl => by simp [Go.Maps.has], rfl, fun p hp => by cases hp⟩
theorem PM.put {w w' : World} {b n : Nat} {s : List (Int × Int)} {D : DataW Unit} {p : Int × Int} (h : PM w b n s D) (hp : p ∉ s) (hg : gp p) (ho : w'.ownsMap Tryd.prog 30 unitElem b (n + 1) (D.put (klP p) (.agg []))) : PM w' b (n + 1) (s ++ [p]) (D.put (klP p) (.agg [])) := by
  have hno : Go.Maps.has D (klP p) = false := by rw [h.mem hg]; exact decide_eq_false hp
  refine ⟨ho, fun kl => ?_, ?_, fun q hq => ?_⟩
  · by_cases e : kl = klP p
    · subst e
      rw [Go.Maps.has_put_same h.own.isMap (klP_key p)]
      simp
    · rw [Go.Maps.has_put_other e, h.has]
      constructor
      · rintro ⟨q, hq, e'⟩; exact ⟨q, List.mem_append_left _ hq, e'⟩
      · rintro ⟨q, hq, e'⟩
        rcases List.mem_append.1 hq with h1 | h1
        · exact ⟨q, h1, e'⟩
        · simp at h1; subst h1; exact absurd e'.symm e
  · rw [Go.Maps.size_put (h.own.tidy lawPt), hno]
    simp [h.size]
  · rcases List.mem_append.1 hq with h1 | h1
    · exact h.good q h1
    · simp at h1; subst h1; exact hg
theorem PM.del {w w' : World} {b n : Nat} {A B : List (Int × Int)} {D : DataW Unit} {p : Int × Int} (h : PM w b n (A ++ p :: B) D) (hd : (A ++ p :: B).Nodup) (ho : w'.ownsMap Tryd.prog 30 unitElem b n (D.del (klP p))) : PM w' b n (A ++ B) (D.del (klP p)) := by
  have hg : gp p := h.good p (by simp)
  have hin : p ∉ A ++ B := by
    have h1 := List.nodup_append.1 hd
    have h2 := List.nodup_cons.1 h1.2.1
    intro hm
    rcases List.mem_append.1 hm with k | k
    · exact h1.2.2 p k p (by simp) rfl
    · exact h2.1 k
  have hyes : Go.Maps.has D (klP p) = true := (h.has _).2 ⟨p, by simp, rfl⟩
  refine ⟨ho, fun kl => ?_, ?_, fun q hq => h.good q ?_⟩
  · by_cases e : kl = klP p
    · subst e
      rw [Go.Maps.has_del_same]
      constructor
      · intro k; cases k
      · rintro ⟨q, hq, e'⟩
        have : q = p := klP_inj (h.good q (by rcases List.mem_append.1 hq with k | k <;> simp [k])) hg e'
        exact absurd (this ▸ hq) hin
    · rw [Go.Maps.has_del_other e, h.has]
      constructor
      · rintro ⟨q, hq, e'⟩
        refine ⟨q, ?_, e'⟩
        rcases List.mem_append.1 hq with k | k
        · exact List.mem_append_left _ k
        · rcases List.mem_cons.1 k with rfl | k
          · exact absurd e'.symm e
          · exact List.mem_append_right _ k
      · rintro ⟨q, hq, e'⟩
        refine ⟨q, ?_, e'⟩
        rcases List.mem_append.1 hq with k | k <;> simp [k]
  · have hs := Go.Maps.size_del (h.own.tidy lawPt) (k := klP p)
    rw [hyes, h.size] at hs
    simp at hs ⊢
    omega
  · rcases List.mem_append.1 hq with k | k <;> simp [k]
/-- What a range over the map has met. -/
def Coll (s : List (Int × Int)) (left : Lit → Bool) (l : List (Int × Int)) : Prop := l.Nodup ∧ ∀ p, p ∈ l ↔ p ∈ s ∧ left (klP p) = false
theorem Coll.start {w : World} {b n : Nat} {s : List (Int × Int)} {D : DataW Unit} (h : PM w b n s D) : Coll s (Go.Maps.has D) [] :=
  ⟨List.nodup_nil, fun p => by
    constructor
    · intro k; cases k
    · rintro ⟨k, e⟩
      rw [(h.has _).2 ⟨p, k, rfl⟩] at e
      cases e⟩
theorem Coll.step {w : World} {b n : Nat} {s : List (Int × Int)} {D : DataW Unit} {left : Lit → Bool} {l : List (Int × Int)} {x y : Int} {kl : Lit} {d : DataW Unit} (h : PM w b n s D) (hC : Coll s left l) (hk : keyOf Tryd.prog 30 (.agg #[.int .i64 x, .int .i64 y]) = some kl) (hl : left kl = true) (ha : ∀ zd, D.atKey kl zd = d) :
    Coll s (fun z => left z && !z.sameKey kl) (l ++ [(x, y)]) ∧ (x, y) ∈ s := by
  obtain ⟨p, hp, e⟩ := (h.has kl).1 (Go.Maps.has_true_of_atKey ha)
  have hpk := keyOf_gp (h.good p hp)
  rw [e] at hpk
  have hpe := lawPt.inj hpk hk
  simp at hpe
  obtain rfl : p = (x, y) := Prod.ext hpe.1 hpe.2
  refine ⟨⟨?_, fun q => ?_⟩, hp⟩
  · refine List.nodup_append.2 ⟨hC.1, by simp, fun a ha' b hb => ?_⟩
    simp at hb
    subst hb
    intro e'
    subst e'
    have := ((hC.2 _).1 ha').2
    rw [e, hl] at this
    cases this
  · by_cases hq : q = (x, y)
    · subst hq
      constructor
      · intro _
        refine ⟨hp, ?_⟩
        show (left (klP (x, y)) && !(klP (x, y)).sameKey kl) = false
        rw [e, WideAt.sameKey_self (by rw [← e]; exact klP_key _)]
        simp
      · intro _; simp
    · constructor
      · intro k
        rcases List.mem_append.1 k with k | k
        · obtain ⟨k1, k2⟩ := (hC.2 q).1 k
          exact ⟨k1, by show (left (klP q) && !(klP q).sameKey kl) = false; rw [k2]; rfl⟩
        · simp at k; exact absurd k hq
      · rintro ⟨k1, k2⟩
        refine List.mem_append_left _ ((hC.2 q).2 ⟨k1, ?_⟩)
        replace k2 : (left (klP q) && !(klP q).sameKey kl) = false := k2
        rw [Go.Maps.sameKey_ne (fun e' => hq (klP_inj (h.good q k1) (h.good _ hp) (e'.trans e.symm)))] at k2
        simpa using k2
theorem Coll.perm {s l : List (Int × Int)} {left : Lit → Bool} (hC : Coll s left l) (hs : s.Pairwise Lx) (h0 : ∀ kl, left kl = false) : l.Perm s :=
  (List.perm_ext_iff_of_nodup hC.1 (hs.imp fun k => k.ne)).2 fun p => by rw [hC.2, h0]; simp
end Go.Proofs.YtoefllklngnmeaaDoor
