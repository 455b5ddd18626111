/-
  Points sorted, however many they are (a contract for the walks).
  Conditions: as each theorem states them.
-/
import Derived.Shelf.SlSortCmp.WholeK
import Derived.Test.YtoefllklngnmeaaDoorLyMath
namespace Go.Proofs.YtoefllklngnmeaaDoor
open Go.RowKit Go.Shelf Go.Sort
set_option linter.unusedVariables false
theorem lex_lx (p q : Int × Int) : Lex p q ↔ Lx p q := (less_lex p q).symm
theorem swoP : SWO (ltOf cmpP) where
  irrefl x := by
    cases h : ltOf cmpP x x
    · rfl
    · exact absurd ((lt_lex x x).1 h) (by unfold Lex; omega)
  trans x y z h1 h2 := (lt_lex x z).2 (by
    have a := (lt_lex x y).1 h1
    have b := (lt_lex y z).1 h2
    unfold Lex at *; omega)
  ntrans x y z h1 h2 := by
    cases h : ltOf cmpP x z
    · rfl
    · exfalso
      have c := (lt_lex x z).1 h
      have a : ¬ Lex x y := fun k => by rw [(lt_lex x y).2 k] at h1; cases h1
      have b : ¬ Lex y z := fun k => by rw [(lt_lex y z).2 k] at h2; cases h2
      unfold Lex at *; omega
theorem heap_lt9 {w : World} {g : Nat} {o : Obj} (h : w.heap[g]? = some o) : g < w.heap.size := (Array.getElem?_eq_some_iff.1 h).1
theorem sortAll_c (d : Array (Int × Int)) (g cap : Nat) (w : World) (hH : HoldsK enc3 2 w g 0 d) (hg : g < w.heap.size) (hsz : d.size < 4611686018427387904) :
    Calls Tryd.prog 72 #[.slice (some ⟨g, 0, none⟩) d.size cap, .func (.func 73) #[] #[]] w fun e w' => e = .returned (.tuple #[]) ∧ ∃ d' n os, PermIn 0 d.size d d' ∧ SortedIn (ltOf cmpP) 0 d.size d' ∧ w' = sortWorldK enc3 2 w g 0 n d' os := by
  have eg : ∀ args w, (callFunc 73 args).run Tryd.prog w = .ok (.enter 73 args) w := enters_of Tryd.func73 (by kernel_rfl) rfl
  have hcon := AnyQ.slices_SortFunc Tryd.sortP 2 Tryd.isAgg30 Tryd.sizeOf30 enc3 (fun _ => rfl) (fun x v hv => by simp [enc3] at hv; rcases hv with rfl | rfl <;> rfl) cmpP swoP 73 #[] g 0 cap d w eg (cmpLays g 0 _ w) hH hg hsz
  exact hcon
theorem own_holds {N g n cap : Nat} {l : List (Int × Int)} {w : World} (h : Own N (.slice (some ⟨g, 0, none⟩) n cap) l w) : HoldsK enc3 2 w g 0 l.toArray := by
  rcases h with ⟨rfl, e⟩ | ⟨g', c', f, e, h1, h2, h3, ⟨cc, k1, k2, k3⟩, h5⟩
  · simp at e
  · simp at e
    obtain ⟨rfl, rfl, rfl⟩ := e
    intro j hj
    have hj2 : j < l.length * 2 := by simpa using hj
    unfold World.cell? World.frozen?
    rw [k1, get_flatK _ _ _ j (by simpa using hj2)]
    refine ⟨?_, by simp⟩
    have hc := k3 j (by omega)
    rw [h5 j hj2] at hc
    simp only [Nat.zero_add, Option.isSome_none, Bool.false_eq_true, if_false]
    rw [hc]
    have hi : j / 2 < l.length := by omega
    have e1 : (l.toArray)[j / 2]! = (px l (j / 2), py l (j / 2)) := by
      rw [getElem!_pos _ _ (by simpa using hi)]
      simp [px, py, hi]
    rw [e1]
    unfold cel
    rcases Nat.mod_two_eq_zero_or_one j with h0 | h0
    · rw [h0]; rfl
    · rw [h0]; rfl
theorem sort_grown {g n : Nat} {w : World} {d : Array (Int × Int)} {os : Array Obj} : w.grownBy (sortWorldK enc3 2 w g 0 n d os) (some g) := by
  refine ⟨rfl, rfl, rfl, size_sortWorldK_c _ _ _ _ _ _ _ _, fun k hk hne => ?_⟩
  have hkg : k ≠ g := fun e => hne (by rw [e])
  unfold sortWorldK putRowK putRow mapBlock
  show (Array.modify w.heap g _ ++ os)[k]? = _
  rw [Array.getElem?_append_left (by simpa using hk), Array.getElem?_modify, if_neg (fun e => hkg e.symm)]
theorem sort_block {g n : Nat} {w : World} {d : Array (Int × Int)} {os : Array Obj} {cc : Array Value} {t : TypeId} (h : w.heap[g]? = some (.cells cc t (0, 0))) :
    ∃ c2, (sortWorldK enc3 2 w g 0 n d os).heap[g]? = some (.cells c2 t (0, 0)) ∧ c2.size = cc.size := by
  have hg : g < w.heap.size := (Array.getElem?_eq_some_iff.1 h).1
  refine ⟨putCells id 0 (flatK enc3 2 d) cc, ?_, ?_⟩
  · unfold sortWorldK putRowK putRow mapBlock
    show (Array.modify w.heap g _ ++ os)[g]? = _
    rw [Array.getElem?_append_left (by simpa using hg), Array.getElem?_modify, if_pos rfl, h]
    simp [onCells]
  · simp [putCells]
theorem sorted_rise {d d' : Array (Int × Int)} {s : List (Int × Int)} (hP : PermIn 0 d.size d d') (hS : SortedIn (ltOf cmpP) 0 d.size d') (hs : s.Pairwise Lx) (hp : d.toList.Perm s) : d'.toList = s := by
  obtain ⟨p1, p2, p3⟩ := hP
  have e1 : (d'.extract 0 d.size).toList = d'.toList := by rw [← p1]; simp
  have e2 : (d.extract 0 d.size).toList = d.toList := by simp
  rw [e1, e2] at p3
  have hps : d'.toList.Perm s := p3.trans hp
  have hnd : d'.toList.Nodup := (hps.nodup_iff).2 (hs.imp fun k => k.ne)
  refine rise_one (List.pairwise_iff_getElem.2 fun i j hi hj hij => ?_) hs fun p => hps.mem_iff
  have hj' : j < d'.size := by simpa using hj
  have hi' : i < d'.size := by simpa using hi
  have := hS i j (Nat.zero_le _) hij (by omega)
  rw [getElem!_pos d' j hj', getElem!_pos d' i hi'] at this
  have hn : ¬ Lex d'[j] d'[i] := fun k => by rw [(lt_lex _ _).2 k] at this; cases this
  have hne : d'[i] ≠ d'[j] := fun e => by
    have := (List.nodup_iff_pairwise_ne.1 hnd)
    exact List.pairwise_iff_getElem.1 this i j hi hj hij (by simpa using e)
  rcases lex_cases hne with h | h
  · simpa using (lex_lx _ _).1 h
  · exact absurd h hn
/-- A slice of the call's own is sorted: it holds the set of its points. -/
theorem sortOwn_c (N g n cap : Nat) (l s : List (Int × Int)) (w : World) (hO : Own N (.slice (some ⟨g, 0, none⟩) n cap) l w) (h1 : n ≤ 1048576) (hs : s.Pairwise Lx) (hp : l.Perm s) :
    Calls Tryd.prog 72 #[.slice (some ⟨g, 0, none⟩) n cap, .func (.func 73) #[] #[]] w fun e w' => e = .returned (.tuple #[]) ∧ Own N (.slice (some ⟨g, 0, none⟩) n cap) s w' ∧ w.grownBy w' (some g) := by
  have hlen := hO.len
  have hH := own_holds hO
  have hsl : s.length = n := by rw [← hp.length_eq]; exact hlen
  rcases hO with ⟨_, e⟩ | ⟨g', c', f, e, k1, k2, k3, ⟨cc, q1, q2, q3⟩, k5⟩
  · simp at e
  · simp at e
    obtain ⟨rfl, rfl, rfl⟩ := e
    have hg := heap_lt9 q1
    have hc := sortAll_c l.toArray g cap w hH hg (by simp; omega)
    simp only [List.size_toArray] at hc
    refine hc.mono ?_
    rintro e w' ⟨rfl, d', m, os, hP, hS, rfl⟩
    have hP' : PermIn 0 l.toArray.size l.toArray d' := by simpa using hP
    have hS' : SortedIn (ltOf cmpP) 0 l.toArray.size d' := by simpa using hS
    have hd : d'.toList = s := sorted_rise hP' hS' hs (by simpa using hp)
    have hsz : d'.size = l.length := by simpa using hP'.1
    refine ⟨rfl, ?_, sort_grown⟩
    obtain ⟨c2, r1, r2⟩ := sort_block (n := m) (d := d') (os := os) q1
    have hk := holdsK_sortWorldK_c enc3 2 w g 0 l.toArray d' m os hH hg (by simpa using hsz)
    refine .inr ⟨g, cap, fun i => (c2[i]?).getD undef, by rw [hsl], k1, by omega, k3, ⟨c2, r1, by omega, fun i hi => ?_⟩, fun i hi => ?_⟩
    · show c2[i]? = some ((c2[i]?).getD undef)
      rw [Array.getElem?_eq_getElem (by omega)]; rfl
    · have hi2 : i / 2 < d'.size := by omega
      have hc2 := (hk.cell (i := i / 2) (c := i % 2) hi2 (by omega)).1
      rw [show 0 + i / 2 * 2 + i % 2 = i from by omega] at hc2
      unfold World.cell? at hc2
      rw [r1] at hc2
      simp only [Option.isSome_none, Bool.false_eq_true, if_false] at hc2
      show (c2[i]?).getD undef = cel s i
      rw [hc2]
      have e1 : d'[i / 2]! = (px s (i / 2), py s (i / 2)) := by
        rw [getElem!_pos d' (i / 2) hi2, ← hd]
        simp [px, py, hi2]
      rw [e1]
      unfold cel
      rcases Nat.mod_two_eq_zero_or_one i with h0 | h0
      · rw [h0]; rfl
      · rw [h0]; rfl
end Go.Proofs.YtoefllklngnmeaaDoor
