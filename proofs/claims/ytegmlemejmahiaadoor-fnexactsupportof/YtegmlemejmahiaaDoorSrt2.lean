/-
  Three points in order (contracts for the walks).
  Conditions: as each theorem states them.
-/
import Derived.Test.YtegmlemejmahiaaDoorSrt
namespace Go.Proofs.YtegmlemejmahiaaDoor
open Go.RowKit Go.Shelf Go.Sort
set_option linter.unusedVariables false
def enc3 (p : Int × Int) : List Value := [.int .i64 p.1, .int .i64 p.2]
theorem cmpLays (blk off size : Nat) (w : World) : CmpLays Tryd.prog 115 #[] enc3 2 cmpP blk off size w := fun _ _ _ _ x y => comparePoints_c x.1 x.2 y.1 y.2 _
theorem bitsLen_c (n : Nat) (W : World) (h : n ≤ 12) : Calls Tryd.prog 117 #[.int .u64 n] W fun e w' => (∃ l : Int, e = .returned (.int .i64 l)) ∧ w' = W :=
  (Any.bits_Len Tryd.bitsLen2 n W (by omega) (by omega)).mono fun _ _ ⟨he, hw⟩ => ⟨⟨_, he⟩, hw⟩
theorem sort3_c (p0 p1 p2 : Int × Int) (g : Nat) (w : World) (hH : HoldsK enc3 2 w g 0 #[p0, p1, p2]) (hg : g < w.heap.size) :
    Calls Tryd.prog 114 #[.slice (some ⟨g, 0, none⟩) 3 3, .func (.func 115) #[] #[]] w fun e w' => e = .returned (.tuple #[]) ∧ ∃ n os, w' = sortWorldK enc3 2 w g 0 n (Sort.insertionSort (ltOf cmpP) #[p0, p1, p2] 0 3) os := by
  have eg : ∀ args w, (callFunc 115 args).run Tryd.prog w = .ok (.enter 115 args) w := enters_of Tryd.func115 (by kernel_rfl) rfl
  have hcon := AnyQ.slices_SortFunc_small Tryd.sortP 2 Tryd.isAgg26 Tryd.sizeOf26 enc3 (fun _ => rfl) (fun x v hv => by simp [enc3] at hv; rcases hv with rfl | rfl <;> rfl) cmpP 115 #[] g 0 3 #[p0, p1, p2] w eg (cmpLays g 0 _ w) hH hg (by simp) bitsLen_c
  exact hcon
def srt2 (a b : Int × Int) : (Int × Int) × (Int × Int) := if ltOf cmpP b a then (b, a) else (a, b)
def srt3 (a b c : Int × Int) : (Int × Int) × (Int × Int) × (Int × Int) :=
  if ltOf cmpP c (srt2 a b).2 then (if ltOf cmpP c (srt2 a b).1 then (c, (srt2 a b).1, (srt2 a b).2) else ((srt2 a b).1, c, (srt2 a b).2)) else ((srt2 a b).1, (srt2 a b).2, c)
theorem ins3 (a b c : Int × Int) : Sort.insertionSort (ltOf cmpP) #[a, b, c] 0 3 = #[(srt3 a b c).1, (srt3 a b c).2.1, (srt3 a b c).2.2] := by
  unfold srt3 srt2 Sort.insertionSort
  rw [insOuter, insOuter, insOuter]
  cases h1 : ltOf cmpP b a
  · cases h2 : ltOf cmpP c b
    · simp [insInner, h1, h2]
    · cases h3 : ltOf cmpP c a
      · simp [insInner, h1, h2, h3, swp]
      · simp [insInner, h1, h2, h3, swp]
  · cases h2 : ltOf cmpP c a
    · simp [insInner, h1, h2, swp]
    · cases h3 : ltOf cmpP c b
      · simp [insInner, h1, h2, h3, swp]
      · simp [insInner, h1, h2, h3, swp]
/-- What a sort of three points leaves: they lie in order at their block; all other blocks are as they were. -/
structure Sorted3 (r : (Int × Int) × (Int × Int) × (Int × Int)) (g : Nat) (w w' : World) : Prop where
  os : w'.os = w.os
  tape : w'.tape = w.tape
  output : w'.output = w.output
  size : w.heap.size ≤ w'.heap.size
  block : ∀ k, k < w.heap.size → k ≠ g → w'.heap[k]? = w.heap[k]?
  c0 : w'.cell? ⟨g, 0, none⟩ = some (.int .i64 r.1.1)
  c1 : w'.cell? ⟨g, 1, none⟩ = some (.int .i64 r.1.2)
  c2 : w'.cell? ⟨g, 2, none⟩ = some (.int .i64 r.2.1.1)
  c3 : w'.cell? ⟨g, 3, none⟩ = some (.int .i64 r.2.1.2)
  c4 : w'.cell? ⟨g, 4, none⟩ = some (.int .i64 r.2.2.1)
  c5 : w'.cell? ⟨g, 5, none⟩ = some (.int .i64 r.2.2.2)
theorem sort3_e (p0 p1 p2 : Int × Int) (g : Nat) (w : World) (hH : HoldsK enc3 2 w g 0 #[p0, p1, p2]) (hg : g < w.heap.size) :
    Calls Tryd.prog 114 #[.slice (some ⟨g, 0, none⟩) 3 3, .func (.func 115) #[] #[]] w fun e w' => e = .returned (.tuple #[]) ∧ Sorted3 (srt3 p0 p1 p2) g w w' := by
  refine (sort3_c p0 p1 p2 g w hH hg).mono ?_
  rintro e w' ⟨rfl, n, os, rfl⟩
  rw [ins3]
  have hk := holdsK_sortWorldK_c enc3 2 w g 0 #[p0, p1, p2] #[(srt3 p0 p1 p2).1, (srt3 p0 p1 p2).2.1, (srt3 p0 p1 p2).2.2] n os hH hg rfl
  refine ⟨rfl, rfl, rfl, rfl, size_sortWorldK_c _ _ _ _ _ _ _ _, fun k hk hkg => ?_, ?_, ?_, ?_, ?_, ?_, ?_⟩
  · unfold sortWorldK putRowK putRow mapBlock
    show (Array.modify w.heap g _ ++ os)[k]? = _
    rw [Array.getElem?_append_left (by simpa using hk), Array.getElem?_modify, if_neg (fun e => hkg e.symm)]
  · exact (hk.cell (i := 0) (c := 0) (by simp) (by omega)).1
  · exact (hk.cell (i := 0) (c := 1) (by simp) (by omega)).1
  · exact (hk.cell (i := 1) (c := 0) (by simp) (by omega)).1
  · exact (hk.cell (i := 1) (c := 1) (by simp) (by omega)).1
  · exact (hk.cell (i := 2) (c := 0) (by simp) (by omega)).1
  · exact (hk.cell (i := 2) (c := 1) (by simp) (by omega)).1
end Go.Proofs.YtegmlemejmahiaaDoor
