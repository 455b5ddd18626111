/-
  Sums by number: the program's sumOf over any function that is handed in with one box (contracts for the walks).
  Conditions: as each theorem states them.
-/
import Derived.Test.YtohcllojjmhbcaaDoorArMath
import Derived.Test.YtohcllojjmhbcaaDoorHGood
import Derived.Test.YtohcllojjmhbcaaDoorNxt
import Derived.Deep.DeepCutAuto
namespace Go.Proofs.YtohcllojjmhbcaaDoor
open Go.RowKit Go.Shelf
set_option linter.unusedVariables false
set_option maxRecDepth 8000
/-- A box that holds one value. -/
def BoxV (W : World) (B : Nat) (v : Value) (t : Nat) : Prop := W.heap[B]? = some (.cells #[v] t (0, 0))
theorem BoxV.c0 {W : World} {B t : Nat} {v : Value} (h : BoxV W B v t) : W.cell? ⟨B, 0, none⟩ = some v := by simp [World.cell?, show W.heap[B]? = _ from h]
theorem BoxV.lt {W : World} {B t : Nat} {v : Value} (h : BoxV W B v t) : B < W.heap.size := (Array.getElem?_eq_some_iff.1 h).1
theorem BoxV.later {W W' : World} {B t : Nat} {v : Value} (h : BoxV W B v t) (hb : Below W.heap.size W W') : BoxV W' B v t := (hb.block B h.lt).trans h
theorem BoxV.new (W : World) (v : Value) (t : Nat) : BoxV (W.alloc (.cells #[v] t)) W.heap.size v t := World.alloc_heap_new W _
/-- The sum of what the first k numbers bring. -/
def sumT (f : Nat → Int) : Nat → Int
  | 0 => 0
  | k + 1 => sumT f k + f k
theorem fan_sum (l : List (Int × Int)) : ∀ k, sumT (fun i => sd (pt l 0) (pt l (i + 1)) (pt l (i + 2))) k = fanA l k
  | 0 => rfl
  | k + 1 => by unfold sumT fanA; rw [fan_sum l k]
theorem rim_sum (l : List (Int × Int)) : ∀ k, sumT (fun i => stp (pt l i) (pt l ((i + 1) % l.length))) k = rimT l k
  | 0 => rfl
  | k + 1 => by unfold sumT rimT; rw [rim_sum l k]
set_option maxHeartbeats 2000000 in
theorem sumOf_c (c B : Nat) (f : Nat → Int) (n : Nat) (w : World) (hcl : ∀ (u : World) (k : Nat), Below w.heap.size w u → k < n → Calls Tryd.prog c #[.int .i64 (k : Int), .pointer (some ⟨B, 0, none⟩)] u fun e u' => e = .returned (.int .i64 (f k)) ∧ Below u.heap.size u u')
    (hcf : ∀ (xs : Array Value) (u : World), Sem.run Tryd.prog (callFunc c xs) u = Result.ok (Next.enter c xs) u)
    (hs : ∀ k, k ≤ n → IntKind.i64.wrap (sumT f k) = sumT f k) (hn : n ≤ 1048576) :
    Calls Tryd.prog 81 #[.int .i64 (n : Int), .func (.func c) #[] #[.pointer (some ⟨B, 0, none⟩)]] w fun e w' => e = .returned (.int .i64 (sumT f n)) ∧ Below w.heap.size w w' := by
  have HC := hid hcl
  have HS := hid hs
  clear hcl hs
  go_enter Tryd.func81, Tryd.ntmps81
  go_wp2
  go_loopw [5, 8] (fun o i wr => ∃ k : Nat, k ≤ n ∧ o = .int .i64 (sumT f k) ∧ i = .int .i64 (k : Int) ∧ Below w.heap.size w wr) (fun _ i _ => n - (intOf i).toNat)
  case atStart => exact ⟨0, Nat.zero_le _, rfl, rfl, by go_grown⟩
  case round =>
    obtain ⟨k, hk, rfl, rfl, hbw⟩ := hrel
    by_cases hkl : k < n
    · have HW := hid (HS.out (k + 1) (by omega))
      have HE := hid (show sumT f (k + 1) = sumT f k + f k from rfl)
      have hkl2 : (k : Int) < (n : Int) := by omega
      have HR := hid (HC.out wr k hbw hkl)
      generalize f k = fk at HE HR
      generalize hF : sumT f k = F at HE ⊢
      clear hF
      go_wp2_with (refine HR.out.mono ?_; rintro e w1 ⟨rfl, hb⟩; replace hbw := grew hbw hb)
      go_roundw
      case rel => exact ⟨k + 1, by omega, by rw [HE.out] at HW ⊢; exact congrArg (Value.int IntKind.i64) (by have h := HW.out; simp only [IntKind.wrap_i64] at h; unfold wrap64; exact h), by go_num, hbw⟩
      case measure => simp [intOf]; omega
    · obtain rfl : k = n := by omega
      go_wp2
      go_ret
      exact ⟨rfl, hbw⟩
theorem enters82 (xs : Array Value) (u : World) : Sem.run Tryd.prog (callFunc 82 xs) u = Result.ok (Next.enter 82 xs) u := by
  simp [callFunc, go_sem, Tryd.f82]
end Go.Proofs.YtohcllojjmhbcaaDoor
