/-
  The next point of a ring (contracts for the walks).
  Conditions: as each theorem states them.
-/
import Derived.Test.YtoefllklngnmeaaDoorB3
import Derived.Test.YtoefllklngnmeaaDoorB2
namespace Go.Proofs.YtoefllklngnmeaaDoor
open Go.RowKit Go.Shelf
set_option linter.unusedVariables false
set_option maxRecDepth 8000
theorem mod_up {k n m : Nat} (h : (k + 1) % n = m) : ((k : Int) + 1) % (n : Int) = (m : Int) := by
  subst h; simp
set_option maxHeartbeats 2000000 in
theorem nextOf_c (l : List (Int × Int)) (k : Nat) (a : Option Addr) (len cap : Nat) (w : World) (hl : l.length = len) (h1 : len ≤ 1048576) (hk : k < len) (hA : At w.heap.size a l w) :
    Calls Tryd.prog 86 #[.slice a len cap, .int .i64 k] w fun e w' => e = .returned (.agg #[.int .i64 (px l ((k + 1) % len)), .int .i64 (py l ((k + 1) % len))]) ∧ Below w.heap.size w w' := by
  subst hl
  have hm : (k + 1) % l.length < l.length := Nat.mod_lt _ (by omega)
  obtain ⟨b, off, rfl, hbN, g0, g1⟩ := hA _ hm
  clear hA
  have hc := mod_up (k := k) (n := l.length) rfl
  generalize (k + 1) % l.length = m at *
  have q0 : (0 : Int) ≤ (m : Int) := by omega
  have q1 : (m : Int) < (l.length : Int) := by omega
  go_enter Tryd.func86, Tryd.ntmps86
  go_wp2
  go_returns
  exact ⟨rfl, by go_grown⟩
/-- The first number below n at which f is true, or n. -/
def fstT (f : Nat → Bool) : Nat → Nat
  | 0 => 0
  | n + 1 => if fstT f n < n then fstT f n else if f n = true then n else n + 1
theorem fstT_le (f : Nat → Bool) : ∀ n, fstT f n ≤ n
  | 0 => Nat.le_refl _
  | n + 1 => by
    unfold fstT
    split
    · omega
    · split <;> omega
theorem fstT_none {f : Nat → Bool} : ∀ n, (∀ i, i < n → f i = false) → fstT f n = n
  | 0, _ => rfl
  | n + 1, h => by
    unfold fstT
    rw [fstT_none n (fun i hi => h i (by omega)), if_neg (Nat.lt_irrefl _), if_neg (by rw [h n (by omega)]; decide)]
theorem fstT_at {f : Nat → Bool} {k : Nat} (h : ∀ i, i < k → f i = false) (hk : f k = true) : ∀ n, k < n → fstT f n = k
  | 0, hn => absurd hn (Nat.not_lt_zero _)
  | n + 1, hn => by
    unfold fstT
    by_cases e : k = n
    · subst e
      rw [fstT_none k h, if_neg (Nat.lt_irrefl _), if_pos hk]
    · rw [fstT_at h hk n (by omega), if_pos (by omega)]
theorem fstT_lt {f : Nat → Bool} : ∀ n, fstT f n < n ↔ ∃ i, i < n ∧ f i = true
  | 0 => by simp
  | n + 1 => by
    have ih := fstT_lt (f := f) n
    have le := fstT_le f n
    unfold fstT
    constructor
    · intro h
      split at h
      next h' => obtain ⟨i, hi, hf⟩ := ih.1 h'; exact ⟨i, by omega, hf⟩
      next h' =>
        split at h
        next hf => exact ⟨n, by omega, hf⟩
        next hf => omega
    · rintro ⟨i, hi, hf⟩
      split
      · omega
      next h' =>
        by_cases e : i = n
        · subst e; rw [if_pos hf]; omega
        · exact absurd (ih.2 ⟨i, by omega, hf⟩) h'
theorem fstT_congr {f g : Nat → Bool} : ∀ n, (∀ i, i < n → f i = g i) → fstT f n = fstT g n
  | 0, _ => rfl
  | n + 1, h => by
    unfold fstT
    rw [fstT_congr n (fun i hi => h i (by omega)), h n (by omega)]
/-- A test of a side of a ring and a point. -/
def sideT (t : Int × Int → Int × Int → Int × Int → Bool) (h : List (Int × Int)) (q : Int × Int) (k : Nat) : Bool := t (pt h k) (pt h ((k + 1) % h.length)) q
def allT (f : Nat → Bool) (n : Nat) : Bool := (List.range n).all f
theorem allT_iff {f : Nat → Bool} {n : Nat} : allT f n = true ↔ ∀ i, i < n → f i = true := by simp [allT]
theorem allT_no {f : Nat → Bool} {n k : Nat} (hk : k < n) (h : f k = false) : allT f n = false := by
  cases e : allT f n
  · rfl
  · rw [allT_iff.1 e k hk] at h; cases h
theorem allT_succ (f : Nat → Bool) (n : Nat) : allT f (n + 1) = (allT f n && f n) := by simp [allT, List.range_succ]
/-- The number of the first side that a point is on, as the program finds it. -/
def rimI (h : List (Int × Int)) (q : Int × Int) : Nat := fstT (sideT btB h q) h.length
def onI (h : List (Int × Int)) (q : Int × Int) : Bool := decide (rimI h q < h.length)
def rimV (h : List (Int × Int)) (q : Int × Int) : Int := if onI h q = true then rimI h q else 0
/-- Where a point is, as the program finds it. -/
def whI (h : List (Int × Int)) (q : Int × Int) : Int := if onI h q = true then 1 else if h.length = 0 then 0 else if allT (sideT tlB h q) h.length = true then 2 else 0
end Go.Proofs.YtoefllklngnmeaaDoor
