/-
  Whether a list has a point of some kind, and what lies over a way (contracts for the walks).
  Conditions: as each theorem states them.
-/
import Derived.Test.YtibmgoaildhclaaDoorBr7s
import Derived.Test.YtibmgoaildhclaaDoorHBeyond
namespace Go.Proofs.YtibmgoaildhclaaDoor
open Go.RowKit Go.Shelf
set_option linter.unusedVariables false
set_option maxRecDepth 8000
def BoxW (W : World) (B : Nat) (v : Value) (t : Nat) : Prop := W.heap[B]? = some (.cells #[v] t (0, 0))
theorem BoxW.c0 {W : World} {B t : Nat} {v : Value} (h : BoxW W B v t) : W.cell? ⟨B, 0, none⟩ = some v := by simp [World.cell?, show W.heap[B]? = _ from h]
theorem BoxW.lt {W : World} {B t : Nat} {v : Value} (h : BoxW W B v t) : B < W.heap.size := (Array.getElem?_eq_some_iff.1 h).1
theorem BoxW.later {W W' : World} {B t : Nat} {v : Value} (h : BoxW W B v t) (hb : Below W.heap.size W W') : BoxW W' B v t := (hb.block B h.lt).trans h
theorem BoxW.new (W : World) (v : Value) (t : Nat) : BoxW (W.alloc (.cells #[v] t)) W.heap.size v t := World.alloc_heap_new W _
theorem aT_and {f g : Nat → Bool} {n : Nat} : aT (fun i => f i && g i) n = (aT f n && aT g n) := by
  rw [Bool.eq_iff_iff, Bool.and_eq_true, aT_iff, aT_iff, aT_iff]
  constructor
  · intro h
    exact ⟨fun i hi => (Bool.and_eq_true _ _ ▸ h i hi).1, fun i hi => (Bool.and_eq_true _ _ ▸ h i hi).2⟩
  · rintro ⟨h1, h2⟩ i hi
    rw [h1 i hi, h2 i hi]; rfl
def YsTo (f : Nat → Bool) (k : Nat) : Prop := ∀ i, i < k → f i = true
theorem YsTo.succ {f : Nat → Bool} {k : Nat} (h : YsTo f k) (e : f k = true) : YsTo f (k + 1) := fun i hi => by
  by_cases hk : i = k
  · subst hk; exact e
  · exact h i (by omega)
/-- None of a list is of the kind f. -/
def nonF (f : Int × Int → Bool) (l : List (Int × Int)) : Bool := aT (fun i => !(f (pt l i))) l.length
set_option maxHeartbeats 4000000 in
theorem indexF2_c (c B0 B1 : Nat) (f : Int × Int → Bool) (l : List (Int × Int)) (a : Option Addr) (len cap : Nat) (w : World) (hl : l.length = len) (h1 : len ≤ 1048576) (hA : At w.heap.size a l w)
    (hcl : ∀ (u : World) (x y : Int), Below w.heap.size w u → Calls Tryd.prog c #[.agg #[.int .i64 x, .int .i64 y], .pointer (some ⟨B0, 0, none⟩), .pointer (some ⟨B1, 0, none⟩)] u fun e u' => e = .returned (.bool (f (x, y))) ∧ Below u.heap.size u u')
    (hcf : ∀ (xs : Array Value) (u : World), Sem.run Tryd.prog (callFunc c xs) u = Result.ok (Next.enter c xs) u) :
    Calls Tryd.prog 66 #[.slice a len cap, .func (.func c) #[] #[.pointer (some ⟨B0, 0, none⟩), .pointer (some ⟨B1, 0, none⟩)]] w fun e w' => ∃ n : Int, e = .returned (.int .i64 n) ∧ (decide (0 ≤ n) = !(nonF f l)) ∧ Below w.heap.size w w' := by
  subst hl
  have HA := hid hA
  have HC0 := hid hcl
  clear hA hcl
  go_enter Tryd.func66, Tryd.ntmps66
  go_wp2
  go_loopw [8] (fun i wr => ∃ k : Nat, k ≤ l.length ∧ i = .int .i64 k ∧ YsTo (fun i => !(f (pt l i))) k ∧ Below w.heap.size w wr) (fun i _ => l.length - (intOf i).toNat)
  case atStart => exact ⟨0, Nat.zero_le _, rfl, fun i hi => absurd hi (Nat.not_lt_zero _), Below.refl _ _⟩
  case round =>
    obtain ⟨k, hk, rfl, hC, hbw⟩ := hrel
    have HC := hid hC
    clear hC
    by_cases hkl : k < l.length
    · obtain ⟨b, off, rfl, hbN, g0, g1⟩ := HA.out k hkl
      have q0 := cell_later hbw g0
      have q1 := cell_later hbw g1
      clear g0 g1
      obtain ⟨v, hv⟩ : ∃ v, f (px l k, py l k) = v := ⟨_, rfl⟩
      have HT := hid (show (!(f (pt l k))) = !v by rw [← hv]; rfl)
      obtain ⟨x, hx⟩ : ∃ x, px l k = x := ⟨_, rfl⟩
      obtain ⟨y, hy⟩ : ∃ y, py l k = y := ⟨_, rfl⟩
      rw [hx, hy] at hv
      rw [hx] at q0
      rw [hy] at q1
      have hi0 : (0 : Int) ≤ (k : Int) := by omega
      have hi1 : (k : Int) < (l.length : Int) := by omega
      have HR := hid (fun (u : World) (hu : Below w.heap.size w u) => HC0.out u x y hu)
      rw [hv] at HR
      clear hx hy hv
      cases v
      · go_wp2_with (refine (HR.out _ hbw).mono ?_; rintro e w1 ⟨rfl, hb⟩; replace hbw := grew hbw hb; clear hb)
        go_roundw
        case rel => exact ⟨k + 1, by omega, by go_num, HC.out.succ HT.out, hbw⟩
        case measure => simp [intOf]; omega
      · go_wp2_with (refine (HR.out _ hbw).mono ?_; rintro e w1 ⟨rfl, hb⟩; replace hbw := grew hbw hb; clear hb)
        go_ret
        exact ⟨_, rfl, by unfold nonF; rw [aT_no hkl HT.out]; simp, hbw⟩
    · obtain rfl : k = l.length := by omega
      go_wp2
      go_ret
      exact ⟨_, rfl, by unfold nonF; rw [aT_iff.2 HC.out]; simp, hbw⟩
set_option maxHeartbeats 2000000 in
theorem containsF2_c (c B0 B1 : Nat) (f : Int × Int → Bool) (l : List (Int × Int)) (a : Option Addr) (len cap : Nat) (w : World) (hl : l.length = len) (h1 : len ≤ 1048576) (hA : At w.heap.size a l w)
    (hcl : ∀ (u : World) (x y : Int), Below w.heap.size w u → Calls Tryd.prog c #[.agg #[.int .i64 x, .int .i64 y], .pointer (some ⟨B0, 0, none⟩), .pointer (some ⟨B1, 0, none⟩)] u fun e u' => e = .returned (.bool (f (x, y))) ∧ Below u.heap.size u u')
    (hcf : ∀ (xs : Array Value) (u : World), Sem.run Tryd.prog (callFunc c xs) u = Result.ok (Next.enter c xs) u) :
    Calls Tryd.prog 55 #[.slice a len cap, .func (.func c) #[] #[.pointer (some ⟨B0, 0, none⟩), .pointer (some ⟨B1, 0, none⟩)]] w fun e w' => e = .returned (.bool (!(nonF f l))) ∧ Below w.heap.size w w' := by
  have HI := hid (indexF2_c c B0 B1 f l a len cap w hl h1 hA hcl hcf)
  clear hA hcl hcf
  go_enter Tryd.func55, Tryd.ntmps55
  go_wp2_with (go_at_call 66; refine HI.out.mono ?_; rintro e w1 ⟨n, rfl, hn, hb⟩; have HN := hid hn; have hb1 := hb; clear hn hb)
  go_ret
  exact ⟨ret_bool (by first | (rw [← HN.out]; done) | (rw [← HN.out]; simp)), hb1⟩
set_option maxHeartbeats 4000000 in
theorem indexF3_c (c B0 B1 B2 : Nat) (f : Int × Int → Bool) (l : List (Int × Int)) (a : Option Addr) (len cap : Nat) (w : World) (hl : l.length = len) (h1 : len ≤ 1048576) (hA : At w.heap.size a l w)
    (hcl : ∀ (u : World) (x y : Int), Below w.heap.size w u → Calls Tryd.prog c #[.agg #[.int .i64 x, .int .i64 y], .pointer (some ⟨B0, 0, none⟩), .pointer (some ⟨B1, 0, none⟩), .pointer (some ⟨B2, 0, none⟩)] u fun e u' => e = .returned (.bool (f (x, y))) ∧ Below u.heap.size u u')
    (hcf : ∀ (xs : Array Value) (u : World), Sem.run Tryd.prog (callFunc c xs) u = Result.ok (Next.enter c xs) u) :
    Calls Tryd.prog 66 #[.slice a len cap, .func (.func c) #[] #[.pointer (some ⟨B0, 0, none⟩), .pointer (some ⟨B1, 0, none⟩), .pointer (some ⟨B2, 0, none⟩)]] w fun e w' => ∃ n : Int, e = .returned (.int .i64 n) ∧ (decide (0 ≤ n) = !(nonF f l)) ∧ Below w.heap.size w w' := by
  subst hl
  have HA := hid hA
  have HC0 := hid hcl
  clear hA hcl
  go_enter Tryd.func66, Tryd.ntmps66
  go_wp2
  go_loopw [8] (fun i wr => ∃ k : Nat, k ≤ l.length ∧ i = .int .i64 k ∧ YsTo (fun i => !(f (pt l i))) k ∧ Below w.heap.size w wr) (fun i _ => l.length - (intOf i).toNat)
  case atStart => exact ⟨0, Nat.zero_le _, rfl, fun i hi => absurd hi (Nat.not_lt_zero _), Below.refl _ _⟩
  case round =>
    obtain ⟨k, hk, rfl, hC, hbw⟩ := hrel
    have HC := hid hC
    clear hC
    by_cases hkl : k < l.length
    · obtain ⟨b, off, rfl, hbN, g0, g1⟩ := HA.out k hkl
      have q0 := cell_later hbw g0
      have q1 := cell_later hbw g1
      clear g0 g1
      obtain ⟨v, hv⟩ : ∃ v, f (px l k, py l k) = v := ⟨_, rfl⟩
      have HT := hid (show (!(f (pt l k))) = !v by rw [← hv]; rfl)
      obtain ⟨x, hx⟩ : ∃ x, px l k = x := ⟨_, rfl⟩
      obtain ⟨y, hy⟩ : ∃ y, py l k = y := ⟨_, rfl⟩
      rw [hx, hy] at hv
      rw [hx] at q0
      rw [hy] at q1
      have hi0 : (0 : Int) ≤ (k : Int) := by omega
      have hi1 : (k : Int) < (l.length : Int) := by omega
      have HR := hid (fun (u : World) (hu : Below w.heap.size w u) => HC0.out u x y hu)
      rw [hv] at HR
      clear hx hy hv
      cases v
      · go_wp2_with (refine (HR.out _ hbw).mono ?_; rintro e w1 ⟨rfl, hb⟩; replace hbw := grew hbw hb; clear hb)
        go_roundw
        case rel => exact ⟨k + 1, by omega, by go_num, HC.out.succ HT.out, hbw⟩
        case measure => simp [intOf]; omega
      · go_wp2_with (refine (HR.out _ hbw).mono ?_; rintro e w1 ⟨rfl, hb⟩; replace hbw := grew hbw hb; clear hb)
        go_ret
        exact ⟨_, rfl, by unfold nonF; rw [aT_no hkl HT.out]; simp, hbw⟩
    · obtain rfl : k = l.length := by omega
      go_wp2
      go_ret
      exact ⟨_, rfl, by unfold nonF; rw [aT_iff.2 HC.out]; simp, hbw⟩
set_option maxHeartbeats 2000000 in
theorem containsF3_c (c B0 B1 B2 : Nat) (f : Int × Int → Bool) (l : List (Int × Int)) (a : Option Addr) (len cap : Nat) (w : World) (hl : l.length = len) (h1 : len ≤ 1048576) (hA : At w.heap.size a l w)
    (hcl : ∀ (u : World) (x y : Int), Below w.heap.size w u → Calls Tryd.prog c #[.agg #[.int .i64 x, .int .i64 y], .pointer (some ⟨B0, 0, none⟩), .pointer (some ⟨B1, 0, none⟩), .pointer (some ⟨B2, 0, none⟩)] u fun e u' => e = .returned (.bool (f (x, y))) ∧ Below u.heap.size u u')
    (hcf : ∀ (xs : Array Value) (u : World), Sem.run Tryd.prog (callFunc c xs) u = Result.ok (Next.enter c xs) u) :
    Calls Tryd.prog 55 #[.slice a len cap, .func (.func c) #[] #[.pointer (some ⟨B0, 0, none⟩), .pointer (some ⟨B1, 0, none⟩), .pointer (some ⟨B2, 0, none⟩)]] w fun e w' => e = .returned (.bool (!(nonF f l))) ∧ Below w.heap.size w w' := by
  have HI := hid (indexF3_c c B0 B1 B2 f l a len cap w hl h1 hA hcl hcf)
  clear hA hcl hcf
  go_enter Tryd.func55, Tryd.ntmps55
  go_wp2_with (go_at_call 66; refine HI.out.mono ?_; rintro e w1 ⟨n, rfl, hn, hb⟩; have HN := hid hn; have hb1 := hb; clear hn hb)
  go_ret
  exact ⟨ret_bool (by first | (rw [← HN.out]; done) | (rw [← HN.out]; simp)), hb1⟩
set_option maxHeartbeats 2000000 in
theorem none1_c (x y qx qy ux uy s : Int) (Bq Bp Bs : Nat) (w : World) (hq : BoxP w Bq (qx, qy)) (hp : BoxP w Bp (ux, uy)) (hs : BoxW w Bs (.int .i64 s) 3) (c0 : w.cell? ⟨0, 0, none⟩ = some (.int .i64 1000000)) :
    Calls Tryd.prog 65 #[.agg #[.int .i64 x, .int .i64 y], .pointer (some ⟨Bq, 0, none⟩), .pointer (some ⟨Bp, 0, none⟩), .pointer (some ⟨Bs, 0, none⟩)] w fun e w' => e = .returned (.bool (sideN qx qy ux uy x y == s)) ∧ Below w.heap.size w w' := by
  have hbw : Below w.heap.size w (w.alloc (.cells #[.int .i64 x, .int .i64 y] 44)) := by go_grown
  have k0 := box0 w x y 44
  have k1 := box1 w x y 44
  have C0 := hid c0
  have k2 := cell_later hbw hq.c0
  have k3 := cell_later hbw hq.c1
  have k4 := cell_later hbw hp.c0
  have k5 := cell_later hbw hp.c1
  have k6 := cell_later hbw hs.c0
  clear c0 hq hp hs
  go_enter Tryd.func65, Tryd.ntmps65
  go_upto_region 1 with fail
  generalize (w.alloc (.cells #[.int .i64 x, .int .i64 y] 44)) = w0 at hbw k0 k1 k2 k3 k4 k5 k6 ⊢
  go_wp2_with (go_at_call 61; refine (sideOfImpl_c _ _ _ _ _ _ _ (cell_later hbw C0.out)).mono ?_; rintro e w1 ⟨rfl, hb⟩; replace hbw := grew hbw hb; replace k6 := cell_later hb k6; clear hb)
  go_ret
  exact ⟨ret_bool (by simp), hbw⟩
theorem enterN1 (xs : Array Value) (u : World) : Sem.run Tryd.prog (callFunc 65 xs) u = Result.ok (Next.enter 65 xs) u := by
  simp [callFunc, go_sem, Tryd.f65]
set_option maxHeartbeats 2000000 in
theorem none_c (l : List (Int × Int)) (qx qy ux uy s : Int) (a : Option Addr) (len cap : Nat) (w : World) (hl : l.length = len) (h1 : len ≤ 1048576) (hA : At w.heap.size a l w) (c0 : w.cell? ⟨0, 0, none⟩ = some (.int .i64 1000000)) :
    Calls Tryd.prog 54 #[.int .i64 s, .agg #[.int .i64 qx, .int .i64 qy], .agg #[.int .i64 ux, .int .i64 uy], .slice a len cap] w fun e w' => e = .returned (.bool (nonF (fun p => sideN qx qy ux uy p.1 p.2 == s) l)) ∧ Below w.heap.size w w' := by
  have HA := hid hA
  have C0 := hid c0
  clear hA c0
  have K0 := BoxW.later (BoxW.later (BoxW.new w (.int .i64 s) 3) ((Below.refl _ _).alloc (Nat.le_refl _) (.cells #[.int .i64 qx, .int .i64 qy] 44))) ((Below.refl _ _).alloc (Nat.le_refl _) (.cells #[.int .i64 ux, .int .i64 uy] 44))
  have K1 := BoxP.later (BoxP.new (w.alloc (.cells #[.int .i64 s] 3)) qx qy) ((Below.refl _ _).alloc (Nat.le_refl _) (.cells #[.int .i64 ux, .int .i64 uy] 44))
  have K2 := BoxP.new ((w.alloc (.cells #[.int .i64 s] 3)).alloc (.cells #[.int .i64 qx, .int .i64 qy] 44)) ux uy
  simp only [World.size_alloc] at K1 K2
  have hbw : Below w.heap.size w (((w.alloc (.cells #[.int .i64 s] 3)).alloc (.cells #[.int .i64 qx, .int .i64 qy] 44)).alloc (.cells #[.int .i64 ux, .int .i64 uy] 44)) := by go_grown
  go_enter Tryd.func54, Tryd.ntmps54
  go_upto_region 1 with fail
  generalize ((w.alloc (.cells #[.int .i64 s] 3)).alloc (.cells #[.int .i64 qx, .int .i64 qy] 44)).alloc (.cells #[.int .i64 ux, .int .i64 uy] 44) = w0 at K0 K1 K2 hbw ⊢
  have HF := hid (containsF3_c 65 (w.heap.size + 1) (w.heap.size + 1 + 1) w.heap.size (fun p => sideN qx qy ux uy p.1 p.2 == s) l a len cap w0 hl h1 ((HA.out.later hbw).mono hbw.size) (fun u x y hu => none1_c x y qx qy ux uy s _ _ _ u (K1.later hu) (K2.later hu) (K0.later hu) (cell_later (grew hbw hu) C0.out)) enterN1)
  go_wp2_with (go_at_call 55; refine HF.out.mono ?_; rintro e w1 ⟨rfl, hb⟩; replace hbw := grew hbw hb; clear hb)
  go_ret
  exact ⟨ret_bool (by simp), hbw⟩
set_option maxHeartbeats 2000000 in
theorem lies1_c (x y fx fy tx ty : Int) (Bf Bt : Nat) (w : World) (hf : BoxP w Bf (fx, fy)) (ht : BoxP w Bt (tx, ty)) (c0 : w.cell? ⟨0, 0, none⟩ = some (.int .i64 1000000)) :
    Calls Tryd.prog 56 #[.agg #[.int .i64 x, .int .i64 y], .pointer (some ⟨Bf, 0, none⟩), .pointer (some ⟨Bt, 0, none⟩)] w fun e w' => e = .returned (.bool (byB (fx, fy) (tx, ty) (x, y) || byB (tx, ty) (fx, fy) (x, y))) ∧ Below w.heap.size w w' := by
  have hbw : Below w.heap.size w (w.alloc (.cells #[.int .i64 x, .int .i64 y] 44)) := by go_grown
  have k0 := box0 w x y 44
  have k1 := box1 w x y 44
  have C0 := hid c0
  have k2 := cell_later hbw hf.c0
  have k3 := cell_later hbw hf.c1
  have k4 := cell_later hbw ht.c0
  have k5 := cell_later hbw ht.c1
  clear c0 hf ht
  cases h1 : byB (fx, fy) (tx, ty) (x, y)
  · cases h2 : byB (tx, ty) (fx, fy) (x, y)
    all_goals go_enter Tryd.func56, Tryd.ntmps56
    all_goals go_upto_region 1 with fail
    all_goals generalize (w.alloc (.cells #[.int .i64 x, .int .i64 y] 44)) = w0 at hbw k0 k1 k2 k3 k4 k5 ⊢
    all_goals have tok : True := trivial
    all_goals go_wp2_with (first
      | (go_at_call 57; clear tok; refine (isBeyond_c fx fy _ _ _ _ _ (cell_later hbw C0.out)).mono ?_; rw [h1]; rintro e w1 ⟨rfl, hb⟩; replace hbw := grew hbw hb; replace k0 := cell_later hb k0; replace k1 := cell_later hb k1; replace k2 := cell_later hb k2; replace k3 := cell_later hb k3; replace k4 := cell_later hb k4; replace k5 := cell_later hb k5; clear hb)
      | (go_at_call 57; refine (isBeyond_c tx ty _ _ _ _ _ (cell_later hbw C0.out)).mono ?_; rw [h2]; rintro e w1 ⟨rfl, hb⟩; replace hbw := grew hbw hb; clear hb))
    all_goals go_ret
    all_goals exact ⟨rfl, hbw⟩
  · go_enter Tryd.func56, Tryd.ntmps56
    go_upto_region 1 with fail
    generalize (w.alloc (.cells #[.int .i64 x, .int .i64 y] 44)) = w0 at hbw k0 k1 k2 k3 k4 k5 ⊢
    go_wp2_with (go_at_call 57; refine (isBeyond_c _ _ _ _ _ _ _ (cell_later hbw C0.out)).mono ?_; rw [h1]; rintro e w1 ⟨rfl, hb⟩; replace hbw := grew hbw hb; clear hb)
    go_ret
    exact ⟨rfl, hbw⟩
theorem enterL1 (xs : Array Value) (u : World) : Sem.run Tryd.prog (callFunc 56 xs) u = Result.ok (Next.enter 56 xs) u := by
  simp [callFunc, go_sem, Tryd.f56]
theorem ovI_eq (f t : Int × Int) (l : List (Int × Int)) : ovI f t l = (nonF (fun p => sideN f.1 f.2 t.1 t.2 p.1 p.2 == -1) l && nonF (fun p => byB f t p || byB t f p) l) := by
  unfold ovI nonF
  rw [← aT_and]
  rfl
set_option maxHeartbeats 2000000 in
theorem lies_c (l : List (Int × Int)) (fx fy tx ty : Int) (a : Option Addr) (len cap : Nat) (w : World) (hl : l.length = len) (h1 : len ≤ 1048576) (hA : At w.heap.size a l w) (c0 : w.cell? ⟨0, 0, none⟩ = some (.int .i64 1000000)) :
    Calls Tryd.prog 36 #[.agg #[.int .i64 fx, .int .i64 fy], .agg #[.int .i64 tx, .int .i64 ty], .slice a len cap] w fun e w' => e = .returned (.bool (ovI (fx, fy) (tx, ty) l)) ∧ Below w.heap.size w w' := by
  have HA := hid hA
  have C0 := hid c0
  clear hA c0
  have K1 := BoxP.later (BoxP.new w fx fy) ((Below.refl _ _).alloc (Nat.le_refl _) (.cells #[.int .i64 tx, .int .i64 ty] 44))
  have K2 := BoxP.new (w.alloc (.cells #[.int .i64 fx, .int .i64 fy] 44)) tx ty
  simp only [World.size_alloc] at K2
  have hbw : Below w.heap.size w ((w.alloc (.cells #[.int .i64 fx, .int .i64 fy] 44)).alloc (.cells #[.int .i64 tx, .int .i64 ty] 44)) := by go_grown
  have HE := hid (ovI_eq (fx, fy) (tx, ty) l)
  go_enter Tryd.func36, Tryd.ntmps36
  go_upto_region 1 with fail
  generalize (w.alloc (.cells #[.int .i64 fx, .int .i64 fy] 44)).alloc (.cells #[.int .i64 tx, .int .i64 ty] 44) = w0 at K1 K2 hbw ⊢
  have k0 := K1.c0
  have k1 := K1.c1
  have k2 := K2.c0
  have k3 := K2.c1
  have HN := hid (fun (u : World) (hu : Below w.heap.size w u) => none_c l fx fy tx ty (-1) a len cap u hl h1 ((HA.out.later hu).mono hu.size) (cell_later hu C0.out))
  have HF := hid (fun (u : World) (hu : Below w0.heap.size w0 u) => containsF2_c 56 w.heap.size (w.heap.size + 1) (fun p => byB (fx, fy) (tx, ty) p || byB (tx, ty) (fx, fy) p) l a len cap u hl h1 ((HA.out.later (grew hbw hu)).mono (grew hbw hu).size) (fun v x y hv => lies1_c x y fx fy tx ty _ _ v ((K1.later hu).later hv) ((K2.later hu).later hv) (cell_later (grew (grew hbw hu) hv) C0.out)) enterL1)
  cases n1 : nonF (fun p => sideN fx fy tx ty p.1 p.2 == -1) l
  · rw [n1] at HN HE
    go_wp2_with (go_at_call 54; refine (HN.out _ hbw).mono ?_; rintro e w1 ⟨rfl, hb⟩; replace hbw := grew hbw hb; clear hb)
    go_ret
    exact ⟨ret_bool HE.out.symm, hbw⟩
  · rw [n1] at HN HE
    cases n2 : nonF (fun p => byB (fx, fy) (tx, ty) p || byB (tx, ty) (fx, fy) p) l
    all_goals rw [n2] at HF HE
    all_goals go_wp2_with (first
      | (go_at_call 54; refine (HN.out _ hbw).mono ?_; rintro e w1 ⟨rfl, hb⟩; replace hbw := grew hbw hb; have hb1 := hb; clear hb)
      | (go_at_call 55; refine (HF.out _ hb1).mono ?_; rintro e w2 ⟨rfl, hb⟩; replace hbw := grew hbw hb; clear hb))
    all_goals go_ret
    all_goals exact ⟨ret_bool HE.out.symm, hbw⟩
end Go.Proofs.YtibmgoaildhclaaDoor
