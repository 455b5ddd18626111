/-
  IsTangent: the program's and the specification's (contracts for the walks).
  Conditions: as each theorem states them.
-/
import Derived.Test.YtegmlemejmahiaaGreatDoorB5
namespace Go.Proofs.YtegmlemejmahiaaGreatDoor
open Go.RowKit Go.Shelf
set_option linter.unusedVariables false
set_option maxRecDepth 8000
/-- None of the first k points is the one that is looked for. -/
def NoneTo (l : List (Int × Int)) (x y : Int) (k : Nat) : Prop := ∀ i, i < k → ¬ ((px l i, py l i) = (x, y))
theorem NoneTo.succ {l : List (Int × Int)} {x y : Int} {k : Nat} (h : NoneTo l x y k) (e : ¬ (px l k, py l k) = (x, y)) : NoneTo l x y (k + 1) := fun i hi => by
  by_cases h1 : i < k
  · exact h i h1
  · obtain rfl : i = k := by omega
    exact e
theorem NoneTo.no {l : List (Int × Int)} {x y : Int} (h : NoneTo l x y l.length) : decide ((x, y) ∈ l) = false := decide_eq_false fun hm => by
  obtain ⟨i, hi, e⟩ := mem_pt hm
  exact h i hi e
theorem has_at {l : List (Int × Int)} {x y : Int} {k : Nat} (h : k < l.length) (e : (px l k, py l k) = (x, y)) : decide ((x, y) ∈ l) = true := decide_eq_true (by rw [← e]; exact pt_mem h)
set_option maxHeartbeats 4000000 in
theorem has_c (l : List (Int × Int)) (x y : Int) (a : Option Addr) (len cap : Nat) (w : World) (hl : l.length = len) (h1 : len ≤ 1048576) (hA : At w.heap.size a l w) :
    Calls Tryz.prog 39 #[.slice a len cap, .agg #[.int .i64 x, .int .i64 y]] w fun e w' => e = .returned (.bool (decide ((x, y) ∈ l))) ∧ Below w.heap.size w w' := by
  subst hl
  have HA := hid hA
  clear hA
  have hbw : Below w.heap.size w (w.alloc (.cells #[.int .i64 x, .int .i64 y] 26)) := by go_grown
  have k0 := box0 w x y 26
  have k1 := box1 w x y 26
  go_enter Tryz.func39, Tryz.ntmps39
  go_wp2
  go_loopw [9] (fun i wr => ∃ k : Nat, k ≤ l.length ∧ i = .int .i64 k ∧ NoneTo l x y k ∧ wr.cell? ⟨w.heap.size, 0, none⟩ = some (.int .i64 x) ∧ wr.cell? ⟨w.heap.size, 1, none⟩ = some (.int .i64 y) ∧ Below w.heap.size w wr) (fun i _ => l.length - (intOf i).toNat)
  case atStart => exact ⟨0, Nat.zero_le _, rfl, fun i hi => absurd hi (Nat.not_lt_zero _), k0, k1, hbw⟩
  case round =>
    clear k0 k1 hbw
    obtain ⟨k, hk, rfl, hC, k0, k1, hbw⟩ := hrel
    have HC := hid hC
    clear hC
    by_cases hkl : k < l.length
    · have hlt := World.block_lt_of_cell? _ _ k0
      obtain ⟨b, off, rfl, hbN, g0, g1⟩ := HA.out k hkl
      have q0 := (hbw.cell (p := ⟨b, off + k * 2, none⟩) hbN).trans g0
      have q1 := (hbw.cell (p := ⟨b, off + k * 2 + 1, none⟩) hbN).trans g1
      clear g0 g1
      obtain ⟨ux, hx⟩ : ∃ u, px l k = u := ⟨_, rfl⟩
      obtain ⟨uy, hy⟩ : ∃ u, py l k = u := ⟨_, rfl⟩
      have HU := hid (show (px l k, py l k) = (ux, uy) by rw [hx, hy])
      rw [hx] at q0
      rw [hy] at q1
      clear hx hy
      have hi0 : (0 : Int) ≤ (k : Int) := by omega
      have hi1 : (k : Int) < (l.length : Int) := by omega
      by_cases ex : ux = x
      · by_cases ey : uy = y
        · subst ex ey
          go_wp2
          go_ret
          exact ⟨ret_bool (by rw [has_at hkl (HU.out)]), grew hbw (by go_grown)⟩
        · have ey2 : (uy == y) = false := by simpa using ey
          have ey3 : (y == uy) = false := by simpa using fun h => ey h.symm
          have HN := hid (show ¬ (ux, uy) = (x, y) from fun e => ey (congrArg Prod.snd e))
          subst ex
          clear ey
          go_wp2
          go_roundw
          case rel => exact ⟨k + 1, by omega, by go_num, HC.out.succ (by rw [HU.out]; exact HN.out), cell_later (by go_grown) k0, cell_later (by go_grown) k1, grew hbw (by go_grown)⟩
          case measure => simp [intOf]; omega
      · have ex2 : (ux == x) = false := by simpa using ex
        have ex3 : (x == ux) = false := by simpa using fun h => ex h.symm
        have HN := hid (show ¬ (ux, uy) = (x, y) from fun e => ex (congrArg Prod.fst e))
        clear ex
        go_wp2
        go_roundw
        case rel => exact ⟨k + 1, by omega, by go_num, HC.out.succ (by rw [HU.out]; exact HN.out), cell_later (by go_grown) k0, cell_later (by go_grown) k1, grew hbw (by go_grown)⟩
        case measure => simp [intOf]; omega
    · obtain rfl : k = l.length := by omega
      go_wp2
      go_ret
      exact ⟨ret_bool (by rw [HC.out.no]), hbw⟩
set_option maxHeartbeats 4000000 in
theorem index_c (l : List (Int × Int)) (x y : Int) (a : Option Addr) (len cap : Nat) (w : World) (hl : l.length = len) (h1 : len ≤ 1048576) (hA : At w.heap.size a l w) :
    Calls Tryz.prog 67 #[.slice a len cap, .agg #[.int .i64 x, .int .i64 y]] w fun e w' => ∃ n : Int, e = .returned (.int .i64 n) ∧ (decide (0 ≤ n) = decide ((x, y) ∈ l)) ∧ Below w.heap.size w w' := by
  subst hl
  have HA := hid hA
  clear hA
  have hbw : Below w.heap.size w (w.alloc (.cells #[.int .i64 x, .int .i64 y] 26)) := by go_grown
  have k0 := box0 w x y 26
  have k1 := box1 w x y 26
  go_enter Tryz.func67, Tryz.ntmps67
  go_wp2
  go_loopw [8] (fun i wr => ∃ k : Nat, k ≤ l.length ∧ i = .int .i64 k ∧ NoneTo l x y k ∧ wr.cell? ⟨w.heap.size, 0, none⟩ = some (.int .i64 x) ∧ wr.cell? ⟨w.heap.size, 1, none⟩ = some (.int .i64 y) ∧ Below w.heap.size w wr) (fun i _ => l.length - (intOf i).toNat)
  case atStart => exact ⟨0, Nat.zero_le _, rfl, fun i hi => absurd hi (Nat.not_lt_zero _), k0, k1, hbw⟩
  case round =>
    clear k0 k1 hbw
    obtain ⟨k, hk, rfl, hC, k0, k1, hbw⟩ := hrel
    have HC := hid hC
    clear hC
    by_cases hkl : k < l.length
    · have hlt := World.block_lt_of_cell? _ _ k0
      obtain ⟨b, off, rfl, hbN, g0, g1⟩ := HA.out k hkl
      have q0 := (hbw.cell (p := ⟨b, off + k * 2, none⟩) hbN).trans g0
      have q1 := (hbw.cell (p := ⟨b, off + k * 2 + 1, none⟩) hbN).trans g1
      clear g0 g1
      obtain ⟨ux, hx⟩ : ∃ u, px l k = u := ⟨_, rfl⟩
      obtain ⟨uy, hy⟩ : ∃ u, py l k = u := ⟨_, rfl⟩
      have HU := hid (show (px l k, py l k) = (ux, uy) by rw [hx, hy])
      rw [hx] at q0
      rw [hy] at q1
      clear hx hy
      have hi0 : (0 : Int) ≤ (k : Int) := by omega
      have hi1 : (k : Int) < (l.length : Int) := by omega
      by_cases ex : ux = x
      · by_cases ey : uy = y
        · subst ex ey
          go_wp2
          go_quiet (fail)
          go_wp2
          go_ret
          exact ⟨_, rfl, by rw [has_at hkl (HU.out)]; simp, grew hbw (drewN_below _ _)⟩
        · have ey2 : (uy == y) = false := by simpa using ey
          have ey3 : (y == uy) = false := by simpa using fun h => ey h.symm
          have HN := hid (show ¬ (ux, uy) = (x, y) from fun e => ey (congrArg Prod.snd e))
          subst ex
          clear ey
          go_wp2
          go_quiet (fail)
          go_wp2
          go_roundw
          case rel => exact ⟨k + 1, by omega, by go_num, HC.out.succ (by rw [HU.out]; exact HN.out), cell_later (drewN_below _ _) k0, cell_later (drewN_below _ _) k1, grew hbw (drewN_below _ _)⟩
          case measure => simp [intOf]; omega
      · have ex2 : (ux == x) = false := by simpa using ex
        have ex3 : (x == ux) = false := by simpa using fun h => ex h.symm
        have HN := hid (show ¬ (ux, uy) = (x, y) from fun e => ex (congrArg Prod.fst e))
        clear ex
        go_wp2
        go_quiet (fail)
        go_wp2
        go_roundw
        case rel => exact ⟨k + 1, by omega, by go_num, HC.out.succ (by rw [HU.out]; exact HN.out), cell_later (drewN_below _ _) k0, cell_later (drewN_below _ _) k1, grew hbw (drewN_below _ _)⟩
        case measure => simp [intOf]; omega
    · obtain rfl : k = l.length := by omega
      go_wp2
      go_ret
      exact ⟨_, rfl, by rw [HC.out.no]; simp, hbw⟩
set_option maxHeartbeats 2000000 in
theorem contains_c (l : List (Int × Int)) (x y : Int) (a : Option Addr) (len cap : Nat) (w : World) (hl : l.length = len) (h1 : len ≤ 1048576) (hA : At w.heap.size a l w) :
    Calls Tryz.prog 37 #[.slice a len cap, .agg #[.int .i64 x, .int .i64 y]] w fun e w' => e = .returned (.bool (decide ((x, y) ∈ l))) ∧ Below w.heap.size w w' := by
  have hbw : Below w.heap.size w (w.alloc (.cells #[.int .i64 x, .int .i64 y] 26)) := by go_grown
  have HA := hid hA
  clear hA
  go_enter Tryz.func37, Tryz.ntmps37
  go_wp2_with (go_at_call 67; refine (index_c l x y _ _ _ _ hl h1 ((HA.out.later hbw).mono hbw.size)).mono ?_; rintro e w1 ⟨n, rfl, hn, hb⟩; have HN := hid hn; have hb1 := grew hbw hb; clear hn hb)
  go_ret
  exact ⟨ret_bool (by first | (rw [← HN.out]; done) | (rw [← HN.out]; simp)), hb1⟩
set_option maxHeartbeats 2000000 in
theorem noneTo1_c (x y qx qy ux uy s : Int) (Bq Bp Bs : Nat) (w : World) (hq : BoxP w Bq (qx, qy)) (hp : BoxP w Bp (ux, uy)) (hs : BoxV w Bs (.int .i64 s) 3) (c0 : w.cell? ⟨0, 0, none⟩ = some (.int .i64 1000000)) :
    Calls Tryz.prog 69 #[.agg #[.int .i64 x, .int .i64 y], .pointer (some ⟨Bq, 0, none⟩), .pointer (some ⟨Bp, 0, none⟩), .pointer (some ⟨Bs, 0, none⟩)] w fun e w' => e = .returned (.bool (sideN qx qy ux uy x y == s)) ∧ Below w.heap.size w w' := by
  have hbw : Below w.heap.size w (w.alloc (.cells #[.int .i64 x, .int .i64 y] 26)) := by go_grown
  have k0 := box0 w x y 26
  have k1 := box1 w x y 26
  have C0 := hid c0
  have k2 := cell_later hbw hq.c0
  have k3 := cell_later hbw hq.c1
  have k4 := cell_later hbw hp.c0
  have k5 := cell_later hbw hp.c1
  have k6 := cell_later hbw hs.c0
  clear c0 hq hp hs
  go_enter Tryz.func69, Tryz.ntmps69
  go_upto_region 1 with fail
  generalize (w.alloc (.cells #[.int .i64 x, .int .i64 y] 26)) = w0 at hbw k0 k1 k2 k3 k4 k5 k6 ⊢
  go_wp2_with (go_at_call 9; refine (sideOfImpl_c _ _ _ _ _ _ _ (cell_later hbw C0.out)).mono ?_; rintro e w1 ⟨rfl, hb⟩; replace hbw := grew hbw hb; replace k6 := cell_later hb k6; clear hb)
  go_ret
  exact ⟨ret_bool (by simp), hbw⟩
set_option maxHeartbeats 4000000 in
theorem indexFunc_c (l : List (Int × Int)) (qx qy ux uy s : Int) (Bq Bp Bs : Nat) (a : Option Addr) (len cap : Nat) (w : World) (hl : l.length = len) (h1 : len ≤ 1048576) (hA : At w.heap.size a l w) (hq : BoxP w Bq (qx, qy)) (hp : BoxP w Bp (ux, uy)) (hs : BoxV w Bs (.int .i64 s) 3) (c0 : w.cell? ⟨0, 0, none⟩ = some (.int .i64 1000000)) :
    Calls Tryz.prog 85 #[.slice a len cap, .func (.func 69) #[] #[.pointer (some ⟨Bq, 0, none⟩), .pointer (some ⟨Bp, 0, none⟩), .pointer (some ⟨Bs, 0, none⟩)]] w fun e w' => ∃ n : Int, e = .returned (.int .i64 n) ∧ (decide (0 ≤ n) = !(ntB l (qx, qy) s (ux, uy))) ∧ Below w.heap.size w w' := by
  subst hl
  have HA := hid hA
  have C0 := hid c0
  have HQ := hq
  have HP := hp
  have HS := hs
  clear hA c0 hq hp hs
  go_enter Tryz.func85, Tryz.ntmps85
  go_wp2
  go_loopw [8] (fun i wr => ∃ k : Nat, k ≤ l.length ∧ i = .int .i64 k ∧ YesTo (ntT l (qx, qy) s (ux, uy)) k ∧ Below w.heap.size w wr) (fun i _ => l.length - (intOf i).toNat)
  case atStart => exact ⟨0, Nat.zero_le _, rfl, fun i hi => absurd hi (Nat.not_lt_zero _), Below.refl _ _⟩
  case round =>
    obtain ⟨k, hk, rfl, hC, hbw⟩ := hrel
    have HC := hid hC
    clear hC
    replace HQ := HQ.later hbw
    replace HP := HP.later hbw
    replace HS := HS.later hbw
    by_cases hkl : k < l.length
    · obtain ⟨b, off, rfl, hbN, g0, g1⟩ := HA.out k hkl
      have q0 := (hbw.cell (p := ⟨b, off + k * 2, none⟩) hbN).trans g0
      have q1 := (hbw.cell (p := ⟨b, off + k * 2 + 1, none⟩) hbN).trans g1
      clear g0 g1
      obtain ⟨zx, hx⟩ : ∃ z, px l k = z := ⟨_, rfl⟩
      obtain ⟨zy, hy⟩ : ∃ z, py l k = z := ⟨_, rfl⟩
      obtain ⟨v, hv⟩ : ∃ v, (sideN qx qy ux uy (px l k) (py l k) == s) = v := ⟨_, rfl⟩
      have HT := hid (show ntT l (qx, qy) s (ux, uy) k = !v by unfold ntT; rw [hv])
      rw [hx, hy] at hv
      rw [hx] at q0
      rw [hy] at q1
      clear hx hy
      have hi0 : (0 : Int) ≤ (k : Int) := by omega
      have hi1 : (k : Int) < (l.length : Int) := by omega
      cases v
      · go_wp2_with (go_at_call 69; refine (noneTo1_c _ _ qx qy ux uy s Bq Bp Bs _ HQ HP HS (cell_later hbw C0.out)).mono ?_; rw [hv]; rintro e w1 ⟨rfl, hb⟩; replace hbw := grew hbw hb; clear hb)
        go_roundw
        case rel => exact ⟨k + 1, by omega, by go_num, HC.out.succ HT.out, hbw⟩
        case measure => simp [intOf]; omega
      · go_wp2_with (go_at_call 69; refine (noneTo1_c _ _ qx qy ux uy s Bq Bp Bs _ HQ HP HS (cell_later hbw C0.out)).mono ?_; rw [hv]; rintro e w1 ⟨rfl, hb⟩; replace hbw := grew hbw hb; clear hb)
        go_ret
        exact ⟨_, rfl, by unfold ntB; rw [allT_no hkl HT.out]; simp, hbw⟩
    · obtain rfl : k = l.length := by omega
      go_wp2
      go_ret
      exact ⟨_, rfl, by unfold ntB; rw [allT_iff.2 HC.out]; simp, hbw⟩
set_option maxHeartbeats 2000000 in
theorem containsFunc_c (l : List (Int × Int)) (qx qy ux uy s : Int) (Bq Bp Bs : Nat) (a : Option Addr) (len cap : Nat) (w : World) (hl : l.length = len) (h1 : len ≤ 1048576) (hA : At w.heap.size a l w) (hq : BoxP w Bq (qx, qy)) (hp : BoxP w Bp (ux, uy)) (hs : BoxV w Bs (.int .i64 s) 3) (c0 : w.cell? ⟨0, 0, none⟩ = some (.int .i64 1000000)) :
    Calls Tryz.prog 68 #[.slice a len cap, .func (.func 69) #[] #[.pointer (some ⟨Bq, 0, none⟩), .pointer (some ⟨Bp, 0, none⟩), .pointer (some ⟨Bs, 0, none⟩)]] w fun e w' => e = .returned (.bool (!(ntB l (qx, qy) s (ux, uy)))) ∧ Below w.heap.size w w' := by
  have HA := hid hA
  have C0 := hid c0
  have HQ := hid hq
  have HP := hid hp
  have HS := hid hs
  clear hA c0 hq hp hs
  go_enter Tryz.func68, Tryz.ntmps68
  go_wp2_with (go_at_call 85; refine (indexFunc_c l qx qy ux uy s Bq Bp Bs _ _ _ _ hl h1 HA.out HQ.out HP.out HS.out C0.out).mono ?_; rintro e w1 ⟨n, rfl, hn, hb⟩; have HN := hid hn; have hb1 := hb; clear hn hb)
  go_ret
  exact ⟨ret_bool (by first | (rw [← HN.out]; done) | (rw [← HN.out]; simp)), hb1⟩
set_option maxHeartbeats 2000000 in
theorem noneTo_c (l : List (Int × Int)) (qx qy ux uy s : Int) (a : Option Addr) (len cap : Nat) (w : World) (hl : l.length = len) (h1 : len ≤ 1048576) (hA : At w.heap.size a l w) (c0 : w.cell? ⟨0, 0, none⟩ = some (.int .i64 1000000)) :
    Calls Tryz.prog 38 #[.int .i64 s, .agg #[.int .i64 qx, .int .i64 qy], .agg #[.int .i64 ux, .int .i64 uy], .slice a len cap] w fun e w' => e = .returned (.bool (ntB l (qx, qy) s (ux, uy))) ∧ Below w.heap.size w w' := by
  have HA := hid hA
  have C0 := hid c0
  clear hA c0
  have K0 := BoxV.later (BoxV.later (BoxV.new w (.int .i64 s) 3) ((Below.refl _ _).alloc (Nat.le_refl _) (.cells #[.int .i64 qx, .int .i64 qy] 26))) ((Below.refl _ _).alloc (Nat.le_refl _) (.cells #[.int .i64 ux, .int .i64 uy] 26))
  have K1 := BoxP.later (BoxP.new (w.alloc (.cells #[.int .i64 s] 3)) qx qy) ((Below.refl _ _).alloc (Nat.le_refl _) (.cells #[.int .i64 ux, .int .i64 uy] 26))
  have K2 := BoxP.new ((w.alloc (.cells #[.int .i64 s] 3)).alloc (.cells #[.int .i64 qx, .int .i64 qy] 26)) ux uy
  simp only [World.size_alloc] at K1 K2
  have hbw : Below w.heap.size w (((w.alloc (.cells #[.int .i64 s] 3)).alloc (.cells #[.int .i64 qx, .int .i64 qy] 26)).alloc (.cells #[.int .i64 ux, .int .i64 uy] 26)) := by go_grown
  go_enter Tryz.func38, Tryz.ntmps38
  go_upto_region 1 with fail
  generalize ((w.alloc (.cells #[.int .i64 s] 3)).alloc (.cells #[.int .i64 qx, .int .i64 qy] 26)).alloc (.cells #[.int .i64 ux, .int .i64 uy] 26) = w0 at K0 K1 K2 hbw ⊢
  go_wp2_with (go_at_call 68; refine (containsFunc_c l qx qy ux uy s _ _ _ _ _ _ _ hl h1 ((HA.out.later hbw).mono hbw.size) K1 K2 K0 (cell_later hbw C0.out)).mono ?_; rintro e w1 ⟨rfl, hb⟩; replace hbw := grew hbw hb; clear hb)
  go_ret
  exact ⟨ret_bool (by simp), hbw⟩
set_option maxHeartbeats 8000000 in
theorem isTangentSpec_c (l : List (Int × Int)) (x y u v : Int) (a : Option Addr) (len cap : Nat) (w : World) (hl : l.length = len) (h1 : len ≤ 1048576) (hA : At w.heap.size a l w) :
    Calls Tryz.prog 13 #[.slice a len cap, .agg #[.int .i64 x, .int .i64 y], .agg #[.int .i64 u, .int .i64 v]] w fun e w' => e = .returned (.tuple #[.bool (itB l x y u v), .bool (itOk l x y u v)]) ∧ Below w.heap.size w w' := by
  subst hl
  have HA := hid hA
  clear hA
  have hbw : Below w.heap.size w ((w.alloc (.cells #[.int .i64 x, .int .i64 y] 26)).alloc (.cells #[.int .i64 u, .int .i64 v] 26)) := by go_grown
  have K0 := BoxP.later (BoxP.new w x y) ((Below.refl _ _).alloc (Nat.le_refl _) (.cells #[.int .i64 u, .int .i64 v] 26))
  have K1 := BoxP.new (w.alloc (.cells #[.int .i64 x, .int .i64 y] 26)) u v
  simp only [World.size_alloc] at K1
  go_enter Tryz.func13, Tryz.ntmps13
  go_upto_region 1 with fail
  generalize ((w.alloc (.cells #[.int .i64 x, .int .i64 y] 26)).alloc (.cells #[.int .i64 u, .int .i64 v] 26)) = w0 at hbw K0 K1 ⊢
  have k0 := K0.c0
  have k1 := K0.c1
  have k2 := K1.c0
  have k3 := K1.c1
  clear K0 K1
  cases hz : tgOk l x y
  · have HZ := hid (show itOk l x y u v = false by unfold itOk; rw [hz]; rfl)
    go_wp2_with (go_at_call 26; refine (outside_c l x y _ _ _ _ rfl h1 ((HA.out.later hbw).mono hbw.size)).mono ?_; rw [hz]; rintro e w1 ⟨rfl, hb⟩; replace hbw := grew hbw hb; replace k0 := cell_later hb k0; replace k1 := cell_later hb k1; replace k2 := cell_later hb k2; replace k3 := cell_later hb k3; clear hb)
    go_ret2
    exact ⟨ret_bb (by unfold itB; rw [HZ.out]; rfl) HZ.out.symm, hbw⟩
  · cases hm : decide ((u, v) ∈ l)
    · have HZ := hid (show itOk l x y u v = false by unfold itOk; rw [hz, hm]; rfl)
      go_wp2_with (first | (go_at_call 26; refine (outside_c l x y _ _ _ _ rfl h1 ((HA.out.later hbw).mono hbw.size)).mono ?_; rw [hz]; rintro e w1 ⟨rfl, hb⟩; replace hbw := grew hbw hb; replace k0 := cell_later hb k0; replace k1 := cell_later hb k1; replace k2 := cell_later hb k2; replace k3 := cell_later hb k3; clear hb) | (go_at_call 39; refine (has_c l u v _ _ _ _ rfl h1 ((HA.out.later hbw).mono hbw.size)).mono ?_; rw [hm]; rintro e w2 ⟨rfl, hb⟩; replace hbw := grew hbw hb; replace k0 := cell_later hb k0; replace k1 := cell_later hb k1; replace k2 := cell_later hb k2; replace k3 := cell_later hb k3; clear hb))
      go_ret2
      exact ⟨ret_bb (by unfold itB; rw [HZ.out]; rfl) HZ.out.symm, hbw⟩
    · have HZ := hid (show itOk l x y u v = true by unfold itOk; rw [hz, hm]; rfl)
      skip
      have tk1 : True := trivial
      cases hf1 : frB l (x, y) (-1) (u, v)
      · cases hf2 : frB l (x, y) 1 (u, v)
        · have HV := hid (show itB l x y u v = false by unfold itB; rw [HZ.out, hf1, hf2]; rfl)
          go_wp2_with (first | (go_at_call 26; refine (outside_c l x y _ _ _ _ rfl h1 ((HA.out.later hbw).mono hbw.size)).mono ?_; rw [hz]; rintro e w1 ⟨rfl, hb⟩; replace hbw := grew hbw hb; replace k0 := cell_later hb k0; replace k1 := cell_later hb k1; replace k2 := cell_later hb k2; replace k3 := cell_later hb k3; clear hb) | (go_at_call 39; refine (has_c l u v _ _ _ _ rfl h1 ((HA.out.later hbw).mono hbw.size)).mono ?_; rw [hm]; rintro e w2 ⟨rfl, hb⟩; replace hbw := grew hbw hb; replace k0 := cell_later hb k0; replace k1 := cell_later hb k1; replace k2 := cell_later hb k2; replace k3 := cell_later hb k3; clear hb) | (go_at_call 40; clear tk1; refine (free_c l x y u v (-1) _ _ _ _ rfl h1 ((HA.out.later hbw).mono hbw.size)).mono ?_; rw [hf1]; rintro e w3 ⟨rfl, hb⟩; replace hbw := grew hbw hb; replace k0 := cell_later hb k0; replace k1 := cell_later hb k1; replace k2 := cell_later hb k2; replace k3 := cell_later hb k3; clear hb) | (go_at_call 40; refine (free_c l x y u v (1) _ _ _ _ rfl h1 ((HA.out.later hbw).mono hbw.size)).mono ?_; rw [hf2]; rintro e w3 ⟨rfl, hb⟩; replace hbw := grew hbw hb; replace k0 := cell_later hb k0; replace k1 := cell_later hb k1; replace k2 := cell_later hb k2; replace k3 := cell_later hb k3; clear hb))
          go_ret2
          exact ⟨ret_bb HV.out.symm HZ.out.symm, hbw⟩
        · have HV := hid (show itB l x y u v = true by unfold itB; rw [HZ.out, hf1, hf2]; rfl)
          go_wp2_with (first | (go_at_call 26; refine (outside_c l x y _ _ _ _ rfl h1 ((HA.out.later hbw).mono hbw.size)).mono ?_; rw [hz]; rintro e w1 ⟨rfl, hb⟩; replace hbw := grew hbw hb; replace k0 := cell_later hb k0; replace k1 := cell_later hb k1; replace k2 := cell_later hb k2; replace k3 := cell_later hb k3; clear hb) | (go_at_call 39; refine (has_c l u v _ _ _ _ rfl h1 ((HA.out.later hbw).mono hbw.size)).mono ?_; rw [hm]; rintro e w2 ⟨rfl, hb⟩; replace hbw := grew hbw hb; replace k0 := cell_later hb k0; replace k1 := cell_later hb k1; replace k2 := cell_later hb k2; replace k3 := cell_later hb k3; clear hb) | (go_at_call 40; clear tk1; refine (free_c l x y u v (-1) _ _ _ _ rfl h1 ((HA.out.later hbw).mono hbw.size)).mono ?_; rw [hf1]; rintro e w3 ⟨rfl, hb⟩; replace hbw := grew hbw hb; replace k0 := cell_later hb k0; replace k1 := cell_later hb k1; replace k2 := cell_later hb k2; replace k3 := cell_later hb k3; clear hb) | (go_at_call 40; refine (free_c l x y u v (1) _ _ _ _ rfl h1 ((HA.out.later hbw).mono hbw.size)).mono ?_; rw [hf2]; rintro e w3 ⟨rfl, hb⟩; replace hbw := grew hbw hb; replace k0 := cell_later hb k0; replace k1 := cell_later hb k1; replace k2 := cell_later hb k2; replace k3 := cell_later hb k3; clear hb))
          go_ret2
          exact ⟨ret_bb HV.out.symm HZ.out.symm, hbw⟩
      · have HV := hid (show itB l x y u v = true by unfold itB; rw [HZ.out, hf1]; rfl)
        go_wp2_with (first | (go_at_call 26; refine (outside_c l x y _ _ _ _ rfl h1 ((HA.out.later hbw).mono hbw.size)).mono ?_; rw [hz]; rintro e w1 ⟨rfl, hb⟩; replace hbw := grew hbw hb; replace k0 := cell_later hb k0; replace k1 := cell_later hb k1; replace k2 := cell_later hb k2; replace k3 := cell_later hb k3; clear hb) | (go_at_call 39; refine (has_c l u v _ _ _ _ rfl h1 ((HA.out.later hbw).mono hbw.size)).mono ?_; rw [hm]; rintro e w2 ⟨rfl, hb⟩; replace hbw := grew hbw hb; replace k0 := cell_later hb k0; replace k1 := cell_later hb k1; replace k2 := cell_later hb k2; replace k3 := cell_later hb k3; clear hb) | (go_at_call 40; clear tk1; refine (free_c l x y u v (-1) _ _ _ _ rfl h1 ((HA.out.later hbw).mono hbw.size)).mono ?_; rw [hf1]; rintro e w3 ⟨rfl, hb⟩; replace hbw := grew hbw hb; replace k0 := cell_later hb k0; replace k1 := cell_later hb k1; replace k2 := cell_later hb k2; replace k3 := cell_later hb k3; clear hb))
        go_ret2
        exact ⟨ret_bb HV.out.symm HZ.out.symm, hbw⟩
set_option maxHeartbeats 8000000 in
theorem isTangentImpl_c (l : List (Int × Int)) (x y u v : Int) (a : Option Addr) (len cap : Nat) (w : World) (hl : l.length = len) (h1 : len ≤ 1048576) (hA : At w.heap.size a l w) (c0 : w.cell? ⟨0, 0, none⟩ = some (.int .i64 1000000)) :
    Calls Tryz.prog 12 #[.slice a len cap, .agg #[.int .i64 x, .int .i64 y], .agg #[.int .i64 u, .int .i64 v]] w fun e w' => e = .returned (.tuple #[.bool (itB l x y u v), .bool (itOk l x y u v)]) ∧ Below w.heap.size w w' := by
  subst hl
  have HA := hid hA
  have C0 := hid c0
  clear hA c0
  have hbw : Below w.heap.size w ((w.alloc (.cells #[.int .i64 x, .int .i64 y] 26)).alloc (.cells #[.int .i64 u, .int .i64 v] 26)) := by go_grown
  have K0 := BoxP.later (BoxP.new w x y) ((Below.refl _ _).alloc (Nat.le_refl _) (.cells #[.int .i64 u, .int .i64 v] 26))
  have K1 := BoxP.new (w.alloc (.cells #[.int .i64 x, .int .i64 y] 26)) u v
  simp only [World.size_alloc] at K1
  go_enter Tryz.func12, Tryz.ntmps12
  go_upto_region 1 with fail
  generalize ((w.alloc (.cells #[.int .i64 x, .int .i64 y] 26)).alloc (.cells #[.int .i64 u, .int .i64 v] 26)) = w0 at hbw K0 K1 ⊢
  have k0 := K0.c0
  have k1 := K0.c1
  have k2 := K1.c0
  have k3 := K1.c1
  clear K0 K1
  cases hz : tgOk l x y
  · have HZ := hid (show itOk l x y u v = false by unfold itOk; rw [hz]; rfl)
    go_wp2_with (go_at_call 23; refine (seenFrom_c l x y _ _ _ _ rfl h1 ((HA.out.later hbw).mono hbw.size) (cell_later hbw C0.out)).mono ?_; rw [hz]; rintro e w1 ⟨rfl, hb⟩; replace hbw := grew hbw hb; replace k0 := cell_later hb k0; replace k1 := cell_later hb k1; replace k2 := cell_later hb k2; replace k3 := cell_later hb k3; clear hb)
    go_ret2
    exact ⟨ret_bb (by unfold itB; rw [HZ.out]; rfl) HZ.out.symm, hbw⟩
  · cases hm : decide ((u, v) ∈ l)
    · have HZ := hid (show itOk l x y u v = false by unfold itOk; rw [hz, hm]; rfl)
      go_wp2_with (first | (go_at_call 23; refine (seenFrom_c l x y _ _ _ _ rfl h1 ((HA.out.later hbw).mono hbw.size) (cell_later hbw C0.out)).mono ?_; rw [hz]; rintro e w1 ⟨rfl, hb⟩; replace hbw := grew hbw hb; replace k0 := cell_later hb k0; replace k1 := cell_later hb k1; replace k2 := cell_later hb k2; replace k3 := cell_later hb k3; clear hb) | (go_at_call 37; refine (contains_c l u v _ _ _ _ rfl h1 ((HA.out.later hbw).mono hbw.size)).mono ?_; rw [hm]; rintro e w2 ⟨rfl, hb⟩; replace hbw := grew hbw hb; replace k0 := cell_later hb k0; replace k1 := cell_later hb k1; replace k2 := cell_later hb k2; replace k3 := cell_later hb k3; clear hb))
      go_ret2
      exact ⟨ret_bb (by unfold itB; rw [HZ.out]; rfl) HZ.out.symm, hbw⟩
    · have HZ := hid (show itOk l x y u v = true by unfold itOk; rw [hz, hm]; rfl)
      obtain ⟨hgh, _, _, hgp, _⟩ := tgOk_parts hz
      have HNT := hid (fun s => nt_fr (h := l) (q := (x, y)) (p := (u, v)) (ghB_all hgh) hgp (ghB_all hgh _ (of_decide_eq_true hm)) s)
      clear hgh hgp
      have tk1 : True := trivial
      cases hf1 : frB l (x, y) (-1) (u, v)
      · cases hf2 : frB l (x, y) 1 (u, v)
        · have HV := hid (show itB l x y u v = false by unfold itB; rw [HZ.out, hf1, hf2]; rfl)
          go_wp2_with (first | (go_at_call 23; refine (seenFrom_c l x y _ _ _ _ rfl h1 ((HA.out.later hbw).mono hbw.size) (cell_later hbw C0.out)).mono ?_; rw [hz]; rintro e w1 ⟨rfl, hb⟩; replace hbw := grew hbw hb; replace k0 := cell_later hb k0; replace k1 := cell_later hb k1; replace k2 := cell_later hb k2; replace k3 := cell_later hb k3; clear hb) | (go_at_call 37; refine (contains_c l u v _ _ _ _ rfl h1 ((HA.out.later hbw).mono hbw.size)).mono ?_; rw [hm]; rintro e w2 ⟨rfl, hb⟩; replace hbw := grew hbw hb; replace k0 := cell_later hb k0; replace k1 := cell_later hb k1; replace k2 := cell_later hb k2; replace k3 := cell_later hb k3; clear hb) | (go_at_call 38; clear tk1; refine (noneTo_c l x y u v (-1) _ _ _ _ rfl h1 ((HA.out.later hbw).mono hbw.size) (cell_later hbw C0.out)).mono ?_; rw [HNT.out (-1), hf1]; rintro e w3 ⟨rfl, hb⟩; replace hbw := grew hbw hb; replace k0 := cell_later hb k0; replace k1 := cell_later hb k1; replace k2 := cell_later hb k2; replace k3 := cell_later hb k3; clear hb) | (go_at_call 38; refine (noneTo_c l x y u v (1) _ _ _ _ rfl h1 ((HA.out.later hbw).mono hbw.size) (cell_later hbw C0.out)).mono ?_; rw [HNT.out (1), hf2]; rintro e w3 ⟨rfl, hb⟩; replace hbw := grew hbw hb; replace k0 := cell_later hb k0; replace k1 := cell_later hb k1; replace k2 := cell_later hb k2; replace k3 := cell_later hb k3; clear hb))
          go_ret2
          exact ⟨ret_bb HV.out.symm HZ.out.symm, hbw⟩
        · have HV := hid (show itB l x y u v = true by unfold itB; rw [HZ.out, hf1, hf2]; rfl)
          go_wp2_with (first | (go_at_call 23; refine (seenFrom_c l x y _ _ _ _ rfl h1 ((HA.out.later hbw).mono hbw.size) (cell_later hbw C0.out)).mono ?_; rw [hz]; rintro e w1 ⟨rfl, hb⟩; replace hbw := grew hbw hb; replace k0 := cell_later hb k0; replace k1 := cell_later hb k1; replace k2 := cell_later hb k2; replace k3 := cell_later hb k3; clear hb) | (go_at_call 37; refine (contains_c l u v _ _ _ _ rfl h1 ((HA.out.later hbw).mono hbw.size)).mono ?_; rw [hm]; rintro e w2 ⟨rfl, hb⟩; replace hbw := grew hbw hb; replace k0 := cell_later hb k0; replace k1 := cell_later hb k1; replace k2 := cell_later hb k2; replace k3 := cell_later hb k3; clear hb) | (go_at_call 38; clear tk1; refine (noneTo_c l x y u v (-1) _ _ _ _ rfl h1 ((HA.out.later hbw).mono hbw.size) (cell_later hbw C0.out)).mono ?_; rw [HNT.out (-1), hf1]; rintro e w3 ⟨rfl, hb⟩; replace hbw := grew hbw hb; replace k0 := cell_later hb k0; replace k1 := cell_later hb k1; replace k2 := cell_later hb k2; replace k3 := cell_later hb k3; clear hb) | (go_at_call 38; refine (noneTo_c l x y u v (1) _ _ _ _ rfl h1 ((HA.out.later hbw).mono hbw.size) (cell_later hbw C0.out)).mono ?_; rw [HNT.out (1), hf2]; rintro e w3 ⟨rfl, hb⟩; replace hbw := grew hbw hb; replace k0 := cell_later hb k0; replace k1 := cell_later hb k1; replace k2 := cell_later hb k2; replace k3 := cell_later hb k3; clear hb))
          go_ret2
          exact ⟨ret_bb HV.out.symm HZ.out.symm, hbw⟩
      · have HV := hid (show itB l x y u v = true by unfold itB; rw [HZ.out, hf1]; rfl)
        go_wp2_with (first | (go_at_call 23; refine (seenFrom_c l x y _ _ _ _ rfl h1 ((HA.out.later hbw).mono hbw.size) (cell_later hbw C0.out)).mono ?_; rw [hz]; rintro e w1 ⟨rfl, hb⟩; replace hbw := grew hbw hb; replace k0 := cell_later hb k0; replace k1 := cell_later hb k1; replace k2 := cell_later hb k2; replace k3 := cell_later hb k3; clear hb) | (go_at_call 37; refine (contains_c l u v _ _ _ _ rfl h1 ((HA.out.later hbw).mono hbw.size)).mono ?_; rw [hm]; rintro e w2 ⟨rfl, hb⟩; replace hbw := grew hbw hb; replace k0 := cell_later hb k0; replace k1 := cell_later hb k1; replace k2 := cell_later hb k2; replace k3 := cell_later hb k3; clear hb) | (go_at_call 38; clear tk1; refine (noneTo_c l x y u v (-1) _ _ _ _ rfl h1 ((HA.out.later hbw).mono hbw.size) (cell_later hbw C0.out)).mono ?_; rw [HNT.out (-1), hf1]; rintro e w3 ⟨rfl, hb⟩; replace hbw := grew hbw hb; replace k0 := cell_later hb k0; replace k1 := cell_later hb k1; replace k2 := cell_later hb k2; replace k3 := cell_later hb k3; clear hb))
        go_ret2
        exact ⟨ret_bb HV.out.symm HZ.out.symm, hbw⟩
end Go.Proofs.YtegmlemejmahiaaGreatDoor
