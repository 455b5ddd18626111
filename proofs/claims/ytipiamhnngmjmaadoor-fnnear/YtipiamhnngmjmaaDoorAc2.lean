/-
  What is held at a corner of a hull, as the specification has it (contracts for the walks).
  Conditions: as each theorem states them.
-/
import Derived.Test.YtipiamhnngmjmaaDoorAc1
namespace Go.Proofs.YtipiamhnngmjmaaDoor
open Go.RowKit Go.Shelf
set_option linter.unusedVariables false
set_option maxRecDepth 8000
theorem sideS_z (l : List (Int × Int)) (kk : Int) (k : Nat) (e0 e1 : Int) (a : Option Addr) (len cap : Nat) (w : World) (hkk : kk = (k : Int)) (hl : l.length = len) (h1 : len ≤ 1048576) (h0 : 0 < len) (hk : k ≤ 2097152) (hA : At w.heap.size a l w) (HG : allG l) (he : vec (pt l (k % l.length)) (pt l ((k + 1) % l.length)) = (e0, e1)) :
    Calls Tryd.prog 84 #[.slice a len cap, .int .i64 kk] w fun e w' => e = .returned (.agg #[.int .i64 e0, .int .i64 e1]) ∧ Below w.heap.size w w' := by
  subst hkk
  exact sideS_c l k e0 e1 a len cap w hl h1 h0 hk hA HG he
theorem sidE_eq {l : List (Int × Int)} (k : Nat) : vec (pt l ((k + l.length - 1) % l.length)) (pt l ((k + l.length - 1 + 1) % l.length)) = sidE l k := by
  unfold sidE sid
  rw [Nat.mod_add_mod]
theorem sid_eq {l : List (Int × Int)} {k : Nat} (h : k < l.length) : vec (pt l (k % l.length)) (pt l ((k + 1) % l.length)) = sid l k := by
  unfold sid
  rw [Nat.mod_eq_of_lt h]
theorem not_both {e b d : Int × Int} (h : 0 < cx e b) (hd : d ≠ (0, 0)) (h1 : cx e d = 0) (h2 : cx d b = 0) : False := by
  have k1 := ray_first h hd h1 (by omega)
  have r := ray e b d h1
  rw [cx_anti d b, cx_anti e b, h2, Int.mul_neg] at r
  have := Int.mul_pos k1 h
  simp at r
  omega
theorem sg_cs (n : Int) : (n < 0 ∧ sg n = -1) ∨ (n = 0 ∧ sg n = 0) ∨ (0 < n ∧ sg n = 1) := by
  unfold sg
  split
  · exact .inl ⟨by omega, rfl⟩
  · split
    · exact .inr (.inr ⟨by omega, rfl⟩)
    · exact .inr (.inl ⟨by omega, rfl⟩)
theorem sgq_neg {n : Int} (h : n < 0) : sg n = -1 := by rcases sg_cs n with ⟨_, e⟩ | ⟨k, _⟩ | ⟨k, _⟩ <;> first | exact e | omega
theorem sgq_zero {n : Int} (h : n = 0) : sg n = 0 := by rcases sg_cs n with ⟨k, _⟩ | ⟨_, e⟩ | ⟨k, _⟩ <;> first | exact e | omega
theorem sgq_pos {n : Int} (h : 0 < n) : sg n = 1 := by rcases sg_cs n with ⟨k, _⟩ | ⟨k, _⟩ | ⟨_, e⟩ <;> first | exact e | omega
theorem hldI_no1 {e b d : Int × Int} (h : cx e d < 0) : hldI e b d = false := by
  cases k : hldI e b d with
  | false => rfl
  | true => have := ((hldI_iff _ _ _).1 k).1; omega
theorem hldI_no2 {e b d : Int × Int} (h : cx d b < 0) : hldI e b d = false := by
  cases k : hldI e b d with
  | false => rfl
  | true => have := ((hldI_iff _ _ _).1 k).2; omega
theorem dot_exact {a b : Int × Int} (ha : dirB a) (hb : dirB b) : wrap64 (wrap64 (a.1 * b.1) + wrap64 (a.2 * b.2)) = dt a b := by
  have m1 := mulB ha.1 hb.1
  have m2 := mulB ha.2 hb.2
  rw [wrap_in (x := a.1 * b.1) (by omega) (by omega), wrap_in (x := a.2 * b.2) (by omega) (by omega), wrap_in (by omega) (by omega)]
  rfl
set_option maxHeartbeats 8000000 in
theorem holdsS_c (l : List (Int × Int)) (k : Nat) (d0 d1 : Int) (a : Option Addr) (len cap : Nat) (w : World) (hl : l.length = len) (h1 : len ≤ 1048576) (hk : k < len) (hA : At w.heap.size a l w) (HG : allG l) (hT : 0 < cx (sidE l k) (sid l k)) (hD : dirB (d0, d1)) (hn : (d0, d1) ≠ (0, 0)) :
    Calls Tryd.prog 85 #[.slice a len cap, .int .i64 (k : Int), .agg #[.int .i64 d0, .int .i64 d1]] w fun e w' => e = .returned (.bool (hldI (sidE l k) (sid l k) (d0, d1))) ∧ Below w.heap.size w w' := by
  subst hl
  replace HG := hid HG
  have HA := hid hA
  clear hA
  have h0 : 0 < l.length := by omega
  obtain ⟨⟨e0, e1⟩, hE⟩ : ∃ e, sidE l k = e := ⟨_, rfl⟩
  obtain ⟨⟨b0, b1⟩, hB⟩ : ∃ e, sid l k = e := ⟨_, rfl⟩
  obtain ⟨k1, hk1⟩ : ∃ q, k + l.length - 1 = q := ⟨_, rfl⟩
  have HE1 := hid (show vec (pt l (k1 % l.length)) (pt l ((k1 + 1) % l.length)) = (e0, e1) by rw [← hk1, sidE_eq, hE])
  have HE2 := hid (show vec (pt l (k % l.length)) (pt l ((k + 1) % l.length)) = (b0, b1) by rw [sid_eq hk, hB])
  have HDE := hid (show dirB (e0, e1) from hE ▸ sidE_dir HG.out h0 k)
  have HDB := hid (show dirB (b0, b1) from hB ▸ sid_dir HG.out h0 hk)
  have HDD := hid hD
  rw [hE, hB] at hT ⊢
  have hw1 : IntKind.i64.wrap ((k : Int) + (l.length : Int)) = (k : Int) + (l.length : Int) := by rw [IntKind.wrap_i64]; omega
  clear hE hB hD hw1
  rcases Int.lt_trichotomy (cx (e0, e1) (d0, d1)) 0 with t1 | t1 | t1
  · have HVAL : hldI (e0, e1) (b0, b1) (d0, d1) = false := hldI_no1 t1
    have HQ1 := hid (sgq_neg t1)
    rw [HVAL]
    clear HVAL t1 hT hn
    go_enter Tryd.func85, Tryd.ntmps85
    go_upto_region 1 with fail
    have K5 := BoxP.new w d0 d1
    have hbw : Below w.heap.size w (w.alloc (.cells #[.int .i64 d0, .int .i64 d1] 26)) := by go_grown
    generalize w.heap.size = B5 at K5 ⊢
    generalize w.alloc (.cells #[.int .i64 d0, .int .i64 d1] 26) = w0 at K5 hbw ⊢
    go_upto_region 2 with (go_at_call 84; refine (sideS_z l _ k1 e0 e1 _ _ _ _ (by first | omega | (unfold wrap64; omega)) rfl h1 h0 (by omega) ((HA.out.later hbw).mono hbw.size) HG.out HE1.out).mono ?_; rintro e w1 ⟨rfl, hb⟩; replace K5 := K5.later hb; replace hbw := grew hbw hb; clear hb)
    have K7 := BoxP.new w1 e0 e1
    have hb : Below w1.heap.size w1 (w1.alloc (.cells #[.int .i64 e0, .int .i64 e1] 26)) := by go_grown
    replace K5 := K5.later hb
    replace hbw := grew hbw hb
    clear hb
    generalize w1.heap.size = B7 at K7 ⊢
    generalize w1.alloc (.cells #[.int .i64 e0, .int .i64 e1] 26) = w2 at K5 K7 hbw ⊢
    go_upto_region 3 with (go_at_call 84; refine (sideS_z l _ k b0 b1 _ _ _ _ rfl rfl h1 h0 (by omega) ((HA.out.later hbw).mono hbw.size) HG.out HE2.out).mono ?_; rintro e w3 ⟨rfl, hb⟩; replace K5 := K5.later hb; replace K7 := K7.later hb; replace hbw := grew hbw hb; clear hb)
    have K8 := BoxP.new w3 b0 b1
    have hb : Below w3.heap.size w3 (w3.alloc (.cells #[.int .i64 b0, .int .i64 b1] 26)) := by go_grown
    replace K5 := K5.later hb
    replace K7 := K7.later hb
    replace hbw := grew hbw hb
    clear hb
    generalize w3.heap.size = B8 at K8 ⊢
    generalize w3.alloc (.cells #[.int .i64 b0, .int .i64 b1] 26) = w4 at K5 K7 K8 hbw ⊢
    have d0c := K5.c0
    have d1c := K5.c1
    have e0c := K7.c0
    have e1c := K7.c1
    have b0c := K8.c0
    have b1c := K8.c1
    have tkA : True := trivial
    have tkB : True := trivial
    have tkC : True := trivial
    go_wp2_with (first
      | (go_at_call 104; clear tkA; refine (turnS_q _ _ _ _ _ _ HDE.out HDD.out HQ1.out).mono ?_; rintro e wn ⟨rfl, hb⟩; replace K5 := K5.later hb; replace K7 := K7.later hb; replace K8 := K8.later hb; replace hbw := grew hbw hb; clear hb; have d0c := K5.c0; have d1c := K5.c1; have e0c := K7.c0; have e1c := K7.c1; have b0c := K8.c0; have b1c := K8.c1)
      | (go_at_call 104; clear tkB; refine (turnS_q _ _ _ _ _ _ HDD.out HDB.out HQ2.out).mono ?_; rintro e wn ⟨rfl, hb⟩; replace K5 := K5.later hb; replace K7 := K7.later hb; replace K8 := K8.later hb; replace hbw := grew hbw hb; clear hb; have d0c := K5.c0; have d1c := K5.c1; have e0c := K7.c0; have e1c := K7.c1; have b0c := K8.c0; have b1c := K8.c1)
      | (go_at_call 104; clear tkC; refine (turnS_q _ _ _ _ _ _ HDE.out HDD.out HQ1.out).mono ?_; rintro e wn ⟨rfl, hb⟩; replace K5 := K5.later hb; replace K7 := K7.later hb; replace K8 := K8.later hb; replace hbw := grew hbw hb; clear hb; have d0c := K5.c0; have d1c := K5.c1; have e0c := K7.c0; have e1c := K7.c1; have b0c := K8.c0; have b1c := K8.c1)
      | (go_at_call 104; refine (turnS_q _ _ _ _ _ _ HDD.out HDB.out HQ2.out).mono ?_; rintro e wn ⟨rfl, hb⟩; replace K5 := K5.later hb; replace K7 := K7.later hb; replace K8 := K8.later hb; replace hbw := grew hbw hb; clear hb; have d0c := K5.c0; have d1c := K5.c1; have e0c := K7.c0; have e1c := K7.c1; have b0c := K8.c0; have b1c := K8.c1))
    go_ret
    exact ⟨by first | rfl | simp, hbw⟩
  · rcases Int.lt_trichotomy (cx (d0, d1) (b0, b1)) 0 with t2 | t2 | t2
    · have HVAL : hldI (e0, e1) (b0, b1) (d0, d1) = false := hldI_no2 t2
      have HQ1 := hid (sgq_zero t1)
      have HQ2 := hid (sgq_neg t2)
      rw [HVAL]
      clear HVAL t1 t2 hT hn
      go_enter Tryd.func85, Tryd.ntmps85
      go_upto_region 1 with fail
      have K5 := BoxP.new w d0 d1
      have hbw : Below w.heap.size w (w.alloc (.cells #[.int .i64 d0, .int .i64 d1] 26)) := by go_grown
      generalize w.heap.size = B5 at K5 ⊢
      generalize w.alloc (.cells #[.int .i64 d0, .int .i64 d1] 26) = w0 at K5 hbw ⊢
      go_upto_region 2 with (go_at_call 84; refine (sideS_z l _ k1 e0 e1 _ _ _ _ (by first | omega | (unfold wrap64; omega)) rfl h1 h0 (by omega) ((HA.out.later hbw).mono hbw.size) HG.out HE1.out).mono ?_; rintro e w1 ⟨rfl, hb⟩; replace K5 := K5.later hb; replace hbw := grew hbw hb; clear hb)
      have K7 := BoxP.new w1 e0 e1
      have hb : Below w1.heap.size w1 (w1.alloc (.cells #[.int .i64 e0, .int .i64 e1] 26)) := by go_grown
      replace K5 := K5.later hb
      replace hbw := grew hbw hb
      clear hb
      generalize w1.heap.size = B7 at K7 ⊢
      generalize w1.alloc (.cells #[.int .i64 e0, .int .i64 e1] 26) = w2 at K5 K7 hbw ⊢
      go_upto_region 3 with (go_at_call 84; refine (sideS_z l _ k b0 b1 _ _ _ _ rfl rfl h1 h0 (by omega) ((HA.out.later hbw).mono hbw.size) HG.out HE2.out).mono ?_; rintro e w3 ⟨rfl, hb⟩; replace K5 := K5.later hb; replace K7 := K7.later hb; replace hbw := grew hbw hb; clear hb)
      have K8 := BoxP.new w3 b0 b1
      have hb : Below w3.heap.size w3 (w3.alloc (.cells #[.int .i64 b0, .int .i64 b1] 26)) := by go_grown
      replace K5 := K5.later hb
      replace K7 := K7.later hb
      replace hbw := grew hbw hb
      clear hb
      generalize w3.heap.size = B8 at K8 ⊢
      generalize w3.alloc (.cells #[.int .i64 b0, .int .i64 b1] 26) = w4 at K5 K7 K8 hbw ⊢
      have d0c := K5.c0
      have d1c := K5.c1
      have e0c := K7.c0
      have e1c := K7.c1
      have b0c := K8.c0
      have b1c := K8.c1
      have tkA : True := trivial
      have tkB : True := trivial
      have tkC : True := trivial
      go_wp2_with (first
        | (go_at_call 104; clear tkA; refine (turnS_q _ _ _ _ _ _ HDE.out HDD.out HQ1.out).mono ?_; rintro e wn ⟨rfl, hb⟩; replace K5 := K5.later hb; replace K7 := K7.later hb; replace K8 := K8.later hb; replace hbw := grew hbw hb; clear hb; have d0c := K5.c0; have d1c := K5.c1; have e0c := K7.c0; have e1c := K7.c1; have b0c := K8.c0; have b1c := K8.c1)
        | (go_at_call 104; clear tkB; refine (turnS_q _ _ _ _ _ _ HDD.out HDB.out HQ2.out).mono ?_; rintro e wn ⟨rfl, hb⟩; replace K5 := K5.later hb; replace K7 := K7.later hb; replace K8 := K8.later hb; replace hbw := grew hbw hb; clear hb; have d0c := K5.c0; have d1c := K5.c1; have e0c := K7.c0; have e1c := K7.c1; have b0c := K8.c0; have b1c := K8.c1)
        | (go_at_call 104; clear tkC; refine (turnS_q _ _ _ _ _ _ HDE.out HDD.out HQ1.out).mono ?_; rintro e wn ⟨rfl, hb⟩; replace K5 := K5.later hb; replace K7 := K7.later hb; replace K8 := K8.later hb; replace hbw := grew hbw hb; clear hb; have d0c := K5.c0; have d1c := K5.c1; have e0c := K7.c0; have e1c := K7.c1; have b0c := K8.c0; have b1c := K8.c1)
        | (go_at_call 104; refine (turnS_q _ _ _ _ _ _ HDD.out HDB.out HQ2.out).mono ?_; rintro e wn ⟨rfl, hb⟩; replace K5 := K5.later hb; replace K7 := K7.later hb; replace K8 := K8.later hb; replace hbw := grew hbw hb; clear hb; have d0c := K5.c0; have d1c := K5.c1; have e0c := K7.c0; have e1c := K7.c1; have b0c := K8.c0; have b1c := K8.c1))
      go_ret
      exact ⟨by first | rfl | simp, hbw⟩
    · exact (not_both hT hn t1 t2).elim
    · have HVAL : hldI (e0, e1) (b0, b1) (d0, d1) = true := (hldI_iff _ _ _).2 ⟨by omega, by omega⟩
      have hp := ray_first hT hn t1 (by omega)
      rw [← dot_exact HDE.out HDD.out] at hp
      simp only at hp
      have hp2 : decide (0 < wrap64 (wrap64 (e0 * d0) + wrap64 (e1 * d1))) = true := decide_eq_true hp
      have HQ1 := hid (sgq_zero t1)
      have HQ2 := hid (sgq_pos t2)
      rw [HVAL]
      clear HVAL t1 t2 hT hn
      go_enter Tryd.func85, Tryd.ntmps85
      go_upto_region 1 with fail
      have K5 := BoxP.new w d0 d1
      have hbw : Below w.heap.size w (w.alloc (.cells #[.int .i64 d0, .int .i64 d1] 26)) := by go_grown
      generalize w.heap.size = B5 at K5 ⊢
      generalize w.alloc (.cells #[.int .i64 d0, .int .i64 d1] 26) = w0 at K5 hbw ⊢
      go_upto_region 2 with (go_at_call 84; refine (sideS_z l _ k1 e0 e1 _ _ _ _ (by first | omega | (unfold wrap64; omega)) rfl h1 h0 (by omega) ((HA.out.later hbw).mono hbw.size) HG.out HE1.out).mono ?_; rintro e w1 ⟨rfl, hb⟩; replace K5 := K5.later hb; replace hbw := grew hbw hb; clear hb)
      have K7 := BoxP.new w1 e0 e1
      have hb : Below w1.heap.size w1 (w1.alloc (.cells #[.int .i64 e0, .int .i64 e1] 26)) := by go_grown
      replace K5 := K5.later hb
      replace hbw := grew hbw hb
      clear hb
      generalize w1.heap.size = B7 at K7 ⊢
      generalize w1.alloc (.cells #[.int .i64 e0, .int .i64 e1] 26) = w2 at K5 K7 hbw ⊢
      go_upto_region 3 with (go_at_call 84; refine (sideS_z l _ k b0 b1 _ _ _ _ rfl rfl h1 h0 (by omega) ((HA.out.later hbw).mono hbw.size) HG.out HE2.out).mono ?_; rintro e w3 ⟨rfl, hb⟩; replace K5 := K5.later hb; replace K7 := K7.later hb; replace hbw := grew hbw hb; clear hb)
      have K8 := BoxP.new w3 b0 b1
      have hb : Below w3.heap.size w3 (w3.alloc (.cells #[.int .i64 b0, .int .i64 b1] 26)) := by go_grown
      replace K5 := K5.later hb
      replace K7 := K7.later hb
      replace hbw := grew hbw hb
      clear hb
      generalize w3.heap.size = B8 at K8 ⊢
      generalize w3.alloc (.cells #[.int .i64 b0, .int .i64 b1] 26) = w4 at K5 K7 K8 hbw ⊢
      have d0c := K5.c0
      have d1c := K5.c1
      have e0c := K7.c0
      have e1c := K7.c1
      have b0c := K8.c0
      have b1c := K8.c1
      have tkA : True := trivial
      have tkB : True := trivial
      have tkC : True := trivial
      go_wp2_with (first
        | (go_at_call 104; clear tkA; refine (turnS_q _ _ _ _ _ _ HDE.out HDD.out HQ1.out).mono ?_; rintro e wn ⟨rfl, hb⟩; replace K5 := K5.later hb; replace K7 := K7.later hb; replace K8 := K8.later hb; replace hbw := grew hbw hb; clear hb; have d0c := K5.c0; have d1c := K5.c1; have e0c := K7.c0; have e1c := K7.c1; have b0c := K8.c0; have b1c := K8.c1)
        | (go_at_call 104; clear tkB; refine (turnS_q _ _ _ _ _ _ HDD.out HDB.out HQ2.out).mono ?_; rintro e wn ⟨rfl, hb⟩; replace K5 := K5.later hb; replace K7 := K7.later hb; replace K8 := K8.later hb; replace hbw := grew hbw hb; clear hb; have d0c := K5.c0; have d1c := K5.c1; have e0c := K7.c0; have e1c := K7.c1; have b0c := K8.c0; have b1c := K8.c1)
        | (go_at_call 104; clear tkC; refine (turnS_q _ _ _ _ _ _ HDE.out HDD.out HQ1.out).mono ?_; rintro e wn ⟨rfl, hb⟩; replace K5 := K5.later hb; replace K7 := K7.later hb; replace K8 := K8.later hb; replace hbw := grew hbw hb; clear hb; have d0c := K5.c0; have d1c := K5.c1; have e0c := K7.c0; have e1c := K7.c1; have b0c := K8.c0; have b1c := K8.c1)
        | (go_at_call 104; refine (turnS_q _ _ _ _ _ _ HDD.out HDB.out HQ2.out).mono ?_; rintro e wn ⟨rfl, hb⟩; replace K5 := K5.later hb; replace K7 := K7.later hb; replace K8 := K8.later hb; replace hbw := grew hbw hb; clear hb; have d0c := K5.c0; have d1c := K5.c1; have e0c := K7.c0; have e1c := K7.c1; have b0c := K8.c0; have b1c := K8.c1))
      go_ret
      exact ⟨by first | rfl | simp, hbw⟩
  · rcases Int.lt_trichotomy (cx (d0, d1) (b0, b1)) 0 with t2 | t2 | t2
    · have HVAL : hldI (e0, e1) (b0, b1) (d0, d1) = false := hldI_no2 t2
      have HQ1 := hid (sgq_pos t1)
      have HQ2 := hid (sgq_neg t2)
      rw [HVAL]
      clear HVAL t1 t2 hT hn
      go_enter Tryd.func85, Tryd.ntmps85
      go_upto_region 1 with fail
      have K5 := BoxP.new w d0 d1
      have hbw : Below w.heap.size w (w.alloc (.cells #[.int .i64 d0, .int .i64 d1] 26)) := by go_grown
      generalize w.heap.size = B5 at K5 ⊢
      generalize w.alloc (.cells #[.int .i64 d0, .int .i64 d1] 26) = w0 at K5 hbw ⊢
      go_upto_region 2 with (go_at_call 84; refine (sideS_z l _ k1 e0 e1 _ _ _ _ (by first | omega | (unfold wrap64; omega)) rfl h1 h0 (by omega) ((HA.out.later hbw).mono hbw.size) HG.out HE1.out).mono ?_; rintro e w1 ⟨rfl, hb⟩; replace K5 := K5.later hb; replace hbw := grew hbw hb; clear hb)
      have K7 := BoxP.new w1 e0 e1
      have hb : Below w1.heap.size w1 (w1.alloc (.cells #[.int .i64 e0, .int .i64 e1] 26)) := by go_grown
      replace K5 := K5.later hb
      replace hbw := grew hbw hb
      clear hb
      generalize w1.heap.size = B7 at K7 ⊢
      generalize w1.alloc (.cells #[.int .i64 e0, .int .i64 e1] 26) = w2 at K5 K7 hbw ⊢
      go_upto_region 3 with (go_at_call 84; refine (sideS_z l _ k b0 b1 _ _ _ _ rfl rfl h1 h0 (by omega) ((HA.out.later hbw).mono hbw.size) HG.out HE2.out).mono ?_; rintro e w3 ⟨rfl, hb⟩; replace K5 := K5.later hb; replace K7 := K7.later hb; replace hbw := grew hbw hb; clear hb)
      have K8 := BoxP.new w3 b0 b1
      have hb : Below w3.heap.size w3 (w3.alloc (.cells #[.int .i64 b0, .int .i64 b1] 26)) := by go_grown
      replace K5 := K5.later hb
      replace K7 := K7.later hb
      replace hbw := grew hbw hb
      clear hb
      generalize w3.heap.size = B8 at K8 ⊢
      generalize w3.alloc (.cells #[.int .i64 b0, .int .i64 b1] 26) = w4 at K5 K7 K8 hbw ⊢
      have d0c := K5.c0
      have d1c := K5.c1
      have e0c := K7.c0
      have e1c := K7.c1
      have b0c := K8.c0
      have b1c := K8.c1
      have tkA : True := trivial
      have tkB : True := trivial
      have tkC : True := trivial
      go_wp2_with (first
        | (go_at_call 104; clear tkA; refine (turnS_q _ _ _ _ _ _ HDE.out HDD.out HQ1.out).mono ?_; rintro e wn ⟨rfl, hb⟩; replace K5 := K5.later hb; replace K7 := K7.later hb; replace K8 := K8.later hb; replace hbw := grew hbw hb; clear hb; have d0c := K5.c0; have d1c := K5.c1; have e0c := K7.c0; have e1c := K7.c1; have b0c := K8.c0; have b1c := K8.c1)
        | (go_at_call 104; clear tkB; refine (turnS_q _ _ _ _ _ _ HDD.out HDB.out HQ2.out).mono ?_; rintro e wn ⟨rfl, hb⟩; replace K5 := K5.later hb; replace K7 := K7.later hb; replace K8 := K8.later hb; replace hbw := grew hbw hb; clear hb; have d0c := K5.c0; have d1c := K5.c1; have e0c := K7.c0; have e1c := K7.c1; have b0c := K8.c0; have b1c := K8.c1)
        | (go_at_call 104; clear tkC; refine (turnS_q _ _ _ _ _ _ HDE.out HDD.out HQ1.out).mono ?_; rintro e wn ⟨rfl, hb⟩; replace K5 := K5.later hb; replace K7 := K7.later hb; replace K8 := K8.later hb; replace hbw := grew hbw hb; clear hb; have d0c := K5.c0; have d1c := K5.c1; have e0c := K7.c0; have e1c := K7.c1; have b0c := K8.c0; have b1c := K8.c1)
        | (go_at_call 104; refine (turnS_q _ _ _ _ _ _ HDD.out HDB.out HQ2.out).mono ?_; rintro e wn ⟨rfl, hb⟩; replace K5 := K5.later hb; replace K7 := K7.later hb; replace K8 := K8.later hb; replace hbw := grew hbw hb; clear hb; have d0c := K5.c0; have d1c := K5.c1; have e0c := K7.c0; have e1c := K7.c1; have b0c := K8.c0; have b1c := K8.c1))
      go_ret
      exact ⟨by first | rfl | simp, hbw⟩
    · have HVAL : hldI (e0, e1) (b0, b1) (d0, d1) = true := (hldI_iff _ _ _).2 ⟨by omega, by omega⟩
      have hp := ray_last hT hn (by omega) t2
      rw [← dot_exact HDB.out HDD.out] at hp
      simp only at hp
      have hp2 : decide (0 < wrap64 (wrap64 (b0 * d0) + wrap64 (b1 * d1))) = true := decide_eq_true hp
      have HQ1 := hid (sgq_pos t1)
      have HQ2 := hid (sgq_zero t2)
      rw [HVAL]
      clear HVAL t1 t2 hT hn
      go_enter Tryd.func85, Tryd.ntmps85
      go_upto_region 1 with fail
      have K5 := BoxP.new w d0 d1
      have hbw : Below w.heap.size w (w.alloc (.cells #[.int .i64 d0, .int .i64 d1] 26)) := by go_grown
      generalize w.heap.size = B5 at K5 ⊢
      generalize w.alloc (.cells #[.int .i64 d0, .int .i64 d1] 26) = w0 at K5 hbw ⊢
      go_upto_region 2 with (go_at_call 84; refine (sideS_z l _ k1 e0 e1 _ _ _ _ (by first | omega | (unfold wrap64; omega)) rfl h1 h0 (by omega) ((HA.out.later hbw).mono hbw.size) HG.out HE1.out).mono ?_; rintro e w1 ⟨rfl, hb⟩; replace K5 := K5.later hb; replace hbw := grew hbw hb; clear hb)
      have K7 := BoxP.new w1 e0 e1
      have hb : Below w1.heap.size w1 (w1.alloc (.cells #[.int .i64 e0, .int .i64 e1] 26)) := by go_grown
      replace K5 := K5.later hb
      replace hbw := grew hbw hb
      clear hb
      generalize w1.heap.size = B7 at K7 ⊢
      generalize w1.alloc (.cells #[.int .i64 e0, .int .i64 e1] 26) = w2 at K5 K7 hbw ⊢
      go_upto_region 3 with (go_at_call 84; refine (sideS_z l _ k b0 b1 _ _ _ _ rfl rfl h1 h0 (by omega) ((HA.out.later hbw).mono hbw.size) HG.out HE2.out).mono ?_; rintro e w3 ⟨rfl, hb⟩; replace K5 := K5.later hb; replace K7 := K7.later hb; replace hbw := grew hbw hb; clear hb)
      have K8 := BoxP.new w3 b0 b1
      have hb : Below w3.heap.size w3 (w3.alloc (.cells #[.int .i64 b0, .int .i64 b1] 26)) := by go_grown
      replace K5 := K5.later hb
      replace K7 := K7.later hb
      replace hbw := grew hbw hb
      clear hb
      generalize w3.heap.size = B8 at K8 ⊢
      generalize w3.alloc (.cells #[.int .i64 b0, .int .i64 b1] 26) = w4 at K5 K7 K8 hbw ⊢
      have d0c := K5.c0
      have d1c := K5.c1
      have e0c := K7.c0
      have e1c := K7.c1
      have b0c := K8.c0
      have b1c := K8.c1
      have tkA : True := trivial
      have tkB : True := trivial
      have tkC : True := trivial
      go_wp2_with (first
        | (go_at_call 104; clear tkA; refine (turnS_q _ _ _ _ _ _ HDE.out HDD.out HQ1.out).mono ?_; rintro e wn ⟨rfl, hb⟩; replace K5 := K5.later hb; replace K7 := K7.later hb; replace K8 := K8.later hb; replace hbw := grew hbw hb; clear hb; have d0c := K5.c0; have d1c := K5.c1; have e0c := K7.c0; have e1c := K7.c1; have b0c := K8.c0; have b1c := K8.c1)
        | (go_at_call 104; clear tkB; refine (turnS_q _ _ _ _ _ _ HDD.out HDB.out HQ2.out).mono ?_; rintro e wn ⟨rfl, hb⟩; replace K5 := K5.later hb; replace K7 := K7.later hb; replace K8 := K8.later hb; replace hbw := grew hbw hb; clear hb; have d0c := K5.c0; have d1c := K5.c1; have e0c := K7.c0; have e1c := K7.c1; have b0c := K8.c0; have b1c := K8.c1)
        | (go_at_call 104; clear tkC; refine (turnS_q _ _ _ _ _ _ HDE.out HDD.out HQ1.out).mono ?_; rintro e wn ⟨rfl, hb⟩; replace K5 := K5.later hb; replace K7 := K7.later hb; replace K8 := K8.later hb; replace hbw := grew hbw hb; clear hb; have d0c := K5.c0; have d1c := K5.c1; have e0c := K7.c0; have e1c := K7.c1; have b0c := K8.c0; have b1c := K8.c1)
        | (go_at_call 104; refine (turnS_q _ _ _ _ _ _ HDD.out HDB.out HQ2.out).mono ?_; rintro e wn ⟨rfl, hb⟩; replace K5 := K5.later hb; replace K7 := K7.later hb; replace K8 := K8.later hb; replace hbw := grew hbw hb; clear hb; have d0c := K5.c0; have d1c := K5.c1; have e0c := K7.c0; have e1c := K7.c1; have b0c := K8.c0; have b1c := K8.c1))
      go_ret
      exact ⟨by first | rfl | simp, hbw⟩
    · have HVAL : hldI (e0, e1) (b0, b1) (d0, d1) = true := (hldI_iff _ _ _).2 ⟨by omega, by omega⟩
      have HQ1 := hid (sgq_pos t1)
      have HQ2 := hid (sgq_pos t2)
      rw [HVAL]
      clear HVAL t1 t2 hT hn
      go_enter Tryd.func85, Tryd.ntmps85
      go_upto_region 1 with fail
      have K5 := BoxP.new w d0 d1
      have hbw : Below w.heap.size w (w.alloc (.cells #[.int .i64 d0, .int .i64 d1] 26)) := by go_grown
      generalize w.heap.size = B5 at K5 ⊢
      generalize w.alloc (.cells #[.int .i64 d0, .int .i64 d1] 26) = w0 at K5 hbw ⊢
      go_upto_region 2 with (go_at_call 84; refine (sideS_z l _ k1 e0 e1 _ _ _ _ (by first | omega | (unfold wrap64; omega)) rfl h1 h0 (by omega) ((HA.out.later hbw).mono hbw.size) HG.out HE1.out).mono ?_; rintro e w1 ⟨rfl, hb⟩; replace K5 := K5.later hb; replace hbw := grew hbw hb; clear hb)
      have K7 := BoxP.new w1 e0 e1
      have hb : Below w1.heap.size w1 (w1.alloc (.cells #[.int .i64 e0, .int .i64 e1] 26)) := by go_grown
      replace K5 := K5.later hb
      replace hbw := grew hbw hb
      clear hb
      generalize w1.heap.size = B7 at K7 ⊢
      generalize w1.alloc (.cells #[.int .i64 e0, .int .i64 e1] 26) = w2 at K5 K7 hbw ⊢
      go_upto_region 3 with (go_at_call 84; refine (sideS_z l _ k b0 b1 _ _ _ _ rfl rfl h1 h0 (by omega) ((HA.out.later hbw).mono hbw.size) HG.out HE2.out).mono ?_; rintro e w3 ⟨rfl, hb⟩; replace K5 := K5.later hb; replace K7 := K7.later hb; replace hbw := grew hbw hb; clear hb)
      have K8 := BoxP.new w3 b0 b1
      have hb : Below w3.heap.size w3 (w3.alloc (.cells #[.int .i64 b0, .int .i64 b1] 26)) := by go_grown
      replace K5 := K5.later hb
      replace K7 := K7.later hb
      replace hbw := grew hbw hb
      clear hb
      generalize w3.heap.size = B8 at K8 ⊢
      generalize w3.alloc (.cells #[.int .i64 b0, .int .i64 b1] 26) = w4 at K5 K7 K8 hbw ⊢
      have d0c := K5.c0
      have d1c := K5.c1
      have e0c := K7.c0
      have e1c := K7.c1
      have b0c := K8.c0
      have b1c := K8.c1
      have tkA : True := trivial
      have tkB : True := trivial
      have tkC : True := trivial
      go_wp2_with (first
        | (go_at_call 104; clear tkA; refine (turnS_q _ _ _ _ _ _ HDE.out HDD.out HQ1.out).mono ?_; rintro e wn ⟨rfl, hb⟩; replace K5 := K5.later hb; replace K7 := K7.later hb; replace K8 := K8.later hb; replace hbw := grew hbw hb; clear hb; have d0c := K5.c0; have d1c := K5.c1; have e0c := K7.c0; have e1c := K7.c1; have b0c := K8.c0; have b1c := K8.c1)
        | (go_at_call 104; clear tkB; refine (turnS_q _ _ _ _ _ _ HDD.out HDB.out HQ2.out).mono ?_; rintro e wn ⟨rfl, hb⟩; replace K5 := K5.later hb; replace K7 := K7.later hb; replace K8 := K8.later hb; replace hbw := grew hbw hb; clear hb; have d0c := K5.c0; have d1c := K5.c1; have e0c := K7.c0; have e1c := K7.c1; have b0c := K8.c0; have b1c := K8.c1)
        | (go_at_call 104; clear tkC; refine (turnS_q _ _ _ _ _ _ HDE.out HDD.out HQ1.out).mono ?_; rintro e wn ⟨rfl, hb⟩; replace K5 := K5.later hb; replace K7 := K7.later hb; replace K8 := K8.later hb; replace hbw := grew hbw hb; clear hb; have d0c := K5.c0; have d1c := K5.c1; have e0c := K7.c0; have e1c := K7.c1; have b0c := K8.c0; have b1c := K8.c1)
        | (go_at_call 104; refine (turnS_q _ _ _ _ _ _ HDD.out HDB.out HQ2.out).mono ?_; rintro e wn ⟨rfl, hb⟩; replace K5 := K5.later hb; replace K7 := K7.later hb; replace K8 := K8.later hb; replace hbw := grew hbw hb; clear hb; have d0c := K5.c0; have d1c := K5.c1; have e0c := K7.c0; have e1c := K7.c1; have b0c := K8.c0; have b1c := K8.c1))
      go_ret
      exact ⟨by first | rfl | simp, hbw⟩
end Go.Proofs.YtipiamhnngmjmaaDoor
