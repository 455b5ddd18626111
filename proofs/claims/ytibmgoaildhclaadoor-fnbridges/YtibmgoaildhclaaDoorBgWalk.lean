/-
  The walk of the law FnBridges.
  Conditions: as the theorems state them.
-/
import Derived.Test.YtibmgoaildhclaaDoorDrBr
import Derived.Test.YtibmgoaildhclaaDoorBgLaw
import Derived.Test.YtibmgoaildhclaaDoorBr7b
import Derived.Test.YtibmgoaildhclaaDoorBr7d
import Derived.Test.YtibmgoaildhclaaDoorSet17
import Derived.Test.YtibmgoaildhclaaDoorSame
import Derived.Test.YtibmgoaildhclaaDoorHOwnHull
namespace Go.Proofs.YtibmgoaildhclaaDoor
open Go.RowKit Go.Shelf
set_option linter.unusedVariables false
set_option maxRecDepth 8000
def Lx8 (p q : Int × Int) : Prop := lessB p.1 p.2 q.1 q.2 = true
theorem rise_pw {l : List (Int × Int)} (h : Rise l) : l.Pairwise Lx8 := List.pairwise_iff_getElem.2 fun i j hi hj hij => by
  have := less_at h hij hj
  rw [pt_get hi, pt_get hj] at this
  exact this
theorem lx_asym {p q : Int × Int} (h : Lx8 p q) (k : Lx8 q p) : False := less_asym h k
theorem lx_ne {p q : Int × Int} (h : Lx8 p q) : p ≠ q := fun e => by subst e; exact lx_asym h h
theorem rise_one8 {l m : List (Int × Int)} (hl : Rise l) (hm : Rise m) (h : ∀ p, p ∈ l ↔ p ∈ m) : l = m :=
  List.Perm.eq_of_pairwise (le := Lx8) (fun a b _ _ h1 h2 => (lx_asym h1 h2).elim) (rise_pw hl) (rise_pw hm)
    ((List.perm_ext_iff_of_nodup ((rise_pw hl).imp fun k => lx_ne k) ((rise_pw hm).imp fun k => lx_ne k)).2 h)
theorem union_all {la lb : List (Int × Int)} (h : twI la lb = true) (h1 : la.length ≤ 24) (h2 : lb.length ≤ 24) {i j : Nat} (hi : i < la.length) (hj : j < lb.length) (H : Br la lb i j) :
    setOk (la ++ lb) = true ∧ setA (la ++ lb) = la ++ lb ∧ goodL (la ++ lb) = true ∧ lowL (la ++ lb) = mgL la lb i j := by
  have hG := join_rises h (by omega)
  have hA := goodL_all hG
  have hs : setOk (la ++ lb) = true := by
    unfold setOk
    rw [Bool.and_eq_true, decide_eq_true_iff]
    exact ⟨by rw [List.length_append]; omega, (allGood_iff _).2 fun i hi => hA _ (pt_mem hi)⟩
  refine ⟨hs, ?_, hG, ?_⟩
  · unfold setA
    rw [if_pos hs]
    exact rise_one8 (fromL_rise _) (goodL_rises hG) fun p => fromL_iff _ _
  · unfold lowL
    rw [if_pos hG, join_lower h (by omega) hi hj H]
    exact (chain_eq hA).symm
theorem bdV_yes {a b : List (Int × Int)} (h : twI a b = true) {i j : Nat} (hi : i < a.length) (hj : j < b.length) (H : Br a b i j) : bdV a b = ((i : Int), (j : Int)) := by
  unfold bdV
  rw [if_pos h, bd_of h hi hj H]
theorem mgV_yes {a b : List (Int × Int)} (h : twI a b = true) {i j : Nat} (hi : i < a.length) (hj : j < b.length) (H : Br a b i j) : mgV a b = mgL a b i j := by
  unfold mgV
  rw [if_pos h, bd_of h hi hj H]
theorem ib_ok {a b : List (Int × Int)} (h : twI a b = true) {x y : Nat} (hx : x < a.length) (hy : y < b.length) : ibOk a b x y = true := by
  unfold ibOk
  rw [h, decide_eq_true (by omega), decide_eq_true (by omega)]; rfl
theorem ib_yes {a b : List (Int × Int)} (h : twI a b = true) {i j : Nat} (hi : i < a.length) (hj : j < b.length) (H : Br a b i j) : ibV a b i j = true ∧ ibOk a b i j = true := by
  refine ⟨?_, ib_ok h hi hj⟩
  unfold ibV
  rw [ib_ok h hi hj, Bool.true_and]
  exact (br_iff h hi hj).2 H
theorem ib_no {a b : List (Int × Int)} (h : twI a b = true) {i j x y : Nat} (hi : i < a.length) (hj : j < b.length) (H : Br a b i j) (hx : x < a.length) (hy : y < b.length) (hn : ¬ (x = i ∧ y = j)) : ibV a b x y = false ∧ ibOk a b x y = true := by
  refine ⟨?_, ib_ok h hx hy⟩
  unfold ibV
  rw [ib_ok h hx hy, Bool.true_and]
  cases e : brS a b (x : Int).toNat (y : Int).toNat
  · rfl
  · exact (hn (br_unique h hx hy hi hj ((br_iff h hx hy).1 e) H)).elim
set_option maxHeartbeats 4000000 in
theorem bridgeX_yes (a b : List (Int × Int)) (pa pb : Option Addr) (na ca nb cb : Nat) (w : World) (hla : a.length = na) (hlb : b.length = nb) (h1 : na ≤ 1048576) (h2 : nb ≤ 1048576) (hT : twI a b = true) (hA : At w.heap.size pa a w) (hB : At w.heap.size pb b w) (c0 : w.cell? ⟨0, 0, none⟩ = some (.int .i64 1000000)) :
    Calls Tryd.prog 14 #[.slice pa na ca, .slice pb nb cb] w fun e w' => ∃ i j : Nat, i < a.length ∧ j < b.length ∧ Br a b i j ∧ e = .returned (.tuple #[.int .i64 (i : Int), .int .i64 (j : Int), .bool true]) ∧ Below w.heap.size w w' := by
  subst hla hlb
  have HA := hid hA
  have HB := hid hB
  have C0 := hid c0
  have HT := hid hT
  clear hA hB
  go_enter Tryd.func14, Tryd.ntmps14
  go_wp2_with (first
    | (go_at_call 25; refine (areChains_c a b _ _ _ _ _ _ _ rfl rfl h1 h2 HA.out HB.out C0.out).mono ?_; rw [hT]; rintro e w1 ⟨rfl, hb1⟩)
    | (go_at_call 26; refine (bridgeOf_c a b _ _ _ _ _ _ w1 rfl rfl h1 h2 HT.out ((HA.out.later hb1).mono hb1.size) ((HB.out.later hb1).mono hb1.size) (cell_later hb1 C0.out)).mono ?_; rintro e w2 ⟨i, j, hi, hj, hBr, rfl, hb2⟩))
  refine bodyPost_ret (v := .tuple #[.int .i64 (i : Int), .int .i64 (j : Int), .bool true]) (by simp [results, Tryd.results14, go_sem]) rfl ?_
  exact ⟨i, j, hi, hj, hBr, rfl, grew hb1 hb2⟩
theorem big_c (a0 : Option Addr) (len0 cap0 : Nat) (a1 : Option Addr) (len1 cap1 : Nat) (w : World) (h : len0 + len1 ≤ 1048576) :
    Calls Tryd.prog 12 #[.slice a0 len0 cap0, .slice a1 len1 cap1] w fun e w' => e = .returned (.bool false) ∧ w = w' := by
  have h0 : ¬ (1048576 : Int) < (len0 : Int) := by omega
  have h1 : ¬ (1048576 : Int) - (len0 : Int) < (len1 : Int) := by omega
  go_enter Tryd.func12, Tryd.ntmps12
  go_wp2
  go_ret
  exact ⟨rfl, rfl⟩
theorem big_t (a0 : Option Addr) (len0 cap0 : Nat) (a1 : Option Addr) (len1 cap1 : Nat) (w : World) (m0 : len0 ≤ maxLen) (m1 : len1 ≤ maxLen) (h : ¬ len0 + len1 ≤ 1048576) :
    Calls Tryd.prog 12 #[.slice a0 len0 cap0, .slice a1 len1 cap1] w fun e w' => e = .returned (.bool true) ∧ w = w' := by
  unfold maxLen at m0 m1
  by_cases h0 : (1048576 : Int) < (len0 : Int)
  · go_enter Tryd.func12, Tryd.ntmps12
    go_wp2
    go_ret
    exact ⟨rfl, rfl⟩
  · have h1 : (1048576 : Int) - (len0 : Int) < (len1 : Int) := by omega
    go_enter Tryd.func12, Tryd.ntmps12
    go_wp2
    go_ret
    exact ⟨rfl, rfl⟩
set_option maxRecDepth 8000 in
set_option maxHeartbeats 16000000 in
theorem bridges_walk (a0 : Option Addr) (len0 cap0 : Nat) (a1 : Option Addr) (len1 cap1 : Nat) (w : World) (B0 : Bytes w.heap.size a0 len0 w) (B1 : Bytes w.heap.size a1 len1 w) (m0 : len0 ≤ maxLen) (m1 : len1 ≤ maxLen) (c0 : w.cell? ⟨0, 0, none⟩ = some (.int .i64 1000000)) :
    Calls Tryd.prog 4 #[.slice a0 len0 cap0, .slice a1 len1 cap1] w fun e w' => e = .returned (.bool true) ∧ Below w.heap.size w w' := by
  have C0 := hid c0
  have HB0 := hid B0
  have HB1 := hid B1
  clear c0 B0 B1
  by_cases hl : len0 + len1 ≤ 1048576
  · have l0 : len0 ≤ 1048576 := by omega
    have l1 : len1 ≤ 1048576 := by omega
    clear m0 m1
    go_enter Tryd.func4, Tryd.ntmps4
    go_upto_region 4 with (first
      | (go_at_call 12; refine (big_c _ _ _ _ _ _ _ hl).mono ?_; rintro e w' ⟨rfl, rfl⟩)
      | (go_at_call 13; refine (drawBridge_c _ _ _ _ HB0.out l0).mono ?_; rintro e w1 ⟨va, vb, rfl, la, lb, oa, ob, hla, hlb, hb1⟩; obtain ⟨aA, pA, hvA⟩ := oa.shape; subst hvA; obtain ⟨aB, pB, hvB⟩ := ob.shape; subst hvB))
    have hla' : la.length ≤ 1048576 := by omega
    have hlb' : lb.length ≤ 1048576 := by omega
    have hmgl : ∀ i j, (mgL la lb i j).length ≤ 1048576 := fun i j => by have := mgL_len la lb i j; omega
    have ts : True := trivial
    cases hT : twI la lb
    · have hV0 : bdV la lb = (0, 0) := by unfold bdV; rw [hT]; rfl
      have hM0 : mgV la lb = [] := by unfold mgV; rw [hT]; rfl
      go_upto_region 30 with (first
        | (go_at_call 14; refine (bridgeTopImpl_c la lb _ _ _ _ _ _ w1 rfl rfl hla' hlb' oa.at ob.at (cell_later hb1 C0.out)).mono ?_; simp only [hT, hV0]; rintro e w2 ⟨rfl, hb2⟩; have hc2 := grew hb1 hb2)
        | (go_at_call 15; refine (bridgeTopSpec_c la lb _ _ _ _ _ _ w2 rfl rfl hla' hlb' (oa.later hb2).at (ob.later hb2).at).mono ?_; simp only [hT, hV0]; rintro e w3 ⟨rfl, hb3⟩; have hB3 := grew hb2 hb3; have hc3 := grew hb1 hB3)
        | (go_at_call 8; refine (mergeTopImpl_c la lb _ _ _ _ _ _ w3 rfl rfl hla' hlb' oa.fit ob.fit (oa.later hB3).at (ob.later hB3).at (cell_later hc3 C0.out)).mono ?_; rw [hT, hM0]; rintro e w4 ⟨v4, rfl, o4, hb4⟩; obtain ⟨a4, p4, hv4⟩ := o4.shape; subst hv4; have hB4 := grew hB3 hb4)
        | (go_at_call 6; refine (mergeTopSpec_c la lb _ _ _ _ _ _ w4 rfl rfl hla' hlb' oa.fit ob.fit (oa.later hB4).at (ob.later hB4).at).mono ?_; rw [hT, hM0]; rintro e w5 ⟨v5, rfl, o5, hb5⟩; obtain ⟨a5, p5, hv5⟩ := o5.shape; subst hv5; have hB5 := grew hB4 hb5; have hc5 := grew hb1 hB5)
        | (go_at_call 16; clear ts; refine (same_c [] [] _ _ _ _ _ _ w5 rfl rfl (Nat.zero_le _) (Nat.zero_le _) (o4.later hb5).at o5.at).mono ?_; rintro e w6 ⟨rfl, hb6⟩; have hB6 := grew hB5 hb6; have hc6 := grew hb1 hB6))
      go_wp2_with (first
        | (go_at_call 20; refine (drawIs_c _ _ _ w6 ((HB1.out.below hc6).mono hc6.size) l1).mono ?_; rintro e wj ⟨vj, vk, x, y, rfl, lj, lk, oj, ok, hlj, hlk, hbj⟩; obtain ⟨aj, pj, hvj⟩ := oj.shape; subst hvj; obtain ⟨ak, pk, hvk⟩ := ok.shape; subst hvk; have hcj := grew hc6 hbj)
        | (go_at_call 19; refine (isBridgeImpl_c lj lk x y _ _ _ _ _ _ wj rfl rfl (by omega) (by omega) oj.at ok.at (cell_later hcj C0.out)).mono ?_; rintro e wk ⟨rfl, hbk⟩; have hck := grew hcj hbk)
        | (go_at_call 21; refine (isBridgeSpec_c lj lk x y _ _ _ _ _ _ wk rfl rfl (by omega) (by omega) (oj.later hbk).at (ok.later hbk).at).mono ?_; rintro e wl ⟨rfl, hbl⟩; have hcl := grew hck hbl))
      all_goals go_ret
      all_goals exact ⟨rfl, hcl⟩
    · go_upto_region 11 with (first
        | (go_at_call 14; refine (bridgeX_yes la lb _ _ _ _ _ _ w1 rfl rfl hla' hlb' hT oa.at ob.at (cell_later hb1 C0.out)).mono ?_; rintro e w2 ⟨i, j, hi, hj, hBr, rfl, hb2⟩; have hc2 := grew hb1 hb2)
        | (go_at_call 15; refine (bridgeTopSpec_c la lb _ _ _ _ _ _ w2 rfl rfl hla' hlb' (oa.later hb2).at (ob.later hb2).at).mono ?_; simp only [hT, bdV_yes hT hi hj hBr]; rintro e w3 ⟨rfl, hb3⟩; have hB3 := grew hb2 hb3; have hc3 := grew hb1 hB3)
        | (go_at_call 8; refine (mergeTopImpl_c la lb _ _ _ _ _ _ w3 rfl rfl hla' hlb' oa.fit ob.fit (oa.later hB3).at (ob.later hB3).at (cell_later hc3 C0.out)).mono ?_; rw [hT, mgV_yes hT hi hj hBr]; rintro e w4 ⟨v4, rfl, o4, hb4⟩; obtain ⟨a4, p4, hv4⟩ := o4.shape; subst hv4; have hB4 := grew hB3 hb4)
        | (go_at_call 6; refine (mergeTopSpec_c la lb _ _ _ _ _ _ w4 rfl rfl hla' hlb' oa.fit ob.fit (oa.later hB4).at (ob.later hB4).at).mono ?_; rw [hT, mgV_yes hT hi hj hBr]; rintro e w5 ⟨v5, rfl, o5, hb5⟩; obtain ⟨a5, p5, hv5⟩ := o5.shape; subst hv5; have hB5 := grew hB4 hb5; have hc5 := grew hb1 hB5)
        | (go_at_call 16; clear ts; refine (same_c (mgL la lb i j) (mgL la lb i j) _ _ _ _ _ _ w5 rfl rfl (hmgl i j) (hmgl i j) (o4.later hb5).at o5.at).mono ?_; rintro e w6 ⟨rfl, hb6⟩; have hB6 := grew hB5 hb6; have hc6 := grew hb1 hB6))
      obtain ⟨hS1, hS2, hS3, hS4⟩ := union_all hT hla hlb hi hj hBr
      obtain ⟨ga, hga⟩ := oa.some (by omega)
      subst hga
      obtain ⟨gb, hgb⟩ := ob.some (by omega)
      subst hgb
      obtain ⟨i0, hii, hz0, hz1, hz2⟩ := info_parts info_pt
      have HA6 := hid (oa.later hB6).at
      have HB6 := hid (ob.later hB6).at
      have t1 : True := trivial
      go_upto_region 15 with (first
        | (at_builtin; clear t1; refine wpList_append_own _ rfl (.tmp 99) (.tmp 100) 24 rfl w6.heap.size 44 i0 _ 2 16 Tryd.underlying24 hii hz0 hz1 hz2 rfl (by decide) _ _ _ rfl (own_empty w6) _ _ _ (cells la) rfl (cells_len la) (by intro j u hu; exact cells_all (HA6.out.later (by go_grown)) _ rfl j u hu) (cells_ones _) (by unfold maxLen; omega) (by omega) (by simp) ?_; intro vA wA hownA hgrowA _; have hBA : Below w6.heap.size w6 wA := (by go_grown : Below w6.heap.size w6 _).grown hgrowA (by simp) (fun k hk => by cases hk; exact Nat.le_refl _); rw [List.nil_append] at hownA)
        | (at_builtin; refine wpList_append_own _ rfl (.tmp 101) (.tmp 102) 24 rfl w6.heap.size 44 i0 _ 2 16 Tryd.underlying24 hii hz0 hz1 hz2 rfl (by decide) _ _ _ rfl hownA _ _ _ (cells lb) rfl (cells_len lb) (by intro j u hu; exact cells_all (HB6.out.later hBA) _ rfl j u hu) (cells_ones _) (by unfold maxLen; omega) (by omega) hBA.size ?_; intro vB wB hownB hgrowB _; have hBB : Below w6.heap.size w6 wB := hBA.grown hgrowB hBA.size (fun k hk => (hownA.lt k hk).1); rw [← cells_append] at hownB; have oB := own_of hownB; obtain ⟨aB, pB, hvB⟩ := oB.shape; subst hvB; have hcB := grew hc6 hBB)
        | (go_at_call 17; refine (setImpl_c (la ++ lb) _ _ _ wB (by first | rfl | (rw [List.length_append])) (by omega) oB.at (cell_later hcB C0.out)).mono ?_; rw [hS1, hS2]; rintro e w7 ⟨v7, rfl, o7, hb7⟩; obtain ⟨a7, p7, hv7⟩ := o7.shape; subst hv7; have hc7 := grew hcB hb7)
        | (go_at_call 18; refine (lowerImpl_c (la ++ lb) _ _ _ w7 (by first | rfl | (rw [List.length_append])) (by omega) o7.at (cell_later hc7 C0.out)).mono ?_; rw [hS3, hS4]; rintro e w8 ⟨v8, rfl, o8, hb8⟩; obtain ⟨a8, p8, hv8⟩ := o8.shape; subst hv8; have hc8 := grew hc7 hb8; have o4' := o4.later (grew hb5 (grew hb6 (hBB.trans ((grew (Below.refl wB.heap.size wB) (grew hb7 hb8)).mono hBB.size)))))
        | (go_at_call 16; refine (same_c (mgL la lb i j) (mgL la lb i j) _ _ _ _ _ _ w8 rfl rfl (hmgl i j) (hmgl i j) o8.at o4'.at).mono ?_; rintro e w9 ⟨rfl, hb9⟩; have hc9 := grew hc8 hb9))
      have HAX := hid ((HA6.out.later hBB).mono hBB.size |>.later (grew hb7 (grew hb8 hb9)) |>.mono (grew hb7 (grew hb8 hb9)).size)
      have HBX := hid ((HB6.out.later hBB).mono hBB.size |>.later (grew hb7 (grew hb8 hb9)) |>.mono (grew hb7 (grew hb8 hb9)).size)
      have HCX := hid hc9
      obtain ⟨wX, hwX⟩ : ∃ wX, wX = w9 := ⟨_, rfl⟩
      subst hwX
      clear oa ob o4 o5 o7 o8 o4' oB hownA hownB hgrowA hgrowB hb1 hb2 hb3 hb4 hb5 hb6 hb7 hb8 hb9 hBA hBB hB3 hB4 hB5 hB6 hc2 hc3 hc5 hc6 hcB hc7 hc8 hc9 HA6 HB6 hS1 hS2 hS3 hS4
      go_wp2
      go_loopw [21, 125] (fun sm sk wr => ∃ x : Nat, x ≤ la.length ∧ sm = .int .i64 ((x * lb.length : Nat) : Int) ∧ sk = .int .i64 x ∧ Below wX.heap.size wX wr) (fun _ sk _ => la.length - (intOf sk).toNat)
      case atStart => exact ⟨0, Nat.zero_le _, by simp, rfl, Below.refl _ _⟩
      case round =>
        obtain ⟨x, hx, rfl, rfl, hbo⟩ := hrel
        have hxx : x * lb.length ≤ 24 * 24 := Nat.mul_le_mul (by omega) hlb
        by_cases hxl : x < la.length
        · have hsucc : (x + 1) * lb.length = x * lb.length + lb.length := Nat.succ_mul _ _
          have HSU := hid hsucc
          obtain ⟨z, hz⟩ : ∃ z, x * lb.length = z := ⟨_, rfl⟩
          rw [hz] at HSU hxx ⊢
          clear hz hsucc
          have hbo0 := hbo
          obtain ⟨wO, rfl⟩ : ∃ wO, wO = wr := ⟨wr, rfl⟩
          go_wp2
          go_loopw [21, 130] (fun sm sk wr => ∃ y : Nat, y ≤ lb.length ∧ sm = .int .i64 ((z + y : Nat) : Int) ∧ sk = .int .i64 y ∧ Below wX.heap.size wX wr) (fun _ sk _ => lb.length - (intOf sk).toNat)
          case atStart => exact ⟨0, Nat.zero_le _, by simp, rfl, hbo0⟩
          case round =>
            obtain ⟨y, hy, rfl, rfl, hbr⟩ := hrel
            have hcr := grew HCX.out hbr
            by_cases hyl : y < lb.length
            · have hmm : z + (y + 1) = z + y + 1 := by omega
              have hzy : z + y ≤ 600 := by omega
              by_cases hxi : x = i
              · subst hxi
                by_cases hyj : y = j
                · subst hyj
                  have hib := ib_yes hT hi hj hBr
                  go_wp2_with (go_at_call 19; refine (isBridgeImpl_c la lb (x : Int) (y : Int) _ _ _ _ _ _ wr rfl rfl hla' hlb' ((HAX.out.later hbr).mono hbr.size) ((HBX.out.later hbr).mono hbr.size) (cell_later hcr C0.out)).mono ?_; rw [hib.1, hib.2]; rintro e w11 ⟨rfl, hb11⟩)
                  go_roundw
                  case rel => exact ⟨y + 1, by omega, by rw [hmm]; go_num, by go_num, grew hbr hb11⟩
                  case measure => simp [intOf]; omega
                · have hib := ib_no hT hi hj hBr hxl hyl (fun h => hyj h.2)
                  have q1 : ((y : Int) == (j : Int)) = false := beq_false_of_ne (fun h => hyj (by omega))
                  have q2 : (y == j) = false := by simpa using hyj
                  go_wp2_with (go_at_call 19; refine (isBridgeImpl_c la lb (x : Int) (y : Int) _ _ _ _ _ _ wr rfl rfl hla' hlb' ((HAX.out.later hbr).mono hbr.size) ((HBX.out.later hbr).mono hbr.size) (cell_later hcr C0.out)).mono ?_; rw [hib.1, hib.2]; rintro e w11 ⟨rfl, hb11⟩)
                  go_roundw
                  case rel => exact ⟨y + 1, by omega, by rw [hmm]; go_num, by go_num, grew hbr hb11⟩
                  case measure => simp [intOf]; omega
              · have hib := ib_no hT hi hj hBr hxl hyl (fun h => hxi h.1)
                have q1 : ((x : Int) == (i : Int)) = false := beq_false_of_ne (fun h => hxi (by omega))
                have q2 : (x == i) = false := by simpa using hxi
                go_wp2_with (go_at_call 19; refine (isBridgeImpl_c la lb (x : Int) (y : Int) _ _ _ _ _ _ wr rfl rfl hla' hlb' ((HAX.out.later hbr).mono hbr.size) ((HBX.out.later hbr).mono hbr.size) (cell_later hcr C0.out)).mono ?_; rw [hib.1, hib.2]; rintro e w11 ⟨rfl, hb11⟩)
                go_roundw
                case rel => exact ⟨y + 1, by omega, by rw [hmm]; go_num, by go_num, grew hbr hb11⟩
                case measure => simp [intOf]; omega
            · obtain rfl : y = lb.length := by omega
              go_wp2
              go_roundw
              case rel => exact ⟨x + 1, by omega, by rw [HSU.out], by go_num, hbr⟩
              case measure => simp [intOf]; omega
        · obtain rfl : x = la.length := by omega
          have hcr := grew HCX.out hbo
          have hwm : IntKind.i64.wrap ((la.length : Int) * (lb.length : Int)) = ((la.length * lb.length : Nat) : Int) := by rw [IntKind.wrap_i64]; rw [Int.natCast_mul]; have : ((la.length * lb.length : Nat) : Int) = (la.length : Int) * (lb.length : Int) := Int.natCast_mul _ _; omega
          go_wp2_with (first
            | (go_at_call 20; refine (drawIs_c _ _ _ wr ((HB1.out.below hcr).mono hcr.size) l1).mono ?_; rintro e wj ⟨vj, vk, x, y, rfl, lj, lk, oj, ok, hlj, hlk, hbj⟩; obtain ⟨aj, pj, hvj⟩ := oj.shape; subst hvj; obtain ⟨ak, pk, hvk⟩ := ok.shape; subst hvk; have hcj := grew hcr hbj)
            | (go_at_call 19; refine (isBridgeImpl_c lj lk x y _ _ _ _ _ _ wj rfl rfl (by omega) (by omega) oj.at ok.at (cell_later hcj C0.out)).mono ?_; rintro e wk ⟨rfl, hbk⟩; have hck := grew hcj hbk)
            | (go_at_call 21; refine (isBridgeSpec_c lj lk x y _ _ _ _ _ _ wk rfl rfl (by omega) (by omega) (oj.later hbk).at (ok.later hbk).at).mono ?_; rintro e wl ⟨rfl, hbl⟩; have hcl := grew hck hbl))
          all_goals go_ret
          all_goals exact ⟨rfl, hcl⟩
  · go_enter Tryd.func4, Tryd.ntmps4
    go_wp2_with (go_at_call 12; refine (big_t _ _ _ _ _ _ _ m0 m1 (by omega)).mono ?_; rintro e w' ⟨rfl, rfl⟩)
    go_ret
    exact ⟨rfl, by go_grown⟩
end Go.Proofs.YtibmgoaildhclaaDoor
