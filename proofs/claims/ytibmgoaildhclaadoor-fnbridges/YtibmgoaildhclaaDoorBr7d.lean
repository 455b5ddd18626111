/-
  The specification's search for the bridge; BridgeOf, the program's and the specification's (contracts for the walks).
  Conditions: as each theorem states them.
-/
import Derived.Test.YtibmgoaildhclaaDoorBr7c
namespace Go.Proofs.YtibmgoaildhclaaDoor
open Go.RowKit Go.Shelf
set_option linter.unusedVariables false
set_option maxRecDepth 8000
/-- The bridge that a search finds, (0, 0) where there is none. -/
def bdP (a b : List (Int × Int)) : Nat × Nat := (((List.range a.length).flatMap fun i => (List.range b.length).map fun j => (i, j)).find? fun p => brS a b p.1 p.2).getD (0, 0)
theorem bd_mem {a b : List (Int × Int)} {p : Nat × Nat} : (p ∈ (List.range a.length).flatMap fun i => (List.range b.length).map fun j => (i, j)) ↔ p.1 < a.length ∧ p.2 < b.length := by
  simp only [List.mem_flatMap, List.mem_map, List.mem_range]
  constructor
  · rintro ⟨i, hi, j, hj, rfl⟩
    exact ⟨hi, hj⟩
  · rintro ⟨h1, h2⟩
    exact ⟨p.1, h1, p.2, h2, rfl⟩
theorem bd_of {a b : List (Int × Int)} (h : twI a b = true) {i j : Nat} (hi : i < a.length) (hj : j < b.length) (H : Br a b i j) : bdP a b = (i, j) := by
  have hs : ((((List.range a.length).flatMap fun i => (List.range b.length).map fun j => (i, j)).find? fun p => brS a b p.1 p.2)).isSome = true :=
    List.find?_isSome.2 ⟨(i, j), bd_mem.2 ⟨hi, hj⟩, (br_iff h hi hj).2 H⟩
  obtain ⟨q, hq⟩ := Option.isSome_iff_exists.1 hs
  have h1 := List.find?_some hq
  have h2 := bd_mem.1 (List.mem_of_find?_eq_some hq)
  obtain ⟨e1, e2⟩ := br_unique h hi hj h2.1 h2.2 H ((br_iff h h2.1 h2.2).1 h1)
  unfold bdP
  rw [hq]
  show q = (i, j)
  rw [e1, e2]
theorem bd_none {a b : List (Int × Int)} (h : ∀ i, i < a.length → ∀ j, j < b.length → brS a b i j = false) : bdP a b = (0, 0) := by
  have hn : (((List.range a.length).flatMap fun i => (List.range b.length).map fun j => (i, j)).find? fun p => brS a b p.1 p.2) = none :=
    List.find?_eq_none.2 fun p hp => by
      have := bd_mem.1 hp
      rw [h p.1 this.1 p.2 this.2]
      exact Bool.false_ne_true
  unfold bdP
  rw [hn]
  rfl
def bdV (a b : List (Int × Int)) : Int × Int := if twI a b = true then (((bdP a b).1 : Int), ((bdP a b).2 : Int)) else (0, 0)
theorem ret_ii {a b c d : Int} (h : a = b) (k : c = d) : Ending.returned (.tuple #[.int .i64 a, .int .i64 c]) = .returned (.tuple #[.int .i64 b, .int .i64 d]) := by rw [h, k]
theorem ret_iib {a b c d : Int} {x y : Bool} (h : a = b) (k : c = d) (e : x = y) : Ending.returned (.tuple #[.int .i64 a, .int .i64 c, .bool x]) = .returned (.tuple #[.int .i64 b, .int .i64 d, .bool y]) := by rw [h, k, e]
set_option maxHeartbeats 4000000 in
theorem l7Find_c (a b : List (Int × Int)) (pa pb : Option Addr) (na ca nb cb : Nat) (w : World) (hla : a.length = na) (hlb : b.length = nb) (h1 : na ≤ 1048576) (h2 : nb ≤ 1048576) (hT : twI a b = true) (hA : At w.heap.size pa a w) (hB : At w.heap.size pb b w) :
    Calls Tryd.prog 30 #[.slice pa na ca, .slice pb nb cb] w fun e w' => e = .returned (.tuple #[.int .i64 ((bdP a b).1 : Int), .int .i64 ((bdP a b).2 : Int)]) ∧ Below w.heap.size w w' := by
  subst hla hlb
  have HA := hid hA
  have HB := hid hB
  have HT := hid hT
  clear hA hB hT
  go_enter Tryd.func30, Tryd.ntmps30
  go_wp2
  go_loopw [10] (fun p wr => ∃ i : Nat, i ≤ a.length ∧ p = .int .i64 (i : Int) ∧ (∀ i', i' < i → ∀ j, j < b.length → brS a b i' j = false) ∧ Below w.heap.size w wr) (fun p _ => a.length - (intOf p).toNat)
  case atStart => exact ⟨0, Nat.zero_le _, rfl, fun i hi => absurd hi (Nat.not_lt_zero _), by go_grown⟩
  case round =>
    obtain ⟨i, hi, rfl, hN, hbw⟩ := hrel
    have HN := hid hN
    clear hN
    by_cases hil : i < a.length
    · go_wp2
      generalize wr = wo at hbw ⊢
      go_loopw [15] (fun q wr => ∃ j : Nat, j ≤ b.length ∧ q = .int .i64 (j : Int) ∧ YsTo (fun j => !(brS a b i j)) j ∧ Below w.heap.size w wr) (fun q _ => b.length - (intOf q).toNat)
      case atStart => exact ⟨0, Nat.zero_le _, rfl, fun i hi => absurd hi (Nat.not_lt_zero _), hbw⟩
      case round =>
        clear hbw
        obtain ⟨j, hj, rfl, hC, hbw⟩ := hrel
        have HC := hid hC
        clear hC
        by_cases hjl : j < b.length
        · have HR := hid (l7Bridge_c a b i j pa pb a.length ca b.length cb wr rfl rfl h1 h2 hil hjl ((HA.out.later hbw).mono hbw.size) ((HB.out.later hbw).mono hbw.size))
          cases hE : brS a b i j
          · rw [hE] at HR
            have HE := hid hE
            clear hE
            go_wp2_with (go_at_call 40; refine HR.out.mono ?_; rintro e w2 ⟨rfl, hb⟩; replace hbw := grew hbw hb; clear hb)
            go_roundw
            case rel => exact ⟨j + 1, by omega, by go_num, HC.out.succ (by rw [HE.out]; rfl), hbw⟩
            case measure => simp [intOf]; omega
          · rw [hE] at HR
            have HE := hid (bd_of HT.out hil hjl ((br_iff HT.out hil hjl).1 hE))
            clear hE
            go_wp2_with (go_at_call 40; refine HR.out.mono ?_; rintro e w2 ⟨rfl, hb⟩; replace hbw := grew hbw hb; clear hb)
            go_ret2
            exact ⟨ret_ii (by rw [HE.out]) (by rw [HE.out]), hbw⟩
        · obtain rfl : j = b.length := by omega
          have HC2 := hid (fun j (hj : j < b.length) => by have := HC.out j hj; simpa using this : ∀ j, j < b.length → brS a b i j = false)
          clear HC
          go_wp2
          go_roundw
          case rel => exact ⟨i + 1, by omega, by go_num, fun i' hi' j hj => by
            by_cases e : i' = i
            · subst e; exact HC2.out j hj
            · exact HN.out i' (by omega) j hj, hbw⟩
          case measure => simp [intOf]; omega
    · obtain rfl : i = a.length := by omega
      have HE := hid (bd_none HN.out)
      clear HN
      go_wp2
      go_ret2
      exact ⟨ret_ii (by rw [HE.out]; rfl) (by rw [HE.out]; rfl), hbw⟩
set_option maxHeartbeats 4000000 in
theorem bridgeTopSpec_c (a b : List (Int × Int)) (pa pb : Option Addr) (na ca nb cb : Nat) (w : World) (hla : a.length = na) (hlb : b.length = nb) (h1 : na ≤ 1048576) (h2 : nb ≤ 1048576) (hA : At w.heap.size pa a w) (hB : At w.heap.size pb b w) :
    Calls Tryd.prog 15 #[.slice pa na ca, .slice pb nb cb] w fun e w' => e = .returned (.tuple #[.int .i64 (bdV a b).1, .int .i64 (bdV a b).2, .bool (twI a b)]) ∧ Below w.heap.size w w' := by
  subst hla hlb
  have HA := hid hA
  have HB := hid hB
  have tk : True := trivial
  clear hA hB
  cases hT : twI a b
  · have EV := hid (show bdV a b = (0, 0) by unfold bdV; rw [hT]; rfl)
    go_enter Tryd.func15, Tryd.ntmps15
    go_wp2_with (go_at_call 22; refine (l7Two_c a b _ _ _ _ _ _ _ rfl rfl h1 h2 HA.out HB.out).mono ?_; rw [hT]; rintro e w1 ⟨rfl, hb1⟩)
    refine bodyPost_ret (v := .tuple #[.int .i64 0, .int .i64 0, .bool false]) (by simp [results, Tryd.results15, go_sem]) rfl ?_
    exact ⟨ret_iib (by rw [EV.out]) (by rw [EV.out]) rfl, hb1⟩
  · have EV := hid (show bdV a b = (((bdP a b).1 : Int), ((bdP a b).2 : Int)) by unfold bdV; rw [hT]; rfl)
    have HT := hid hT
    go_enter Tryd.func15, Tryd.ntmps15
    go_wp2_with (first
      | (go_at_call 22; refine (l7Two_c a b _ _ _ _ _ _ _ rfl rfl h1 h2 HA.out HB.out).mono ?_; rw [hT]; rintro e w1 ⟨rfl, hb1⟩)
      | (go_at_call 30; refine (l7Find_c a b _ _ _ _ _ _ w1 rfl rfl h1 h2 HT.out ((HA.out.later hb1).mono hb1.size) ((HB.out.later hb1).mono hb1.size)).mono ?_; rintro e w2 ⟨rfl, hb2⟩))
    refine bodyPost_ret (v := .tuple #[.int .i64 ((bdP a b).1 : Int), .int .i64 ((bdP a b).2 : Int), .bool true]) (by simp [results, Tryd.results15, go_sem]) rfl ?_
    exact ⟨ret_iib (by rw [EV.out]) (by rw [EV.out]) (by first | rfl | exact HT.out.symm), grew hb1 hb2⟩
set_option maxHeartbeats 4000000 in
theorem bridgeTopImpl_c (a b : List (Int × Int)) (pa pb : Option Addr) (na ca nb cb : Nat) (w : World) (hla : a.length = na) (hlb : b.length = nb) (h1 : na ≤ 1048576) (h2 : nb ≤ 1048576) (hA : At w.heap.size pa a w) (hB : At w.heap.size pb b w) (c0 : w.cell? ⟨0, 0, none⟩ = some (.int .i64 1000000)) :
    Calls Tryd.prog 14 #[.slice pa na ca, .slice pb nb cb] w fun e w' => e = .returned (.tuple #[.int .i64 (bdV a b).1, .int .i64 (bdV a b).2, .bool (twI a b)]) ∧ Below w.heap.size w w' := by
  subst hla hlb
  have HA := hid hA
  have HB := hid hB
  have C0 := hid c0
  clear hA hB
  cases hT : twI a b
  · have EV := hid (show bdV a b = (0, 0) by unfold bdV; rw [hT]; rfl)
    go_enter Tryd.func14, Tryd.ntmps14
    go_wp2_with (go_at_call 25; refine (areChains_c a b _ _ _ _ _ _ _ rfl rfl h1 h2 HA.out HB.out C0.out).mono ?_; rw [hT]; rintro e w1 ⟨rfl, hb1⟩)
    refine bodyPost_ret (v := .tuple #[.int .i64 0, .int .i64 0, .bool false]) (by simp [results, Tryd.results14, go_sem]) rfl ?_
    exact ⟨ret_iib (by rw [EV.out]) (by rw [EV.out]) rfl, hb1⟩
  · have EV := hid (show bdV a b = (((bdP a b).1 : Int), ((bdP a b).2 : Int)) by unfold bdV; rw [hT]; rfl)
    have HT := hid hT
    go_enter Tryd.func14, Tryd.ntmps14
    go_wp2_with (first
      | (go_at_call 25; refine (areChains_c a b _ _ _ _ _ _ _ rfl rfl h1 h2 HA.out HB.out C0.out).mono ?_; rw [hT]; rintro e w1 ⟨rfl, hb1⟩)
      | (go_at_call 26; refine (bridgeOf_c a b _ _ _ _ _ _ w1 rfl rfl h1 h2 HT.out ((HA.out.later hb1).mono hb1.size) ((HB.out.later hb1).mono hb1.size) (cell_later hb1 C0.out)).mono ?_; rintro e w2 ⟨i, j, hi, hj, hBr, rfl, hb2⟩; have EE := hid (bd_of HT.out hi hj hBr)))
    refine bodyPost_ret (v := .tuple #[.int .i64 (i : Int), .int .i64 (j : Int), .bool true]) (by simp [results, Tryd.results14, go_sem]) rfl ?_
    exact ⟨ret_iib (by rw [EV.out, EE.out]) (by rw [EV.out, EE.out]) (by first | rfl | exact HT.out.symm), grew hb1 hb2⟩
end Go.Proofs.YtibmgoaildhclaaDoor
