/-
  The draws of the hull laws' arguments (contracts for the walks).
  Conditions: as each theorem states them.
-/
import Derived.Test.YtcghpepkphphbaaGreatDoorDrHull
namespace Go.Proofs.YtcghpepkphphbaaGreatDoor
open Go.RowKit
set_option linter.unusedVariables false
theorem Bytes.mono {N N' : Nat} {a : Option Addr} {len : Nat} {w : World} (h : Bytes N a len w) (hN : N ≤ N') : Bytes N' a len w := fun i hi => by
  obtain ⟨blk, off, z, e, hb, hc, h0, h1⟩ := h i hi
  exact ⟨blk, off, z, e, Nat.lt_of_lt_of_le hb hN, hc, h0, h1⟩
/-- A new cursor is ready. -/
theorem rd_new (N b : Nat) (a : Option Addr) (len cap : Nat) (U : World) (hB : Bytes N a len U) (hl : len ≤ 1048576) (hN : N ≤ b) (hb : U.heap.size = b) :
    Rd N b 0 (U.alloc (.cells #[.slice a len cap, .int .i64 0, .int .u64 0] 51)) := by
  subst hb
  refine ⟨a, len, cap, 0, ⟨?_, ?_, ⟨0, ?_, by omega, by omega⟩, ?_, ?_⟩, hB.below ((Below.refl _ _).alloc (Nat.le_refl _) _), hN, hl, Nat.le_refl _⟩
  · simp [go_sem]
  · simp [go_sem]
  · simp [go_sem]
  · simp [go_sem]
  · simp [go_sem]
set_option maxHeartbeats 2000000 in
theorem drawGood_c (a : Option Addr) (len cap : Nat) (w : World) (hB : Bytes w.heap.size a len w) (hl : len ≤ 1048576) :
    Calls Tryz.prog 22 #[.slice a len cap] w fun e w' => ∃ v, e = .returned v ∧ ∃ l, Own w.heap.size v l w' ∧ l.length ≤ 13 ∧ Below w.heap.size w w' := by
  have hR0 : Rd w.heap.size w.heap.size 0 (w.alloc (.cells #[.slice a len cap, .int .i64 0, .int .u64 0] 51)) := rd_new _ _ _ _ _ _ hB hl (by omega) rfl
  clear hB
  have hW : Below w.heap.size w (w.alloc (.cells #[.slice a len cap, .int .i64 0, .int .u64 0] 51)) := by go_grown
  have hsz : (w.alloc (.cells #[.slice a len cap, .int .i64 0, .int .u64 0] 51)).heap.size = w.heap.size + 1 := by simp
  go_enter Tryz.func22, Tryz.ntmps22
  go_upto_region 2 with fail
  generalize w.alloc (.cells #[.slice a len cap, .int .i64 0, .int .u64 0] 51) = wB at hR0 hW hsz ⊢
  go_wp2_with (go_at_call 39; refine (anySet_r w.heap.size w.heap.size 0 wB hR0 (by omega)).mono ?_; rintro e w1 ⟨v1, rfl, l, ho1, hl1, hR1, hO1⟩; obtain ⟨a1, p1, hv1⟩ := ho1.shape; subst hv1; have hs1 := hO1.size)
  go_ret
  exact ⟨_, rfl, l, ho1.mono (by omega), hl1, hW.trans (hO1.below (by omega) (Nat.le_refl _))⟩
theorem drawHull_c (a : Option Addr) (len cap : Nat) (w : World) (hB : Bytes w.heap.size a len w) (hl : len ≤ 1048576) :
    Calls Tryz.prog 5 #[.slice a len cap] w fun e w' => ∃ v, e = .returned v ∧ ∃ l, Own w.heap.size v l w' ∧ l.length ≤ 13 ∧ Below w.heap.size w w' := by
  have HB := hid hB
  clear hB
  go_enter Tryz.func5, Tryz.ntmps5
  go_wp2_with (go_at_call 22; refine (drawGood_c _ _ _ _ HB.out hl).mono ?_; rintro e w1 ⟨v1, rfl, l, ho1, hl1, hb1⟩; obtain ⟨a1, p1, hv1⟩ := ho1.shape; subst hv1)
  go_ret
  exact ⟨_, rfl, l, ho1, hl1, hb1⟩
set_option maxHeartbeats 2000000 in
theorem drawGoodHull_c (a : Option Addr) (len cap : Nat) (w : World) (hB : Bytes w.heap.size a len w) (hl : len ≤ 1048576) :
    Calls Tryz.prog 20 #[.slice a len cap] w fun e w' => ∃ v, e = .returned v ∧ ∃ l, OwnC w.heap.size v l w' ∧ l.length ≤ 25 ∧ Below w.heap.size w w' := by
  have hR0 : Rd w.heap.size w.heap.size 0 (w.alloc (.cells #[.slice a len cap, .int .i64 0, .int .u64 0] 51)) := rd_new _ _ _ _ _ _ hB hl (by omega) rfl
  clear hB
  have hW : Below w.heap.size w (w.alloc (.cells #[.slice a len cap, .int .i64 0, .int .u64 0] 51)) := by go_grown
  have hsz : (w.alloc (.cells #[.slice a len cap, .int .i64 0, .int .u64 0] 51)).heap.size = w.heap.size + 1 := by simp
  go_enter Tryz.func20, Tryz.ntmps20
  go_upto_region 2 with fail
  generalize w.alloc (.cells #[.slice a len cap, .int .i64 0, .int .u64 0] 51) = wB at hR0 hW hsz ⊢
  go_wp2_with (go_at_call 41; refine (anyHull_r w.heap.size w.heap.size 0 wB hR0 (by omega)).mono ?_; rintro e w1 ⟨v1, rfl, l, ho1, hl1, hR1, hO1⟩; obtain ⟨a1, p1, hv1⟩ := ho1.shape; subst hv1; have hs1 := hO1.size)
  go_ret
  exact ⟨_, rfl, l, ho1.mono (by omega), hl1, hW.trans (hO1.below (by omega) (Nat.le_refl _))⟩
theorem OwnC.cap_ge {N n cap : Nat} {a : Option Addr} {l : List (Int × Int)} {w : World} (h : OwnC N (.slice a n cap) l w) : n ≤ cap := by
  rcases h with ⟨_, e⟩ | ⟨g, c, M, f, e, _, h2, _⟩
  · simp at e; omega
  · simp at e; omega
theorem At.cut {N b off : Nat} {l : List (Int × Int)} {w : World} (h : At N (some ⟨b, off, none⟩) l w) (h1 : 1 < l.length) : At N (some ⟨b, off + 2, none⟩) (l.drop 1) w := fun i hi => by
  rw [List.length_drop] at hi
  obtain ⟨b', off', e, hN, g0, g1⟩ := h (i + 1) (by omega)
  obtain ⟨rfl, rfl⟩ : b = b' ∧ off = off' := by simp at e; exact e
  refine ⟨b, off + 2, rfl, hN, ?_, ?_⟩
  · rw [show off + 2 + i * 2 = off + (i + 1) * 2 by omega, g0]; simp [px]
  · rw [show off + 2 + i * 2 + 1 = off + (i + 1) * 2 + 1 by omega, g1]; simp [py]
set_option maxHeartbeats 4000000 in
set_option maxRecDepth 8000 in
theorem drawIsHull_c (a : Option Addr) (len cap : Nat) (w : World) (hB : Bytes w.heap.size a len w) (hl : len ≤ 1048576) :
    Calls Tryz.prog 18 #[.slice a len cap] w fun e w' => ∃ v u, e = .returned (.tuple #[v, u]) ∧ ∃ l m, Own w.heap.size v l w' ∧ l.length ≤ 13 ∧ (∃ c cp, u = .slice c m.length cp ∧ At w'.heap.size c m w') ∧ m.length ≤ 26 ∧ Below w.heap.size w w' := by
  have hR0 : Rd w.heap.size w.heap.size 0 (w.alloc (.cells #[.slice a len cap, .int .i64 0, .int .u64 0] 51)) := rd_new _ _ _ _ _ _ hB hl (by omega) rfl
  clear hB
  have hW : Below w.heap.size w (w.alloc (.cells #[.slice a len cap, .int .i64 0, .int .u64 0] 51)) := by go_grown
  have hsz : (w.alloc (.cells #[.slice a len cap, .int .i64 0, .int .u64 0] 51)).heap.size = w.heap.size + 1 := by simp
  go_enter Tryz.func18, Tryz.ntmps18
  go_upto_region 2 with fail
  generalize w.alloc (.cells #[.slice a len cap, .int .i64 0, .int .u64 0] 51) = wB at hR0 hW hsz ⊢
  go_upto_region 4 with (first
    | (go_at_call 39; refine (anySet_r w.heap.size w.heap.size 0 wB hR0 (by omega)).mono ?_; rintro e w1 ⟨v1, rfl, l, ho1, hl1, hR1, hO1⟩; obtain ⟨a1, p1, hv1⟩ := ho1.shape; subst hv1; have hs1 := hO1.size)
    | (go_at_call 7; refine (hullSpec_c l _ _ _ w1 rfl (by omega) ho1.fit ho1.at).mono ?_; rintro e w2 ⟨v2, rfl, ho2, hb2⟩; obtain ⟨a2, p2, hv2⟩ := ho2.shape; subst hv2; have hs2 := hb2.size))
  have hO12 : Only w.heap.size wB w2 := hO1.trans (Only.ofBelow hb2)
  have hR2 := hR1.below (hb2.mono (by have := hR1.lt; omega))
  have HO1 := hid (ho1.later hb2)
  have HO2 := hid ho2
  have hl2 : (hulL l).length ≤ 26 := by unfold hulL; split; · have := hullB_len (t := slB) l; omega
                                        · simp
  obtain ⟨R, hR⟩ : ∃ R, hulL l = R := ⟨_, rfl⟩
  rw [hR] at hl2 HO2 ⊢
  clear ho1 ho2 hR0 hR1 hO1 hb2 hR
  have tk : True := trivial
  cases hG : goodL l
  · go_wp2_with (first
      | (go_at_call 40; refine (one_r 6 (by omega) (by omega) w.heap.size w.heap.size _ w2 hR2 (by omega)).mono ?_; rintro e w3 ⟨v3, rfl, hR3, hO3⟩; have hs3 := hO3.size; have HO3 := hid (HO2.out.only hO3 (by omega)); have HL3 := hid (HO1.out.only hO3 (by omega)); have hO13 := hO12.trans hO3)
      | (go_at_call 41; refine (anyHull_r w.heap.size w.heap.size _ w3 hR3 (by omega)).mono ?_; rintro e w4 ⟨v4, rfl, l4, ho4, hl4, hR4, hO4⟩; obtain ⟨a4, p4, hv4⟩ := ho4.shape; subst hv4; have hs4 := hO4.size; have HO4 := hid ho4; have HL4 := hid (HL3.out.only hO4 (by omega)); have hO14 := hO13.trans hO4))
    all_goals go_ret2
    all_goals first | exact ⟨_, _, rfl, l, R, HL3.out.mono (by omega), hl1, ⟨_, _, rfl, HO3.out.at⟩, by omega, hW.trans (hO13.below (by omega) (Nat.le_refl _))⟩ | exact ⟨_, _, rfl, l, l4, HL4.out.mono (by omega), hl1, ⟨_, _, rfl, HO4.out.at⟩, by omega, hW.trans (hO14.below (by omega) (Nat.le_refl _))⟩
  · by_cases h1 : 1 < R.length
    · obtain ⟨g, rfl, hg1, hg2, hgf⟩ := HO2.out.block (by omega)
      have hcap := HO2.out.cap_ge
      have hne : ¬ p2 = 1 := by omega
      have hle : (1 : Int) ≤ (R.length : Int) := by omega
      go_upto_region 6 with (first
        | (go_at_call 40; refine (one_r 3 (by omega) (by omega) w.heap.size w.heap.size _ w2 hR2 (by omega)).mono ?_; rintro e w3 ⟨v3, rfl, hR3, hO3⟩; have hs3 := hO3.size; have HO3 := hid (HO2.out.only hO3 (by omega)); have HL3 := hid (HO1.out.only hO3 (by omega)); have hO13 := hO12.trans hO3))
      · have hA3 := HO3.out.at.cut h1
        have HA3 := hid hA3
        clear hA3
        go_wp2_with (first
          | (go_at_call 40; refine (one_r 6 (by omega) (by omega) w.heap.size w.heap.size _ w3 hR3 (by omega)).mono ?_; rintro e w4 ⟨v4, rfl, hR4, hO4⟩; have hs4 := hO4.size; have HO4 := hid (HO3.out.only hO4 (by omega)); have HL4 := hid (HL3.out.only hO4 (by omega)); have hO14 := hO13.trans hO4)
          | (go_at_call 41; refine (anyHull_r w.heap.size w.heap.size _ w4 hR4 (by omega)).mono ?_; rintro e w5 ⟨v5, rfl, l5, ho5, hl5, hR5, hO5⟩; obtain ⟨a5, p5, hv5⟩ := ho5.shape; subst hv5; have hs5 := hO5.size; have HO5 := hid ho5; have HL5 := hid (HL4.out.only hO5 (by omega)); have hO15 := hO14.trans hO5))
        all_goals go_ret2
        all_goals first | exact ⟨_, _, rfl, l, R.drop 1, HL4.out.mono (by omega), hl1, ⟨some ⟨g, 2, none⟩, p2 - 1, by rw [List.length_drop]; rfl, HO4.out.at.cut h1⟩, by rw [List.length_drop]; omega, hW.trans (hO14.below (by omega) (Nat.le_refl _))⟩ | exact ⟨_, _, rfl, l, l5, HL5.out.mono (by omega), hl1, ⟨_, _, rfl, HO5.out.at⟩, by omega, hW.trans (hO15.below (by omega) (Nat.le_refl _))⟩
      · go_wp2_with (first
          | (go_at_call 40; refine (one_r 6 (by omega) (by omega) w.heap.size w.heap.size _ w3 hR3 (by omega)).mono ?_; rintro e w4 ⟨v4, rfl, hR4, hO4⟩; have hs4 := hO4.size; have HO4 := hid (HO3.out.only hO4 (by omega)); have HL4 := hid (HL3.out.only hO4 (by omega)); have hO14 := hO13.trans hO4)
          | (go_at_call 41; refine (anyHull_r w.heap.size w.heap.size _ w4 hR4 (by omega)).mono ?_; rintro e w5 ⟨v5, rfl, l5, ho5, hl5, hR5, hO5⟩; obtain ⟨a5, p5, hv5⟩ := ho5.shape; subst hv5; have hs5 := hO5.size; have HO5 := hid ho5; have HL5 := hid (HL4.out.only hO5 (by omega)); have hO15 := hO14.trans hO5))
        all_goals go_ret2
        all_goals first | exact ⟨_, _, rfl, l, R, HL4.out.mono (by omega), hl1, ⟨_, _, rfl, HO4.out.at⟩, by omega, hW.trans (hO14.below (by omega) (Nat.le_refl _))⟩ | exact ⟨_, _, rfl, l, l5, HL5.out.mono (by omega), hl1, ⟨_, _, rfl, HO5.out.at⟩, by omega, hW.trans (hO15.below (by omega) (Nat.le_refl _))⟩
    · go_wp2_with (first
        | (go_at_call 40; refine (one_r 6 (by omega) (by omega) w.heap.size w.heap.size _ w2 hR2 (by omega)).mono ?_; rintro e w3 ⟨v3, rfl, hR3, hO3⟩; have hs3 := hO3.size; have HO3 := hid (HO2.out.only hO3 (by omega)); have HL3 := hid (HO1.out.only hO3 (by omega)); have hO13 := hO12.trans hO3)
        | (go_at_call 41; refine (anyHull_r w.heap.size w.heap.size _ w3 hR3 (by omega)).mono ?_; rintro e w4 ⟨v4, rfl, l4, ho4, hl4, hR4, hO4⟩; obtain ⟨a4, p4, hv4⟩ := ho4.shape; subst hv4; have hs4 := hO4.size; have HO4 := hid ho4; have HL4 := hid (HL3.out.only hO4 (by omega)); have hO14 := hO13.trans hO4))
      all_goals go_ret2
      all_goals first | exact ⟨_, _, rfl, l, R, HL3.out.mono (by omega), hl1, ⟨_, _, rfl, HO3.out.at⟩, by omega, hW.trans (hO13.below (by omega) (Nat.le_refl _))⟩ | exact ⟨_, _, rfl, l, l4, HL4.out.mono (by omega), hl1, ⟨_, _, rfl, HO4.out.at⟩, by omega, hW.trans (hO14.below (by omega) (Nat.le_refl _))⟩
end Go.Proofs.YtcghpepkphphbaaGreatDoor
