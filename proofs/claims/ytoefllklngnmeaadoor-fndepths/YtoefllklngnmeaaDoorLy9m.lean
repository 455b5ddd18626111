/-
  Points in a map, made and told in order (contracts for the walks).
  Conditions: as each theorem states them.
-/
import Derived.Test.YtoefllklngnmeaaDoorMpMath
import Derived.Test.YtoefllklngnmeaaDoorFPush
import Derived.Sort.OwnSorted
namespace Go.Proofs.YtoefllklngnmeaaDoor
open Go.RowKit Go.Shelf
set_option linter.unusedVariables false
set_option maxRecDepth 8000
theorem makeHint (n : Nat) (w : World) : (Instr.makeMap 62 (some (.int .i64 (n : Int)))).run Tryd.prog w = .ok (.map (some w.heap.size)) (w.alloc (.map #[] 0)) := by
  simp [Instr.makeMap, run_underlying Tryd.underlying62, asInt, asIntOf, Result.andThen]
theorem not_taken {l : List (Int × Int)} (h : l.Nodup) {k : Nat} (hk : k < l.length) : (px l k, py l k) ∉ l.take k := by
  have e : (px l k, py l k) = l[k] := by simp [px, py, hk]
  rw [e]
  intro hm
  obtain ⟨i, hi, he⟩ := List.getElem_of_mem hm
  rw [List.length_take] at hi
  rw [List.getElem_take] at he
  have := (List.nodup_iff_pairwise_ne.1 h)
  exact List.pairwise_iff_getElem.1 this i k (by omega) hk (by omega) he
theorem take_snocL {l : List (Int × Int)} {k : Nat} (h : k < l.length) : l.take (k + 1) = l.take k ++ [(px l k, py l k)] := by
  have e : (px l k, py l k) = l[k] := by simp [px, py, h]
  rw [e, List.take_add_one, List.getElem?_eq_getElem h]; rfl
theorem grown_below {w w' : World} (h : Below w.heap.size w w') (row : Option Nat) : w.grownBy w' row := ⟨h.os, h.tape, h.output, h.size, fun k hk _ => h.block k hk⟩
theorem own_not {H : Type} {N : Nat} {v : Value} {l : List (Int × Int)} {w : World} (h : Own N v l w) {b : Nat} (hb : b < N) : some b ≠ v.ownBlock := row_ne_low (row_of h) hb
set_option maxHeartbeats 4000000 in
theorem coreOf_c (l : List (Int × Int)) (a : Option Addr) (len cap : Nat) (w : World) (hl : l.length = len) (h1 : len ≤ 1048576) (hG : goodL l = true) (hA : At w.heap.size a l w) :
    Calls Tryd.prog 45 #[.slice a len cap] w fun e w' => ∃ b D, e = .returned (.map (some b)) ∧ w.heap.size ≤ b ∧ PM w' b len l D ∧ Below w.heap.size w w' := by
  subst hl
  have HA := hid hA
  clear hA
  have HND := hid (good_nodup hG)
  have HGG := hid (goodL_all hG)
  have hmm := @makeHint l.length w
  have hP0 := PM.made w
  have hbw : Below w.heap.size w (w.alloc (.map #[] 0)) := (Below.refl _ _).alloc (Nat.le_refl _) _
  clear hG
  go_enter Tryd.func45, Tryd.ntmps45
  go_wp2
  go_loopw [11] (fun i wr => ∃ k : Nat, k ≤ l.length ∧ i = .int .i64 k ∧ (∃ D, PM wr w.heap.size k (l.take k) D) ∧ Below w.heap.size w wr) (fun i _ => l.length - (intOf i).toNat)
  case atStart => exact ⟨0, Nat.zero_le _, rfl, ⟨_, hP0⟩, hbw⟩
  case round =>
    clear hP0 hbw hmm
    obtain ⟨k, hk, rfl, ⟨D, hP⟩, hbw⟩ := hrel
    by_cases hkl : k < l.length
    · have HPUT := hid (fun w' ho => hP.put (w' := w') (not_taken HND.out hkl) (HGG.out _ (pt_mem (l := l) hkl)) ho)
      rw [← take_snocL hkl] at HPUT
      have hkey0 := keyOf_gp (HGG.out _ (pt_mem (l := l) hkl))
      obtain ⟨b, off, rfl, hbN, g0, g1⟩ := HA.out k hkl
      have q0 := cell_later hbw g0
      have q1 := cell_later hbw g1
      have hsz := hbw.size
      have hbl : b < wr.heap.size := by omega
      clear g0 g1
      change keyOf _ _ (.agg #[.int .i64 (px l k), .int .i64 (py l k)]) = some (klP (px l k, py l k)) at hkey0
      change Hid (∀ w' : World, w'.ownsMap _ _ _ _ _ (D.put (klP (px l k, py l k)) _) → _) at HPUT
      obtain ⟨ux, hx⟩ : ∃ u, px l k = u := ⟨_, rfl⟩
      obtain ⟨uy, hy⟩ : ∃ u, py l k = u := ⟨_, rfl⟩
      rw [hx, hy] at HPUT hkey0
      rw [hx] at q0
      rw [hy] at q1
      clear hx hy
      have HK := hid hkey0
      have hi0 : (0 : Int) ≤ (k : Int) := by omega
      have hi1 : (k : Int) < (l.length : Int) := by omega
      have HP := hid hP
      have HBX := hid (grew hbw (show Below wr.heap.size wr (wr.alloc (.cells #[.int .i64 ux, .int .i64 uy] 30)) by go_grown))
      clear hP hkey0
      go_wp2_with (at_mapUpdate; refine wpList_mapUpdate_in _ rfl _ _ _ 62 rfl 30 80 lawPt Tryd.underlying62 unitElem _ _ _ rfl (HP.out.own.alloc _) (by unfold maxLen; omega) _ _ _ rfl rfl HK.out (.agg []) [] unitElem_mk ?_; intro w1 hown1 hturn1)
      go_roundw
      case rel => exact ⟨k + 1, by omega, by go_num, ⟨_, HPUT.out _ hown1⟩, HBX.out.grown hturn1.grown HBX.out.size (fun j hj => by cases hj; exact Nat.le_refl _)⟩
      case measure => simp [intOf]; omega
    · obtain rfl : k = l.length := by omega
      rw [List.take_length] at hP
      go_wp2
      go_ret
      exact ⟨_, D, rfl, Nat.le_refl _, hP, hbw⟩
theorem own_made {N : Nat} {v : Value} {l : List (Int × Int)} {w : World} (h : Own N v l w) (hv : v ≠ .slice none 0 0) : ∃ g cap, v = .slice (some ⟨g, 0, none⟩) l.length cap ∧ N ≤ g ∧ g < w.heap.size := by
  rcases h with ⟨_, e⟩ | ⟨g, cap, f, e, h1, h2, h3, h4, _⟩
  · exact absurd e hv
  · exact ⟨g, cap, e, h1, h4.lt⟩
set_option maxHeartbeats 8000000 in
theorem mapOrder_c (b n : Nat) (s : List (Int × Int)) (D : DataW Unit) (w : World) (hP : PM w b n s D) (hs : s.Pairwise Lx) (h1 : s.length ≤ 1048576) :
    Calls Tryd.prog 51 #[.map (some b)] w fun e w' => ∃ v, e = .returned v ∧ Own w.heap.size v s w' ∧ Below w.heap.size w w' := by
  obtain ⟨i0, hi, hz0, hz1, hz2⟩ := info_parts info_pt
  have hbl := hP.lt
  have HP := hid hP
  have HS := hid hs
  have HSZ := hid hP.size
  clear hP hs
  go_enter Tryd.func51, Tryd.ntmps51
  go_wp2_with (first
    | (at_len; refine wpList_len_own _ rfl _ 62 rfl 30 80 Tryd.underlying62 unitElem b n D rfl HP.out.own ?_; rw [HSZ.out])
    | (at_make; refine wpList_make_own _ rfl _ _ 28 rfl w.heap.size 30 i0 _ 2 Tryd.underlying28 hi hz0 hz1 .i64 .i64 _ s.length rfl rfl rfl (by rw [hz2]; omega) (by unfold maxLen; omega) (Nat.le_refl _) ?_; intro w1 hrow1 hg1)
    | (at_range; refine wpList_range_own _ rfl _ 62 rfl 30 80 lawPt Tryd.underlying62 unitElem b n D rfl (HP.out.own.kept hg1 (by simp)) ?_; intro w0 hrg0 hg0 hs0))
  go_frame
  go_loopw [3] (fun v wr => ∃ (left : Lit → Bool) (cnt : Nat) (l : List (Int × Int)), wr.ranges Tryd.prog 30 unitElem b w1.heap.size n D left cnt ∧ l.length + cnt ≤ s.length ∧
      Own w.heap.size v l wr ∧ v ≠ .slice none 0 0 ∧ Coll s left l ∧ Below w.heap.size w wr)
    (fun _ wr => wr.rangeLeft b w1.heap.size)
  case atStart =>
    exact ⟨_, _, [], hrg0, by rw [HSZ.out]; simp, own_of (hrow1.kept hg0 (Or.inr (by simp [Value.ownBlock]))), by simp, Coll.start HP.out,
      ((Below.refl _ _).grown hg1 (Nat.le_refl _) (fun j hj => by cases hj)).grown hg0 hg1.size (fun j hj => by cases hj)⟩
  case round =>
    obtain ⟨left, cnt, l, hrg, hcs, hO, hnn, hC, hnx⟩ := hrel
    go_wp2_with (at_next; refine wpList_next_ranges _ rfl _ rfl 30 lawPt unitElem (fun p : Int × Int => .agg #[.int .i64 p.1, .int .i64 p.2]) (fun _ : Unit => .agg #[]) (fun key kl hk => by obtain ⟨x, y, e, _⟩ := keyOf_pt_inv hk; exact ⟨(x, y), e⟩) (fun v y hv => ⟨(), (unitElem_inv hv).1⟩) b w1.heap.size n _ _ _ rfl hrg ?_ ?_)
    · intro hc0 hl0
      obtain ⟨g, cap, hv, hgN, hglt⟩ := own_made hO hnn
      subst hv
      have hc := sortOwn_c w.heap.size g l.length cap l s wr hO (by omega) HS.out (hC.perm HS.out hl0)
      have HC := hid hc
      clear hc hC hO hnn
      go_wp2_with (go_at_call 72; refine HC.out.mono ?_; rintro e w' ⟨rfl, hO', hg'⟩)
      go_ret
      exact ⟨_, rfl, hO', hnx.grown hg' hnx.size (fun j hj => by cases hj; exact hgN)⟩
    · intro ux uy kl yd yp w2 cnt2 hkey hlk hv hat hrg2 hlt hg2 hs2 hen
      obtain ⟨hC2, hxs⟩ := Coll.step (x := ux) (y := uy) HP.out hC hkey hlk hat
      have hrow := row_of hO
      have hrow2 := hrow.kept hg2 (Or.inr (row_ne_iter hrow hrg).symm)
      have hri := row_ne_iter hrow2 hrg2
      have hbb := row_ne_low hrow2 hbl
      have hrN := fun j hj => (hrow2.lt j hj).1
      have HRI := hid hri
      have HBB := hid hbb
      have HRN := hid hrN
      have HCC := hid hC2
      have hlen : l.length + 1 ≤ s.length := by omega
      have HLC : Hid ((l ++ [(ux, uy)]).length + cnt2 ≤ s.length) := by show _ ≤ _; simp; omega
      have HB2 := hid (hnx.grown hg2 hnx.size (fun j hj => by cases hj; exact hg1.size))
      clear hs2 hC hC2 hO hrow hnn hkey hlk hat hv hri hbb hrN
      go_upto_region 5 with fail
      have hbX : Below w2.heap.size w2 (w2.alloc (.cells #[.int .i64 ux, .int .i64 uy] 30)) := by go_grown
      have HR := hid (hrow2.alloc (.cells #[.int .i64 ux, .int .i64 uy] 30))
      have HRG := hid (hrg2.alloc (.cells #[.int .i64 ux, .int .i64 uy] 30))
      have HB3 := hid (grew HB2.out hbX)
      have k0 := box0 w2 ux uy 30
      have k1 := box1 w2 ux uy 30
      have hszb := HB3.out.size
      clear hrow2 hrg2 hbX hen
      generalize w2.alloc (.cells #[.int .i64 ux, .int .i64 uy] 30) = wb at *
      go_wp2_with (at_builtin; refine wpList_append_own _ rfl _ _ 28 rfl w.heap.size 30 i0 _ 2 16 Tryd.underlying28 hi hz0 hz1 hz2 rfl (by decide) _ _ _ rfl (HR.out.alloc _) _ 1 _ (cells [(ux, uy)]) rfl rfl (fun j u hu => one_src _ ux uy _ rfl j u hu) (cells_ones _) (by unfold maxLen; omega) (by omega) (by simp; omega) ?_; intro v' w3 hown' hg3 hnil3)
      have hrg3 := (HRG.out.alloc (.cells #[.int .i64 ux, .int .i64 uy] 30)).kept hg3 HBB.out HRI.out
      go_roundw
      case rel =>
        refine ⟨_, cnt2, l ++ [(ux, uy)], hrg3, HLC.out, own_of (by rw [cells_append]; exact hown'), fun hv' => by have := (hnil3.1 hv').2; omega, HCC.out, ?_⟩
        exact (HB3.out.alloc HB3.out.size _).grown hg3 (by simp; omega) HRN.out
      case measure => rw [hrg3.left_eq, hrg.left_eq]; exact hlt
end Go.Proofs.YtoefllklngnmeaaDoor
