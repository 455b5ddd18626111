/-
  Points, sets and hulls: contracts for the walks (Srt, Srt2, Srt3, Eq6, Btw in one text).
  Conditions: as each theorem states them.
-/
import Derived.Test.YtoefllklngnmeaaDoorB1
import Derived.Test.YtoefllklngnmeaaDoorLays
import Derived.Deep.RegionHeld3
import Derived.BigQuiet
import Derived.ChangeKeysEq
import Derived.Test.YtoefllklngnmeaaDoorB2
import Derived.Deep.DeepCutAuto
namespace Go.Proofs.YtoefllklngnmeaaDoor
open Go.RowKit Go.Shelf Go.Sort
set_option linter.unusedVariables false
def cmpI (x y : Int) : Int := if x < y then -1 else if y < x then 1 else 0
def orI (u v : Int) : Int := if u = 0 then v else u
theorem compare_c (x y : Int) (w : World) : Calls Tryd.prog 97 #[.int .i64 x, .int .i64 y] w fun e w' => e = .returned (.int .i64 (cmpI x y)) ∧ w' = w := by
  by_cases h1 : x < y
  · go_enter Tryd.func97, Tryd.ntmps97
    go_wp2
    all_goals go_ret
    all_goals exact ⟨ret_int (by unfold cmpI; rw [if_pos h1]), rfl⟩
  · by_cases h2 : y < x
    · go_enter Tryd.func97, Tryd.ntmps97
      go_wp2
      all_goals go_ret
      all_goals exact ⟨ret_int (by unfold cmpI; rw [if_neg (by omega), if_pos h2]), rfl⟩
    · go_enter Tryd.func97, Tryd.ntmps97
      go_wp2
      all_goals go_ret
      all_goals exact ⟨ret_int (by unfold cmpI; rw [if_neg (by omega), if_neg (by omega)]), rfl⟩
theorem or_c (u v : Int) (g : Nat) (w : World) (c0 : w.cell? ⟨g, 0, none⟩ = some (.int .i64 u)) (c1 : w.cell? ⟨g, 1, none⟩ = some (.int .i64 v)) :
    Calls Tryd.prog 96 #[.slice (some ⟨g, 0, none⟩) 2 2] w fun e w' => e = .returned (.int .i64 (orI u v)) ∧ w' = w := by
  have hg : g < w.heap.size := World.block_lt_of_cell? w _ c0
  go_enter Tryd.func96, Tryd.ntmps96
  go_wp2
  go_loopw [8] (fun i wr => ∃ k : Nat, (k = 0 ∨ (k = 1 ∧ u = 0) ∨ (k = 2 ∧ u = 0 ∧ v = 0)) ∧ i = .int .i64 k ∧ wr = w) (fun i _ => 2 - (intOf i).toNat)
  case atStart => exact ⟨0, .inl rfl, rfl, by first | rfl | trivial⟩
  case round =>
    obtain ⟨k, hk, rfl, rfl⟩ := hrel
    rcases hk with rfl | ⟨rfl, hu⟩ | ⟨rfl, hu, hv⟩
    · by_cases h0 : u = 0
      · go_wp2
        go_roundw
        case rel => exact ⟨1, .inr (.inl ⟨rfl, h0⟩), by go_num, by first | rfl | trivial⟩
        case measure => simp [intOf]
      · go_wp2
        go_ret
        exact ⟨ret_int (by unfold orI; rw [if_neg h0]), by first | rfl | trivial⟩
    · by_cases h0 : v = 0
      · go_wp2
        go_roundw
        case rel => exact ⟨2, .inr (.inr ⟨rfl, hu, h0⟩), by go_num, by first | rfl | trivial⟩
        case measure => simp [intOf]
      · go_wp2
        go_ret
        exact ⟨ret_int (by unfold orI; rw [if_pos hu]), by first | rfl | trivial⟩
    · go_wp2
      go_ret
      exact ⟨ret_int (by unfold orI; rw [if_pos hu, hv]), by first | rfl | trivial⟩
/-- A world with more blocks and more draws. -/
def Gro (w u : World) : Prop := ∃ q os, u = Go.Sort.grow (w.drewN q) os
theorem Gro.refl (w : World) : Gro w w := ⟨0, #[], by simp [Go.Sort.grow, World.drewN]⟩
theorem Gro.alloc {w u : World} (h : Gro w u) (o : Obj) : Gro w (u.alloc o) := by
  obtain ⟨q, os, rfl⟩ := h
  exact ⟨q, os ++ #[o], by rw [alloc_eq_grow, grow_grow]⟩
theorem Gro.drew {w u : World} (h : Gro w u) : Gro w u.drew := by
  obtain ⟨q, os, rfl⟩ := h
  exact ⟨q + 1, os, rfl⟩
theorem new0 (w : World) (u v : Int) (t : TypeId) : (w.alloc (.cells #[.int .i64 u, .int .i64 v] t)).cell? ⟨w.heap.size, 0, none⟩ = some (.int .i64 u) := by simp [go_sem]
theorem new1 (w : World) (u v : Int) (t : TypeId) : (w.alloc (.cells #[.int .i64 u, .int .i64 v] t)).cell? ⟨w.heap.size, 1, none⟩ = some (.int .i64 v) := by simp [go_sem]
theorem cpStart (w : World) (ax ay bx b_y : Int) : (fun u => u.cell? ⟨w.heap.size, 0, none⟩ = some (.int .i64 ax) ∧ u.cell? ⟨w.heap.size, 1, none⟩ = some (.int .i64 ay) ∧ u.cell? ⟨w.heap.size + 1, 0, none⟩ = some (.int .i64 bx) ∧ u.cell? ⟨w.heap.size + 1, 1, none⟩ = some (.int .i64 b_y) ∧ Gro w u) ((w.alloc (.cells #[.int .i64 ax, .int .i64 ay] 30)).alloc (.cells #[.int .i64 bx, .int .i64 b_y] 30)).drew := by
  have h1 := new0 w ax ay 30
  have h2 := new1 w ax ay 30
  have hb : Below (w.heap.size + 1) (w.alloc (.cells #[.int .i64 ax, .int .i64 ay] 30)) ((w.alloc (.cells #[.int .i64 ax, .int .i64 ay] 30)).alloc (.cells #[.int .i64 bx, .int .i64 b_y] 30)) := (Below.refl _ _).alloc (by simp) _
  have h3 := new0 (w.alloc (.cells #[.int .i64 ax, .int .i64 ay] 30)) bx b_y 30
  have h4 := new1 (w.alloc (.cells #[.int .i64 ax, .int .i64 ay] 30)) bx b_y 30
  have hs : (w.alloc (.cells #[.int .i64 ax, .int .i64 ay] 30)).heap.size = w.heap.size + 1 := by simp
  rw [hs] at h3 h4
  exact ⟨(hb.cell (show w.heap.size < w.heap.size + 1 by omega)).trans h1, (hb.cell (show w.heap.size < w.heap.size + 1 by omega)).trans h2, h3, h4, (((Gro.refl w).alloc _).alloc _).drew⟩
theorem cpBuilt {w u : World} {ax ay bx b_y : Int} (h : (fun u => u.cell? ⟨w.heap.size, 0, none⟩ = some (.int .i64 ax) ∧ u.cell? ⟨w.heap.size, 1, none⟩ = some (.int .i64 ay) ∧ u.cell? ⟨w.heap.size + 1, 0, none⟩ = some (.int .i64 bx) ∧ u.cell? ⟨w.heap.size + 1, 1, none⟩ = some (.int .i64 b_y) ∧ Gro w u) u) (x y : Value) : (fun u => u.cell? ⟨w.heap.size, 0, none⟩ = some (.int .i64 ax) ∧ u.cell? ⟨w.heap.size, 1, none⟩ = some (.int .i64 ay) ∧ u.cell? ⟨w.heap.size + 1, 0, none⟩ = some (.int .i64 bx) ∧ u.cell? ⟨w.heap.size + 1, 1, none⟩ = some (.int .i64 b_y) ∧ Gro w u) (u.alloc (.cells #[x, y] 3)) := by
  have hb : Below u.heap.size u (u.alloc (.cells #[x, y] 3)) := (Below.refl _ _).alloc (Nat.le_refl _) _
  exact ⟨cell_later hb h.1, cell_later hb h.2.1, cell_later hb h.2.2.1, cell_later hb h.2.2.2.1, h.2.2.2.2.alloc _⟩
theorem cpNew0 (w : World) (ax ay bx b_y u v : Int) : (((w.alloc (.cells #[.int .i64 ax, .int .i64 ay] 30)).alloc (.cells #[.int .i64 bx, .int .i64 b_y] 30)).alloc (.cells #[.int .i64 u, .int .i64 v] 3)).drew.cell? ⟨w.heap.size + 1 + 1, 0, none⟩ = some (.int .i64 u) := by simp [go_sem]
theorem cpNew1 (w : World) (ax ay bx b_y u v : Int) : (((w.alloc (.cells #[.int .i64 ax, .int .i64 ay] 30)).alloc (.cells #[.int .i64 bx, .int .i64 b_y] 30)).alloc (.cells #[.int .i64 u, .int .i64 v] 3)).drew.cell? ⟨w.heap.size + 1 + 1, 1, none⟩ = some (.int .i64 v) := by simp [go_sem]
def cmpP (p q : Int × Int) : Int := orI (cmpI p.1 q.1) (cmpI p.2 q.2)
set_option maxHeartbeats 2000000 in
set_option maxRecDepth 8000 in
theorem comparePoints_c (ax ay bx b_y : Int) (w : World) :
    Calls Tryd.prog 73 #[.agg #[.int .i64 ax, .int .i64 ay], .agg #[.int .i64 bx, .int .i64 b_y]] w fun e w' => e = .returned (.int .i64 (cmpP (ax, ay) (bx, b_y))) ∧ Gro w w' := by
  go_enter Tryd.func73, Tryd.ntmps73
  go_wp2
  refine wp_region_held_drew (S := (fun u => u.cell? ⟨w.heap.size, 0, none⟩ = some (.int .i64 ax) ∧ u.cell? ⟨w.heap.size, 1, none⟩ = some (.int .i64 ay) ∧ u.cell? ⟨w.heap.size + 1, 0, none⟩ = some (.int .i64 bx) ∧ u.cell? ⟨w.heap.size + 1, 1, none⟩ = some (.int .i64 b_y) ∧ Gro w u)) (by kernel_rfl) ?_ (fun hHeld => ?_)
  · exact cpStart w ax ay bx b_y
  refine wpAnyH_take (i := 0) (oi := { dst := some 5, op := Op.fieldAddr 30 (Operand.tmp 2) 0, type := 0, pos := "l4_inside.go:129", after := #[], guard := none }) (v := ?v1x0) rfl (by kernel_rfl) (by kernel_rfl) (by kernel_rfl) (fun _ _ _ h => h) (Or.inl ⟨by rfl, ?hy1x0⟩) (by with_reducible assumption) ?rest1x0
  case hy1x0 => (intro w hSw; (try dsimp only at hSw); go_simp; try with_reducible rfl)
  case' rest1x0 => (try simp only [Act.put, List.setIfInBounds_toArray, List.set_cons_zero, List.set_cons_succ])
  refine wpAnyH_take (i := 1) (oi := { dst := some 6, op := Op.load 3 (Operand.tmp 5), type := 3, pos := "l4_inside.go:129", after := #[{ on := 0, ground := Ground.data }], guard := none }) (v := ?v1x1) rfl (by kernel_rfl) (by kernel_rfl) (by kernel_rfl) (fun _ _ _ h => h) (Or.inl ⟨by rfl, ?hy1x1⟩) (by with_reducible assumption) ?rest1x1
  case hy1x1 => (intro w hSw; (try dsimp only at hSw); go_simp; try with_reducible rfl)
  case' rest1x1 => (try simp only [Act.put, List.setIfInBounds_toArray, List.set_cons_zero, List.set_cons_succ])
  refine wpAnyH_take (i := 2) (oi := { dst := some 7, op := Op.fieldAddr 30 (Operand.tmp 3) 0, type := 0, pos := "l4_inside.go:129", after := #[], guard := none }) (v := ?v1x2) rfl (by kernel_rfl) (by kernel_rfl) (by kernel_rfl) (fun _ _ _ h => h) (Or.inl ⟨by rfl, ?hy1x2⟩) (by with_reducible assumption) ?rest1x2
  case hy1x2 => (intro w hSw; (try dsimp only at hSw); go_simp; try with_reducible rfl)
  case' rest1x2 => (try simp only [Act.put, List.setIfInBounds_toArray, List.set_cons_zero, List.set_cons_succ])
  refine wpAnyH_take (i := 3) (oi := { dst := some 8, op := Op.load 3 (Operand.tmp 7), type := 3, pos := "l4_inside.go:129", after := #[{ on := 2, ground := Ground.data }], guard := none }) (v := ?v1x3) rfl (by kernel_rfl) (by kernel_rfl) (by kernel_rfl) (fun _ _ _ h => h) (Or.inl ⟨by rfl, ?hy1x3⟩) (by with_reducible assumption) ?rest1x3
  case hy1x3 => (intro w hSw; (try dsimp only at hSw); go_simp; try with_reducible rfl)
  case' rest1x3 => (try simp only [Act.put, List.setIfInBounds_toArray, List.set_cons_zero, List.set_cons_succ])
  refine wpAnyH_take (i := 5) (oi := { dst := some 10, op := Op.fieldAddr 30 (Operand.tmp 2) 1, type := 0, pos := "l4_inside.go:129", after := #[], guard := none }) (v := ?v1x5) rfl (by kernel_rfl) (by kernel_rfl) (by kernel_rfl) (fun _ _ _ h => h) (Or.inl ⟨by rfl, ?hy1x5⟩) (by with_reducible assumption) ?rest1x5
  case hy1x5 => (intro w hSw; (try dsimp only at hSw); go_simp; try with_reducible rfl)
  case' rest1x5 => (try simp only [Act.put, List.setIfInBounds_toArray, List.set_cons_zero, List.set_cons_succ])
  refine wpAnyH_take (i := 6) (oi := { dst := some 11, op := Op.load 3 (Operand.tmp 10), type := 3, pos := "l4_inside.go:129", after := #[{ on := 5, ground := Ground.data }], guard := none }) (v := ?v1x6) rfl (by kernel_rfl) (by kernel_rfl) (by kernel_rfl) (fun _ _ _ h => h) (Or.inl ⟨by rfl, ?hy1x6⟩) (by with_reducible assumption) ?rest1x6
  case hy1x6 => (intro w hSw; (try dsimp only at hSw); go_simp; try with_reducible rfl)
  case' rest1x6 => (try simp only [Act.put, List.setIfInBounds_toArray, List.set_cons_zero, List.set_cons_succ])
  refine wpAnyH_take (i := 7) (oi := { dst := some 12, op := Op.fieldAddr 30 (Operand.tmp 3) 1, type := 0, pos := "l4_inside.go:129", after := #[], guard := none }) (v := ?v1x7) rfl (by kernel_rfl) (by kernel_rfl) (by kernel_rfl) (fun _ _ _ h => h) (Or.inl ⟨by rfl, ?hy1x7⟩) (by with_reducible assumption) ?rest1x7
  case hy1x7 => (intro w hSw; (try dsimp only at hSw); go_simp; try with_reducible rfl)
  case' rest1x7 => (try simp only [Act.put, List.setIfInBounds_toArray, List.set_cons_zero, List.set_cons_succ])
  refine wpAnyH_take (i := 8) (oi := { dst := some 13, op := Op.load 3 (Operand.tmp 12), type := 3, pos := "l4_inside.go:129", after := #[{ on := 7, ground := Ground.data }], guard := none }) (v := ?v1x8) rfl (by kernel_rfl) (by kernel_rfl) (by kernel_rfl) (fun _ _ _ h => h) (Or.inl ⟨by rfl, ?hy1x8⟩) (by with_reducible assumption) ?rest1x8
  case hy1x8 => (intro w hSw; (try dsimp only at hSw); go_simp; try with_reducible rfl)
  case' rest1x8 => (try simp only [Act.put, List.setIfInBounds_toArray, List.set_cons_zero, List.set_cons_succ])
  refine wpAnyH_ready (rs := [4]) (by kernel_rfl) (by simp) ?_
  refine AllReadyH.cons (o := { dst := some 9, op := Op.call { callee := Callee.value (Operand.func 97), args := #[Operand.tmp 6, Operand.tmp 8], argTypes := #[3, 3] }, type := 3, pos := "l4_inside.go:129", after := #[{ on := 1, ground := Ground.data }, { on := 3, ground := Ground.data }], guard := none }) rfl (fun K hK => ?_) AllReadyH.nil
  go_simp
  refine (compare_c _ _ _).mono ?_
  rintro e w1 ⟨rfl, rfl⟩
  go_wp2_with fail
  refine hK.out _ _ ?_ (fun hHeld => ?_)
  · with_reducible assumption
  clear hK K
  try simp only [Act.put, List.setIfInBounds_toArray, List.set_cons_zero, List.set_cons_succ]
  refine wpAnyH_ready (rs := [9]) (by kernel_rfl) (by simp) ?_
  refine AllReadyH.cons (o := { dst := some 14, op := Op.call { callee := Callee.value (Operand.func 97), args := #[Operand.tmp 11, Operand.tmp 13], argTypes := #[3, 3] }, type := 3, pos := "l4_inside.go:129", after := #[{ on := 6, ground := Ground.data }, { on := 8, ground := Ground.data }, { on := 4, ground := Ground.chain }], guard := none }) rfl (fun K hK => ?_) AllReadyH.nil
  go_simp
  refine (compare_c _ _ _).mono ?_
  rintro e w1 ⟨rfl, rfl⟩
  go_wp2_with fail
  refine hK.out _ _ ?_ (fun hHeld => ?_)
  · with_reducible assumption
  clear hK K
  try simp only [Act.put, List.setIfInBounds_toArray, List.set_cons_zero, List.set_cons_succ]
  refine wpAnyH_ready (rs := [10]) (by kernel_rfl) (by simp) ?_
  refine AllReadyH.cons (o := { dst := some 15, op := Op.buildSlice 52 2 #[(0, Operand.tmp 9), (1, Operand.tmp 14)], type := 52, pos := "l4_inside.go:129", after := #[{ on := 4, ground := Ground.data }, { on := 9, ground := Ground.data }], guard := none }) rfl (fun K hK => ?_) AllReadyH.nil
  go_simp
  refine hK.out _ _ ?_ (fun hHeld => ?_)
  · exact cpBuilt (by with_reducible assumption) _ _
  clear hK K
  try simp only [Act.put, List.setIfInBounds_toArray, List.set_cons_zero, List.set_cons_succ]
  refine wpAnyH_ready (rs := [11]) (by kernel_rfl) (by simp) ?_
  refine AllReadyH.cons (o := { dst := some 16, op := Op.call { callee := Callee.value (Operand.func 96), args := #[Operand.tmp 15], argTypes := #[52] }, type := 3, pos := "l4_inside.go:129", after := #[{ on := 10, ground := Ground.data }, { on := 9, ground := Ground.chain }], guard := none }) rfl (fun K hK => ?_) AllReadyH.nil
  go_simp
  refine (or_c (cmpI ax bx) (cmpI ay b_y) _ _ (cpNew0 _ _ _ _ _ _ _) (cpNew1 _ _ _ _ _ _ _)).mono ?_
  rintro e w1 ⟨rfl, rfl⟩
  go_wp2_with fail
  refine hK.out _ _ ?_ (fun hHeld => ?_)
  · with_reducible assumption
  clear hK K
  try simp only [Act.put, List.setIfInBounds_toArray, List.set_cons_zero, List.set_cons_succ]
  refine wpAnyH_take (i := 12) (oi := { dst := some 4, op := Op.assign (Operand.tmp 16), type := 3, pos := "l4_inside.go:129", after := #[{ on := 11, ground := Ground.data }, { on := 11, ground := Ground.chain }, { on := 0, ground := Ground.phase }, { on := 1, ground := Ground.phase }, { on := 2, ground := Ground.phase }, { on := 3, ground := Ground.phase }, { on := 4, ground := Ground.phase }, { on := 5, ground := Ground.phase }, { on := 6, ground := Ground.phase }, { on := 7, ground := Ground.phase }, { on := 8, ground := Ground.phase }, { on := 9, ground := Ground.phase }, { on := 10, ground := Ground.phase }, { on := 11, ground := Ground.phase }], guard := none }) (v := ?v1x12) rfl (by kernel_rfl) (by kernel_rfl) (by kernel_rfl) (fun _ _ _ h => h) (Or.inl ⟨by rfl, ?hy1x12⟩) (by with_reducible assumption) ?rest1x12
  case hy1x12 => (intro w hSw; (try dsimp only at hSw); go_simp; try with_reducible rfl)
  case' rest1x12 => (try simp only [Act.put, List.setIfInBounds_toArray, List.set_cons_zero, List.set_cons_succ])
  refine wpAnyH_done (by kernel_rfl) ?_ _
  go_wp2
  go_ret
  exact ⟨rfl, hHeld.2.2.2.2⟩
end Go.Proofs.YtoefllklngnmeaaDoor
namespace Go.Proofs.YtoefllklngnmeaaDoor
open Go.RowKit Go.Shelf Go.Sort
set_option linter.unusedVariables false
set_option maxRecDepth 8000
def enc3 (p : Int × Int) : List Value := [.int .i64 p.1, .int .i64 p.2]
theorem cmpLays (blk off size : Nat) (w : World) : CmpLays Tryd.prog 73 #[] enc3 2 cmpP blk off size w := fun _ _ _ _ x y => comparePoints_c x.1 x.2 y.1 y.2 _
theorem bitsLen_c (n : Nat) (W : World) (h : n ≤ 12) : Calls Tryd.prog 95 #[.int .u64 n] W fun e w' => (∃ l : Int, e = .returned (.int .i64 l)) ∧ w' = W :=
  (Any.bits_Len Tryd.bitsLen2 n W (by omega) (by omega)).mono fun _ _ ⟨he, hw⟩ => ⟨⟨_, he⟩, hw⟩
theorem sort3_c (p0 p1 p2 : Int × Int) (g : Nat) (w : World) (hH : HoldsK enc3 2 w g 0 #[p0, p1, p2]) (hg : g < w.heap.size) :
    Calls Tryd.prog 72 #[.slice (some ⟨g, 0, none⟩) 3 3, .func (.func 73) #[] #[]] w fun e w' => e = .returned (.tuple #[]) ∧ ∃ n os, w' = sortWorldK enc3 2 w g 0 n (Sort.insertionSort (ltOf cmpP) #[p0, p1, p2] 0 3) os := by
  have eg : ∀ args w, (callFunc 73 args).run Tryd.prog w = .ok (.enter 73 args) w := enters_of Tryd.func73 (by kernel_rfl) rfl
  have hcon := AnyQ.slices_SortFunc_small Tryd.sortP 2 Tryd.isAgg30 Tryd.sizeOf30 enc3 (fun _ => rfl) (fun x v hv => by simp [enc3] at hv; rcases hv with rfl | rfl <;> rfl) cmpP 73 #[] g 0 3 #[p0, p1, p2] w eg (cmpLays g 0 _ w) hH hg (by simp) bitsLen_c
  exact hcon
def srt2 (a b : Int × Int) : (Int × Int) × (Int × Int) := if ltOf cmpP b a then (b, a) else (a, b)
def srt3 (a b c : Int × Int) : (Int × Int) × (Int × Int) × (Int × Int) :=
  if ltOf cmpP c (srt2 a b).2 then (if ltOf cmpP c (srt2 a b).1 then (c, (srt2 a b).1, (srt2 a b).2) else ((srt2 a b).1, c, (srt2 a b).2)) else ((srt2 a b).1, (srt2 a b).2, c)
theorem ins3 (a b c : Int × Int) : Sort.insertionSort (ltOf cmpP) #[a, b, c] 0 3 = #[(srt3 a b c).1, (srt3 a b c).2.1, (srt3 a b c).2.2] := by
  unfold srt3 srt2 Sort.insertionSort
  rw [insOuter, insOuter, insOuter]
  cases h1 : ltOf cmpP b a
  · cases h2 : ltOf cmpP c b
    · simp [insInner, h1, h2]
    · cases h3 : ltOf cmpP c a
      · simp [insInner, h1, h2, h3, swp]
      · simp [insInner, h1, h2, h3, swp]
  · cases h2 : ltOf cmpP c a
    · simp [insInner, h1, h2, swp]
    · cases h3 : ltOf cmpP c b
      · simp [insInner, h1, h2, h3, swp]
      · simp [insInner, h1, h2, h3, swp]
/-- What a sort of three points leaves: they lie in order at their block; all other blocks are as they were. -/
structure Sorted3 (r : (Int × Int) × (Int × Int) × (Int × Int)) (g : Nat) (w w' : World) : Prop where
  os : w'.os = w.os
  tape : w'.tape = w.tape
  output : w'.output = w.output
  size : w.heap.size ≤ w'.heap.size
  block : ∀ k, k < w.heap.size → k ≠ g → w'.heap[k]? = w.heap[k]?
  c0 : w'.cell? ⟨g, 0, none⟩ = some (.int .i64 r.1.1)
  c1 : w'.cell? ⟨g, 1, none⟩ = some (.int .i64 r.1.2)
  c2 : w'.cell? ⟨g, 2, none⟩ = some (.int .i64 r.2.1.1)
  c3 : w'.cell? ⟨g, 3, none⟩ = some (.int .i64 r.2.1.2)
  c4 : w'.cell? ⟨g, 4, none⟩ = some (.int .i64 r.2.2.1)
  c5 : w'.cell? ⟨g, 5, none⟩ = some (.int .i64 r.2.2.2)
theorem sort3_e (p0 p1 p2 : Int × Int) (g : Nat) (w : World) (hH : HoldsK enc3 2 w g 0 #[p0, p1, p2]) (hg : g < w.heap.size) :
    Calls Tryd.prog 72 #[.slice (some ⟨g, 0, none⟩) 3 3, .func (.func 73) #[] #[]] w fun e w' => e = .returned (.tuple #[]) ∧ Sorted3 (srt3 p0 p1 p2) g w w' := by
  refine (sort3_c p0 p1 p2 g w hH hg).mono ?_
  rintro e w' ⟨rfl, n, os, rfl⟩
  rw [ins3]
  have hk := holdsK_sortWorldK_c enc3 2 w g 0 #[p0, p1, p2] #[(srt3 p0 p1 p2).1, (srt3 p0 p1 p2).2.1, (srt3 p0 p1 p2).2.2] n os hH hg rfl
  refine ⟨rfl, rfl, rfl, rfl, size_sortWorldK_c _ _ _ _ _ _ _ _, fun k hk hkg => ?_, ?_, ?_, ?_, ?_, ?_, ?_⟩
  · unfold sortWorldK putRowK putRow mapBlock
    show (Array.modify w.heap g _ ++ os)[k]? = _
    rw [Array.getElem?_append_left (by simpa using hk), Array.getElem?_modify, if_neg (fun e => hkg e.symm)]
  · exact (hk.cell (i := 0) (c := 0) (by simp) (by omega)).1
  · exact (hk.cell (i := 0) (c := 1) (by simp) (by omega)).1
  · exact (hk.cell (i := 1) (c := 0) (by simp) (by omega)).1
  · exact (hk.cell (i := 1) (c := 1) (by simp) (by omega)).1
  · exact (hk.cell (i := 2) (c := 0) (by simp) (by omega)).1
  · exact (hk.cell (i := 2) (c := 1) (by simp) (by omega)).1
end Go.Proofs.YtoefllklngnmeaaDoor
namespace Go.Proofs.YtoefllklngnmeaaDoor
open Go.RowKit Go.Shelf Go.Sort
set_option linter.unusedVariables false
set_option maxRecDepth 8000
theorem holds6 (w : World) (ax ay bx b_y cx cy : Int) : HoldsK enc3 2 ((w.alloc (.cells #[.int .i64 ax, .int .i64 ay, .int .i64 bx, .int .i64 b_y, .int .i64 cx, .int .i64 cy] 95)).alloc (.cells #[.int .i64 0, .int .i64 0, .int .i64 0, .int .i64 0, .int .i64 0, .int .i64 0] 95)) w.heap.size 0 #[(ax, ay), (bx, b_y), (cx, cy)] := by
  intro j hj
  have hj6 : j < 6 := by simpa using hj
  have hb : RowKit.Below (w.heap.size + 1) (w.alloc (.cells #[.int .i64 ax, .int .i64 ay, .int .i64 bx, .int .i64 b_y, .int .i64 cx, .int .i64 cy] 95)) ((w.alloc (.cells #[.int .i64 ax, .int .i64 ay, .int .i64 bx, .int .i64 b_y, .int .i64 cx, .int .i64 cy] 95)).alloc (.cells #[.int .i64 0, .int .i64 0, .int .i64 0, .int .i64 0, .int .i64 0, .int .i64 0] 95)) := (RowKit.Below.refl _ _).alloc (by simp) _
  have hh : ((w.alloc (.cells #[.int .i64 ax, .int .i64 ay, .int .i64 bx, .int .i64 b_y, .int .i64 cx, .int .i64 cy] 95)).alloc (.cells #[.int .i64 0, .int .i64 0, .int .i64 0, .int .i64 0, .int .i64 0, .int .i64 0] 95)).heap[w.heap.size]? = some (.cells #[.int .i64 ax, .int .i64 ay, .int .i64 bx, .int .i64 b_y, .int .i64 cx, .int .i64 cy] 95) := (hb.block _ (by omega)).trans (heap_alloc_new _ _)
  unfold World.cell? World.frozen?
  rw [hh, get_flatK _ _ _ j (by simpa using hj6)]
  match j, hj6 with
  | 0, _ => exact ⟨rfl, rfl⟩
  | 1, _ => exact ⟨rfl, rfl⟩
  | 2, _ => exact ⟨rfl, rfl⟩
  | 3, _ => exact ⟨rfl, rfl⟩
  | 4, _ => exact ⟨rfl, rfl⟩
  | 5, _ => exact ⟨rfl, rfl⟩
theorem res6 {w w' : World} {ax ay bx b_y cx cy : Int} {r : (Int × Int) × (Int × Int) × (Int × Int)} (h : Sorted3 r w.heap.size ((w.alloc (.cells #[.int .i64 ax, .int .i64 ay, .int .i64 bx, .int .i64 b_y, .int .i64 cx, .int .i64 cy] 95)).alloc (.cells #[.int .i64 0, .int .i64 0, .int .i64 0, .int .i64 0, .int .i64 0, .int .i64 0] 95)) w') :
    w'.heap[w.heap.size + 1]? = some (.cells #[.int .i64 0, .int .i64 0, .int .i64 0, .int .i64 0, .int .i64 0, .int .i64 0] 95) ∧ RowKit.Below w.heap.size w w' := by
  constructor
  · rw [h.block _ (by simp) (by omega)]
    have := heap_alloc_new (w.alloc (.cells #[.int .i64 ax, .int .i64 ay, .int .i64 bx, .int .i64 b_y, .int .i64 cx, .int .i64 cy] 95)) (.cells #[.int .i64 0, .int .i64 0, .int .i64 0, .int .i64 0, .int .i64 0, .int .i64 0] 95)
    simpa using this
  · have hb : RowKit.Below w.heap.size w ((w.alloc (.cells #[.int .i64 ax, .int .i64 ay, .int .i64 bx, .int .i64 b_y, .int .i64 cx, .int .i64 cy] 95)).alloc (.cells #[.int .i64 0, .int .i64 0, .int .i64 0, .int .i64 0, .int .i64 0, .int .i64 0] 95)) := ((RowKit.Below.refl _ _).alloc (Nat.le_refl _) _).alloc (by simp) _
    exact hb.trans ⟨h.os, h.tape, h.output, h.size, fun k hk => h.block k (by have := hb.size; omega) (by omega)⟩
theorem cell6 {w : World} {g : Nat} {c : Array Value} {t : TypeId} (h : w.heap[g]? = some (.cells c t)) (i : Nat) : w.cell? ⟨g, i, none⟩ = c[i]? := by unfold World.cell?; rw [h]; rfl
theorem frz6 {w : World} {g : Nat} {c : Array Value} {t : TypeId} (h : w.heap[g]? = some (.cells c t)) (i : Nat) : w.frozen? ⟨g, i, none⟩ = false := by unfold World.frozen?; rw [h]; simp
set_option maxHeartbeats 2000000 in
theorem inOrder_c (ax ay bx b_y cx cy : Int) (w : World) :
    Calls Tryd.prog 120 #[.agg #[.int .i64 ax, .int .i64 ay, .int .i64 bx, .int .i64 b_y, .int .i64 cx, .int .i64 cy]] w fun e w' => e = .returned (.agg #[.int .i64 (srt3 (ax, ay) (bx, b_y) (cx, cy)).1.1, .int .i64 (srt3 (ax, ay) (bx, b_y) (cx, cy)).1.2, .int .i64 (srt3 (ax, ay) (bx, b_y) (cx, cy)).2.1.1, .int .i64 (srt3 (ax, ay) (bx, b_y) (cx, cy)).2.1.2, .int .i64 (srt3 (ax, ay) (bx, b_y) (cx, cy)).2.2.1, .int .i64 (srt3 (ax, ay) (bx, b_y) (cx, cy)).2.2.2]) ∧ RowKit.Below w.heap.size w w' := by
  go_enter Tryd.func120, Tryd.ntmps120
  go_wp2_with (go_at_call 72; refine (sort3_e (ax, ay) (bx, b_y) (cx, cy) _ _ (holds6 w ax ay bx b_y cx cy) (by simp; omega)).mono ?_; rintro e w1 ⟨rfl, hs⟩; obtain ⟨hr, hb⟩ := res6 hs; have c0 := hs.c0; have c1 := hs.c1; have c2 := hs.c2; have c3 := hs.c3; have c4 := hs.c4; have c5 := hs.c5; clear hs; have d0 : w1.cell? ⟨w.heap.size + 1, 0, none⟩ = some (.int .i64 0) := cell6 hr 0; have d1 : w1.cell? ⟨w.heap.size + 1, 1, none⟩ = some (.int .i64 0) := cell6 hr 1; have d2 : w1.cell? ⟨w.heap.size + 1, 2, none⟩ = some (.int .i64 0) := cell6 hr 2; have d3 : w1.cell? ⟨w.heap.size + 1, 3, none⟩ = some (.int .i64 0) := cell6 hr 3; have d4 : w1.cell? ⟨w.heap.size + 1, 4, none⟩ = some (.int .i64 0) := cell6 hr 4; have d5 : w1.cell? ⟨w.heap.size + 1, 5, none⟩ = some (.int .i64 0) := cell6 hr 5; have f0 := frz6 hr 0; have f1 := frz6 hr 1; have f2 := frz6 hr 2; have f3 := frz6 hr 3; have f4 := frz6 hr 4; have f5 := frz6 hr 5; have hlt := World.block_lt_of_cell? w1 _ d0; clear hr)
  (try simp only [Exit.inBlock, Exit.then])
  refine bodyPost_ret (by simp [results, Tryd.results120, go_sem, d0, d1, d2, d3, d4, d5]; try rfl) rfl ?_
  exact ⟨rfl, by go_grown⟩
end Go.Proofs.YtoefllklngnmeaaDoor
namespace Go.Proofs.YtoefllklngnmeaaDoor
open Go.RowKit
set_option linter.unusedVariables false
set_option maxRecDepth 8000
theorem cells_pt : Tryd.prog.cellsOf 30 = 2 := by kernel_rfl
theorem eqP (d : Nat) (a b x y : Int) (w : World) : (Op.equalIn (d + 2) 30 (.agg #[.int .i64 a, .int .i64 b]) (.agg #[.int .i64 x, .int .i64 y])).run Tryd.prog w = .ok (decide (a = x ∧ b = y)) w := by
  by_cases h1 : a = x
  · by_cases h2 : b = y
    · simp [go_sem, h1, h2]
    · simp [go_sem, h1, h2]
  · simp [go_sem, h1]
theorem eq6 (x0 x1 x2 x3 x4 x5 y0 y1 y2 y3 y4 y5 : Int) (w : World) :
    (Op.equalIn 10000 95 (.agg #[.int .i64 x0, .int .i64 x1, .int .i64 x2, .int .i64 x3, .int .i64 x4, .int .i64 x5]) (.agg #[.int .i64 y0, .int .i64 y1, .int .i64 y2, .int .i64 y3, .int .i64 y4, .int .i64 y5])).run Tryd.prog w
      = .ok (decide (((x0, x1), (x2, x3), (x4, x5)) = ((y0, y1), (y2, y3), (y4, y5)))) w := by
  obtain ⟨i0, hi, hz0, hz1, hz2⟩ := info_parts info_pt
  rw [show (10000 : Nat) = 9999 + 1 from rfl, run_equalIn_array w 9999 _ _ Tryd.underlying95 hi, cells_pt]
  show (Op.eqItems 9999 30 2 _ _ [0, 1, 2]).run Tryd.prog w = _
  simp only [Op.eqItems]
  simp [go_sem, eqP 9997]
  by_cases h0 : x0 = y0 <;> by_cases h1 : x1 = y1 <;> by_cases h2 : x2 = y2 <;> by_cases h3 : x3 = y3 <;> by_cases h4 : x4 = y4 <;> by_cases h5 : x5 = y5 <;> simp [h0, h1, h2, h3, h4, h5]
end Go.Proofs.YtoefllklngnmeaaDoor
namespace Go.Proofs.YtoefllklngnmeaaDoor
open Go.RowKit Go.Shelf
set_option linter.unusedVariables false
attribute [local go_sem] eq6
theorem tb0 (w : World) (ax ay bx b_y qx qy : Int) : (((w.alloc (.cells #[.int .i64 ax, .int .i64 ay] 30)).alloc (.cells #[.int .i64 bx, .int .i64 b_y] 30)).alloc (.cells #[.int .i64 qx, .int .i64 qy] 30)).cell? ⟨w.heap.size, 0, none⟩ = some (.int .i64 ax) := by simp [go_sem]
theorem tb1 (w : World) (ax ay bx b_y qx qy : Int) : (((w.alloc (.cells #[.int .i64 ax, .int .i64 ay] 30)).alloc (.cells #[.int .i64 bx, .int .i64 b_y] 30)).alloc (.cells #[.int .i64 qx, .int .i64 qy] 30)).cell? ⟨w.heap.size, 1, none⟩ = some (.int .i64 ay) := by simp [go_sem]
theorem tb2 (w : World) (ax ay bx b_y qx qy : Int) : (((w.alloc (.cells #[.int .i64 ax, .int .i64 ay] 30)).alloc (.cells #[.int .i64 bx, .int .i64 b_y] 30)).alloc (.cells #[.int .i64 qx, .int .i64 qy] 30)).cell? ⟨w.heap.size + 1, 0, none⟩ = some (.int .i64 bx) := by simp [go_sem]
theorem tb3 (w : World) (ax ay bx b_y qx qy : Int) : (((w.alloc (.cells #[.int .i64 ax, .int .i64 ay] 30)).alloc (.cells #[.int .i64 bx, .int .i64 b_y] 30)).alloc (.cells #[.int .i64 qx, .int .i64 qy] 30)).cell? ⟨w.heap.size + 1, 1, none⟩ = some (.int .i64 b_y) := by simp [go_sem]
theorem tb4 (w : World) (ax ay bx b_y qx qy : Int) : (((w.alloc (.cells #[.int .i64 ax, .int .i64 ay] 30)).alloc (.cells #[.int .i64 bx, .int .i64 b_y] 30)).alloc (.cells #[.int .i64 qx, .int .i64 qy] 30)).cell? ⟨w.heap.size + 1 + 1, 0, none⟩ = some (.int .i64 qx) := by simp [go_sem]
theorem tb5 (w : World) (ax ay bx b_y qx qy : Int) : (((w.alloc (.cells #[.int .i64 ax, .int .i64 ay] 30)).alloc (.cells #[.int .i64 bx, .int .i64 b_y] 30)).alloc (.cells #[.int .i64 qx, .int .i64 qy] 30)).cell? ⟨w.heap.size + 1 + 1, 1, none⟩ = some (.int .i64 qy) := by simp [go_sem]
/-- q is on the way from a to b, as the program finds it. -/
def btB (a b q : Int × Int) : Bool := decide (sideN a.1 a.2 b.1 b.2 q.1 q.2 = 0) && (decide ((a, q, b) = srt3 a q b) || decide ((b, q, a) = srt3 a q b))
theorem bt_spell (ax ay bx b_y qx qy : Int) : btB (ax, ay) (bx, b_y) (qx, qy) = (decide (sideN ax ay bx b_y qx qy = 0) && ((decide (ax = (srt3 (ax, ay) (qx, qy) (bx, b_y)).fst.fst) && decide (ay = (srt3 (ax, ay) (qx, qy) (bx, b_y)).fst.snd) && (decide (qx = (srt3 (ax, ay) (qx, qy) (bx, b_y)).snd.fst.fst) && decide (qy = (srt3 (ax, ay) (qx, qy) (bx, b_y)).snd.fst.snd) && (decide (bx = (srt3 (ax, ay) (qx, qy) (bx, b_y)).snd.snd.fst) && decide (b_y = (srt3 (ax, ay) (qx, qy) (bx, b_y)).snd.snd.snd)))) || (decide (bx = (srt3 (ax, ay) (qx, qy) (bx, b_y)).fst.fst) && decide (b_y = (srt3 (ax, ay) (qx, qy) (bx, b_y)).fst.snd) && (decide (qx = (srt3 (ax, ay) (qx, qy) (bx, b_y)).snd.fst.fst) && decide (qy = (srt3 (ax, ay) (qx, qy) (bx, b_y)).snd.fst.snd) && (decide (ax = (srt3 (ax, ay) (qx, qy) (bx, b_y)).snd.snd.fst) && decide (ay = (srt3 (ax, ay) (qx, qy) (bx, b_y)).snd.snd.snd)))))) := by
  unfold btB
  simp only [Prod.ext_iff, Bool.decide_and]
theorem bt_a {ax ay bx b_y qx qy : Int} (h0 : sideN ax ay bx b_y qx qy = 0) : ((decide (ax = (srt3 (ax, ay) (qx, qy) (bx, b_y)).fst.fst) && decide (ay = (srt3 (ax, ay) (qx, qy) (bx, b_y)).fst.snd) && (decide (qx = (srt3 (ax, ay) (qx, qy) (bx, b_y)).snd.fst.fst) && decide (qy = (srt3 (ax, ay) (qx, qy) (bx, b_y)).snd.fst.snd) && (decide (bx = (srt3 (ax, ay) (qx, qy) (bx, b_y)).snd.snd.fst) && decide (b_y = (srt3 (ax, ay) (qx, qy) (bx, b_y)).snd.snd.snd)))) || (decide (bx = (srt3 (ax, ay) (qx, qy) (bx, b_y)).fst.fst) && decide (b_y = (srt3 (ax, ay) (qx, qy) (bx, b_y)).fst.snd) && (decide (qx = (srt3 (ax, ay) (qx, qy) (bx, b_y)).snd.fst.fst) && decide (qy = (srt3 (ax, ay) (qx, qy) (bx, b_y)).snd.fst.snd) && (decide (ax = (srt3 (ax, ay) (qx, qy) (bx, b_y)).snd.snd.fst) && decide (ay = (srt3 (ax, ay) (qx, qy) (bx, b_y)).snd.snd.snd))))) = btB (ax, ay) (bx, b_y) (qx, qy) := by
  rw [bt_spell, decide_eq_true h0, Bool.true_and]
theorem bt_b {ax ay bx b_y qx qy : Int} (h0 : sideN ax ay bx b_y qx qy = 0) (h : ¬ ((¬ ax = (srt3 (ax, ay) (qx, qy) (bx, b_y)).fst.fst ∨ ¬ ay = (srt3 (ax, ay) (qx, qy) (bx, b_y)).fst.snd) ∨ (¬ qx = (srt3 (ax, ay) (qx, qy) (bx, b_y)).snd.fst.fst ∨ ¬ qy = (srt3 (ax, ay) (qx, qy) (bx, b_y)).snd.fst.snd) ∨ ¬ bx = (srt3 (ax, ay) (qx, qy) (bx, b_y)).snd.snd.fst ∨ ¬ b_y = (srt3 (ax, ay) (qx, qy) (bx, b_y)).snd.snd.snd)) : true = btB (ax, ay) (bx, b_y) (qx, qy) := by
  rw [bt_spell, decide_eq_true h0, Bool.true_and]
  simp only [not_or, Classical.not_not] at h
  obtain ⟨⟨e0, e1⟩, ⟨e2, e3⟩, e4, e5⟩ := h
  rw [decide_eq_true e0, decide_eq_true e1, decide_eq_true e2, decide_eq_true e3, decide_eq_true e4, decide_eq_true e5]
  rfl
set_option maxHeartbeats 4000000 in
set_option maxRecDepth 8000 in
theorem isBetween_c (ax ay bx b_y qx qy : Int) (w : World) (c0 : w.cell? ⟨0, 0, none⟩ = some (.int .i64 1000000)) :
    Calls Tryd.prog 107 #[.agg #[.int .i64 ax, .int .i64 ay], .agg #[.int .i64 bx, .int .i64 b_y], .agg #[.int .i64 qx, .int .i64 qy]] w fun e w' => e = .returned (.bool (btB (ax, ay) (bx, b_y) (qx, qy))) ∧ Below w.heap.size w w' := by
  have hz : 0 < w.heap.size := World.block_lt_of_cell? w _ c0
  have hbW : Below w.heap.size w (((w.alloc (.cells #[.int .i64 ax, .int .i64 ay] 30)).alloc (.cells #[.int .i64 bx, .int .i64 b_y] 30)).alloc (.cells #[.int .i64 qx, .int .i64 qy] 30)) := by go_grown
  have HB := hid hbW
  clear hbW
  have C0 := hid c0
  clear c0
  by_cases h0 : sideN ax ay bx b_y qx qy = 0
  · go_enter Tryd.func107, Tryd.ntmps107
    go_upto_region 4 with (go_at_call 66; refine (sideOfImpl_c _ _ _ _ _ _ _ (cell_later HB.out C0.out)).mono ?_; rintro e w1 ⟨rfl, hb⟩; have k0 := cell_later hb (tb0 w ax ay bx b_y qx qy); have k1 := cell_later hb (tb1 w ax ay bx b_y qx qy); have k2 := cell_later hb (tb2 w ax ay bx b_y qx qy); have k3 := cell_later hb (tb3 w ax ay bx b_y qx qy); have k4 := cell_later hb (tb4 w ax ay bx b_y qx qy); have k5 := cell_later hb (tb5 w ax ay bx b_y qx qy); have HB1 := hid (grew HB.out hb); have hs1 := hb.size; clear hb)
    refine wp_region_held_drew (S := (fun u => Below w1.heap.size w1 u)) (by kernel_rfl) ?_ (fun hHeld => ?_)
    · exact (Below.refl _ _).drew
    refine wpAnyH_take (i := 0) (oi := { dst := some 21, op := Op.load 30 (Operand.tmp 3), type := 30, pos := "l4_inside.go:109", after := #[], guard := none }) (v := ?v1rx0) rfl (by kernel_rfl) (by kernel_rfl) (by kernel_rfl) (fun _ _ _ h => h) (Or.inl ⟨by rfl, ?hy1rx0⟩) (by with_reducible assumption) ?rest1rx0
    case hy1rx0 => (intro wS hSw; (try dsimp only at hSw); have z0 := cell_later hSw k0; have z1 := cell_later hSw k1; have z2 := cell_later hSw k2; have z3 := cell_later hSw k3; have z4 := cell_later hSw k4; have z5 := cell_later hSw k5; clear hSw; go_simp; try with_reducible rfl)
    case' rest1rx0 => (try simp only [Act.put, List.setIfInBounds_toArray, List.set_cons_zero, List.set_cons_succ])
    refine wpAnyH_take (i := 1) (oi := { dst := some 22, op := Op.load 30 (Operand.tmp 5), type := 30, pos := "l4_inside.go:109", after := #[], guard := none }) (v := ?v1rx1) rfl (by kernel_rfl) (by kernel_rfl) (by kernel_rfl) (fun _ _ _ h => h) (Or.inl ⟨by rfl, ?hy1rx1⟩) (by with_reducible assumption) ?rest1rx1
    case hy1rx1 => (intro wS hSw; (try dsimp only at hSw); have z0 := cell_later hSw k0; have z1 := cell_later hSw k1; have z2 := cell_later hSw k2; have z3 := cell_later hSw k3; have z4 := cell_later hSw k4; have z5 := cell_later hSw k5; clear hSw; go_simp; try with_reducible rfl)
    case' rest1rx1 => (try simp only [Act.put, List.setIfInBounds_toArray, List.set_cons_zero, List.set_cons_succ])
    refine wpAnyH_take (i := 2) (oi := { dst := some 23, op := Op.load 30 (Operand.tmp 4), type := 30, pos := "l4_inside.go:109", after := #[], guard := none }) (v := ?v1rx2) rfl (by kernel_rfl) (by kernel_rfl) (by kernel_rfl) (fun _ _ _ h => h) (Or.inl ⟨by rfl, ?hy1rx2⟩) (by with_reducible assumption) ?rest1rx2
    case hy1rx2 => (intro wS hSw; (try dsimp only at hSw); have z0 := cell_later hSw k0; have z1 := cell_later hSw k1; have z2 := cell_later hSw k2; have z3 := cell_later hSw k3; have z4 := cell_later hSw k4; have z5 := cell_later hSw k5; clear hSw; go_simp; try with_reducible rfl)
    case' rest1rx2 => (try simp only [Act.put, List.setIfInBounds_toArray, List.set_cons_zero, List.set_cons_succ])
    refine wpAnyH_take (i := 3) (oi := { dst := some 24, op := Op.build 95 #[(0, Operand.tmp 21), (1, Operand.tmp 22), (2, Operand.tmp 23)], type := 95, pos := "l4_inside.go:109", after := #[{ on := 0, ground := Ground.data }, { on := 1, ground := Ground.data }, { on := 2, ground := Ground.data }], guard := none }) (v := ?v1rx3) rfl (by kernel_rfl) (by kernel_rfl) (by kernel_rfl) (fun _ _ _ h => h) (Or.inl ⟨by rfl, ?hy1rx3⟩) (by with_reducible assumption) ?rest1rx3
    case hy1rx3 => (intro wS hSw; (try dsimp only at hSw); have z0 := cell_later hSw k0; have z1 := cell_later hSw k1; have z2 := cell_later hSw k2; have z3 := cell_later hSw k3; have z4 := cell_later hSw k4; have z5 := cell_later hSw k5; clear hSw; go_simp; try with_reducible rfl)
    case' rest1rx3 => (try simp only [Act.put, List.setIfInBounds_toArray, List.set_cons_zero, List.set_cons_succ])
    refine wpAnyH_take (i := 4) (oi := { dst := some 25, op := Op.load 30 (Operand.tmp 4), type := 30, pos := "l4_inside.go:109", after := #[{ on := 10, ground := Ground.gcOnly Departure.lateStores }], guard := none }) (v := ?v1rx4) rfl (by kernel_rfl) (by kernel_rfl) (by kernel_rfl) (fun _ _ _ h => h) (Or.inl ⟨by rfl, ?hy1rx4⟩) (by with_reducible assumption) ?rest1rx4
    case hy1rx4 => (intro wS hSw; (try dsimp only at hSw); have z0 := cell_later hSw k0; have z1 := cell_later hSw k1; have z2 := cell_later hSw k2; have z3 := cell_later hSw k3; have z4 := cell_later hSw k4; have z5 := cell_later hSw k5; clear hSw; go_simp; try with_reducible rfl)
    case' rest1rx4 => (try simp only [Act.put, List.setIfInBounds_toArray, List.set_cons_zero, List.set_cons_succ])
    refine wpAnyH_take (i := 5) (oi := { dst := some 26, op := Op.load 30 (Operand.tmp 5), type := 30, pos := "l4_inside.go:109", after := #[{ on := 10, ground := Ground.gcOnly Departure.lateStores }], guard := none }) (v := ?v1rx5) rfl (by kernel_rfl) (by kernel_rfl) (by kernel_rfl) (fun _ _ _ h => h) (Or.inl ⟨by rfl, ?hy1rx5⟩) (by with_reducible assumption) ?rest1rx5
    case hy1rx5 => (intro wS hSw; (try dsimp only at hSw); have z0 := cell_later hSw k0; have z1 := cell_later hSw k1; have z2 := cell_later hSw k2; have z3 := cell_later hSw k3; have z4 := cell_later hSw k4; have z5 := cell_later hSw k5; clear hSw; go_simp; try with_reducible rfl)
    case' rest1rx5 => (try simp only [Act.put, List.setIfInBounds_toArray, List.set_cons_zero, List.set_cons_succ])
    refine wpAnyH_take (i := 6) (oi := { dst := some 27, op := Op.load 30 (Operand.tmp 3), type := 30, pos := "l4_inside.go:109", after := #[{ on := 10, ground := Ground.gcOnly Departure.lateStores }], guard := none }) (v := ?v1rx6) rfl (by kernel_rfl) (by kernel_rfl) (by kernel_rfl) (fun _ _ _ h => h) (Or.inl ⟨by rfl, ?hy1rx6⟩) (by with_reducible assumption) ?rest1rx6
    case hy1rx6 => (intro wS hSw; (try dsimp only at hSw); have z0 := cell_later hSw k0; have z1 := cell_later hSw k1; have z2 := cell_later hSw k2; have z3 := cell_later hSw k3; have z4 := cell_later hSw k4; have z5 := cell_later hSw k5; clear hSw; go_simp; try with_reducible rfl)
    case' rest1rx6 => (try simp only [Act.put, List.setIfInBounds_toArray, List.set_cons_zero, List.set_cons_succ])
    refine wpAnyH_take (i := 7) (oi := { dst := some 28, op := Op.build 95 #[(0, Operand.tmp 25), (1, Operand.tmp 26), (2, Operand.tmp 27)], type := 95, pos := "l4_inside.go:109", after := #[{ on := 4, ground := Ground.data }, { on := 5, ground := Ground.data }, { on := 6, ground := Ground.data }, { on := 10, ground := Ground.gcOnly Departure.lateStores }], guard := none }) (v := ?v1rx7) rfl (by kernel_rfl) (by kernel_rfl) (by kernel_rfl) (fun _ _ _ h => h) (Or.inl ⟨by rfl, ?hy1rx7⟩) (by with_reducible assumption) ?rest1rx7
    case hy1rx7 => (intro wS hSw; (try dsimp only at hSw); have z0 := cell_later hSw k0; have z1 := cell_later hSw k1; have z2 := cell_later hSw k2; have z3 := cell_later hSw k3; have z4 := cell_later hSw k4; have z5 := cell_later hSw k5; clear hSw; go_simp; try with_reducible rfl)
    case' rest1rx7 => (try simp only [Act.put, List.setIfInBounds_toArray, List.set_cons_zero, List.set_cons_succ])
    refine wpAnyH_ready (rs := [8, 9]) (by kernel_rfl) (by simp) ?_
    refine AllReadyH.cons (o := { dst := some 9, op := Op.alloc 95, type := 0, pos := "l4_inside.go:109", after := #[], guard := none }) rfl (fun K hK => ?_) (AllReadyH.cons (o := { dst := some 10, op := Op.alloc 95, type := 0, pos := "l4_inside.go:109", after := #[], guard := none }) rfl (fun K hK => ?_) AllReadyH.nil)
    · go_simp
      refine hK.out _ _ ?_ (fun hHeld => ?_)
      · exact (by go_grown)
      clear hK K
      try simp only [Act.put, List.setIfInBounds_toArray, List.set_cons_zero, List.set_cons_succ]
      refine wpAnyH_ready (rs := [9]) (by kernel_rfl) (by simp) ?_
      refine AllReadyH.cons (o := { dst := some 10, op := Op.alloc 95, type := 0, pos := "l4_inside.go:109", after := #[], guard := none }) rfl (fun K hK => ?_) AllReadyH.nil
      go_simp
      refine hK.out _ _ ?_ (fun hHeld => ?_)
      · exact (by go_grown)
      clear hK K
      try simp only [Act.put, List.setIfInBounds_toArray, List.set_cons_zero, List.set_cons_succ]
      refine wpAnyH_ready (rs := [10]) (by kernel_rfl) (by simp) ?_
      refine AllReadyH.cons (o := { dst := none, op := Op.store 95 (Operand.tmp 9) (Operand.tmp 24), type := 0, pos := "l4_inside.go:109", after := #[{ on := 8, ground := Ground.data }, { on := 3, ground := Ground.data }, { on := 0, ground := Ground.phase }, { on := 1, ground := Ground.phase }, { on := 2, ground := Ground.phase }, { on := 3, ground := Ground.phase }, { on := 4, ground := Ground.textOnly Departure.lateStores }, { on := 5, ground := Ground.textOnly Departure.lateStores }, { on := 6, ground := Ground.textOnly Departure.lateStores }, { on := 7, ground := Ground.textOnly Departure.lateStores }, { on := 8, ground := Ground.phase }, { on := 9, ground := Ground.phase }], guard := none }) rfl (fun K hK => ?_) AllReadyH.nil
      go_simp
      refine hK.out _ _ ?_ (fun hHeld => ?_)
      · exact (by go_grown)
      clear hK K
      try simp only [Act.put, List.setIfInBounds_toArray, List.set_cons_zero, List.set_cons_succ]
      refine wpAnyH_ready (rs := [11]) (by kernel_rfl) (by simp) ?_
      refine AllReadyH.cons (o := { dst := none, op := Op.store 95 (Operand.tmp 10) (Operand.tmp 28), type := 0, pos := "l4_inside.go:109", after := #[{ on := 9, ground := Ground.data }, { on := 7, ground := Ground.data }, { on := 10, ground := Ground.chain }, { on := 0, ground := Ground.phase }, { on := 1, ground := Ground.phase }, { on := 2, ground := Ground.phase }, { on := 3, ground := Ground.phase }, { on := 4, ground := Ground.phase }, { on := 5, ground := Ground.phase }, { on := 6, ground := Ground.phase }, { on := 7, ground := Ground.phase }, { on := 8, ground := Ground.phase }, { on := 9, ground := Ground.phase }, { on := 10, ground := Ground.phase }], guard := none }) rfl (fun K hK => ?_) AllReadyH.nil
      go_simp
      refine hK.out _ _ ?_ (fun hHeld => ?_)
      · exact (by go_grown)
      clear hK K
      try simp only [Act.put, List.setIfInBounds_toArray, List.set_cons_zero, List.set_cons_succ]
      refine wpAnyH_done (by kernel_rfl) ?_ _
      go_wp2_with (go_at_call 120; refine (inOrder_c _ _ _ _ _ _ _).mono ?_; rintro e w2 ⟨rfl, hb2⟩; have t0 := cell_later hb2 (a := ⟨w1.heap.size, 0, none⟩) (v := .int .i64 ax) (by simp [go_sem]); have t1 := cell_later hb2 (a := ⟨w1.heap.size, 1, none⟩) (v := .int .i64 ay) (by simp [go_sem]); have t2 := cell_later hb2 (a := ⟨w1.heap.size, 2, none⟩) (v := .int .i64 qx) (by simp [go_sem]); have t3 := cell_later hb2 (a := ⟨w1.heap.size, 3, none⟩) (v := .int .i64 qy) (by simp [go_sem]); have t4 := cell_later hb2 (a := ⟨w1.heap.size, 4, none⟩) (v := .int .i64 bx) (by simp [go_sem]); have t5 := cell_later hb2 (a := ⟨w1.heap.size, 5, none⟩) (v := .int .i64 b_y) (by simp [go_sem]); have s0 := cell_later hb2 (a := ⟨w1.heap.size + 1, 0, none⟩) (v := .int .i64 bx) (by simp [go_sem]); have s1 := cell_later hb2 (a := ⟨w1.heap.size + 1, 1, none⟩) (v := .int .i64 b_y) (by simp [go_sem]); have s2 := cell_later hb2 (a := ⟨w1.heap.size + 1, 2, none⟩) (v := .int .i64 qx) (by simp [go_sem]); have s3 := cell_later hb2 (a := ⟨w1.heap.size + 1, 3, none⟩) (v := .int .i64 qy) (by simp [go_sem]); have s4 := cell_later hb2 (a := ⟨w1.heap.size + 1, 4, none⟩) (v := .int .i64 ax) (by simp [go_sem]); have s5 := cell_later hb2 (a := ⟨w1.heap.size + 1, 5, none⟩) (v := .int .i64 ay) (by simp [go_sem]); have HB2 := hid (grew (grew HB1.out hHeld) hb2); have hs2 : w1.heap.size + 1 < w2.heap.size := (by have := hb2.size; simp at this; omega); have hs3 : w1.heap.size < w2.heap.size := (by omega); clear hb2)
      all_goals go_ret
      all_goals refine ⟨ret_bool ?_, grew HB2.out (by go_grown)⟩
      all_goals first | exact bt_a h0 | exact bt_b h0 (by assumption)
    · go_simp
      refine hK.out _ _ ?_ (fun hHeld => ?_)
      · exact (by go_grown)
      clear hK K
      try simp only [Act.put, List.setIfInBounds_toArray, List.set_cons_zero, List.set_cons_succ]
      refine wpAnyH_ready (rs := [8]) (by kernel_rfl) (by simp) ?_
      refine AllReadyH.cons (o := { dst := some 9, op := Op.alloc 95, type := 0, pos := "l4_inside.go:109", after := #[], guard := none }) rfl (fun K hK => ?_) AllReadyH.nil
      go_simp
      refine hK.out _ _ ?_ (fun hHeld => ?_)
      · exact (by go_grown)
      clear hK K
      try simp only [Act.put, List.setIfInBounds_toArray, List.set_cons_zero, List.set_cons_succ]
      refine wpAnyH_ready (rs := [10]) (by kernel_rfl) (by simp) ?_
      refine AllReadyH.cons (o := { dst := none, op := Op.store 95 (Operand.tmp 9) (Operand.tmp 24), type := 0, pos := "l4_inside.go:109", after := #[{ on := 8, ground := Ground.data }, { on := 3, ground := Ground.data }, { on := 0, ground := Ground.phase }, { on := 1, ground := Ground.phase }, { on := 2, ground := Ground.phase }, { on := 3, ground := Ground.phase }, { on := 4, ground := Ground.textOnly Departure.lateStores }, { on := 5, ground := Ground.textOnly Departure.lateStores }, { on := 6, ground := Ground.textOnly Departure.lateStores }, { on := 7, ground := Ground.textOnly Departure.lateStores }, { on := 8, ground := Ground.phase }, { on := 9, ground := Ground.phase }], guard := none }) rfl (fun K hK => ?_) AllReadyH.nil
      go_simp
      refine hK.out _ _ ?_ (fun hHeld => ?_)
      · exact (by go_grown)
      clear hK K
      try simp only [Act.put, List.setIfInBounds_toArray, List.set_cons_zero, List.set_cons_succ]
      refine wpAnyH_ready (rs := [11]) (by kernel_rfl) (by simp) ?_
      refine AllReadyH.cons (o := { dst := none, op := Op.store 95 (Operand.tmp 10) (Operand.tmp 28), type := 0, pos := "l4_inside.go:109", after := #[{ on := 9, ground := Ground.data }, { on := 7, ground := Ground.data }, { on := 10, ground := Ground.chain }, { on := 0, ground := Ground.phase }, { on := 1, ground := Ground.phase }, { on := 2, ground := Ground.phase }, { on := 3, ground := Ground.phase }, { on := 4, ground := Ground.phase }, { on := 5, ground := Ground.phase }, { on := 6, ground := Ground.phase }, { on := 7, ground := Ground.phase }, { on := 8, ground := Ground.phase }, { on := 9, ground := Ground.phase }, { on := 10, ground := Ground.phase }], guard := none }) rfl (fun K hK => ?_) AllReadyH.nil
      go_simp
      refine hK.out _ _ ?_ (fun hHeld => ?_)
      · exact (by go_grown)
      clear hK K
      try simp only [Act.put, List.setIfInBounds_toArray, List.set_cons_zero, List.set_cons_succ]
      refine wpAnyH_done (by kernel_rfl) ?_ _
      go_wp2_with (go_at_call 120; refine (inOrder_c _ _ _ _ _ _ _).mono ?_; rintro e w2 ⟨rfl, hb2⟩; have t0 := cell_later hb2 (a := ⟨w1.heap.size + 1, 0, none⟩) (v := .int .i64 ax) (by simp [go_sem]); have t1 := cell_later hb2 (a := ⟨w1.heap.size + 1, 1, none⟩) (v := .int .i64 ay) (by simp [go_sem]); have t2 := cell_later hb2 (a := ⟨w1.heap.size + 1, 2, none⟩) (v := .int .i64 qx) (by simp [go_sem]); have t3 := cell_later hb2 (a := ⟨w1.heap.size + 1, 3, none⟩) (v := .int .i64 qy) (by simp [go_sem]); have t4 := cell_later hb2 (a := ⟨w1.heap.size + 1, 4, none⟩) (v := .int .i64 bx) (by simp [go_sem]); have t5 := cell_later hb2 (a := ⟨w1.heap.size + 1, 5, none⟩) (v := .int .i64 b_y) (by simp [go_sem]); have s0 := cell_later hb2 (a := ⟨w1.heap.size, 0, none⟩) (v := .int .i64 bx) (by simp [go_sem]); have s1 := cell_later hb2 (a := ⟨w1.heap.size, 1, none⟩) (v := .int .i64 b_y) (by simp [go_sem]); have s2 := cell_later hb2 (a := ⟨w1.heap.size, 2, none⟩) (v := .int .i64 qx) (by simp [go_sem]); have s3 := cell_later hb2 (a := ⟨w1.heap.size, 3, none⟩) (v := .int .i64 qy) (by simp [go_sem]); have s4 := cell_later hb2 (a := ⟨w1.heap.size, 4, none⟩) (v := .int .i64 ax) (by simp [go_sem]); have s5 := cell_later hb2 (a := ⟨w1.heap.size, 5, none⟩) (v := .int .i64 ay) (by simp [go_sem]); have HB2 := hid (grew (grew HB1.out hHeld) hb2); have hs2 : w1.heap.size + 1 < w2.heap.size := (by have := hb2.size; simp at this; omega); have hs3 : w1.heap.size < w2.heap.size := (by omega); clear hb2)
      all_goals go_ret
      all_goals refine ⟨ret_bool ?_, grew HB2.out (by go_grown)⟩
      all_goals first | exact bt_a h0 | exact bt_b h0 (by assumption)
  · go_enter Tryd.func107, Tryd.ntmps107
    go_wp2_with (go_at_call 66; refine (sideOfImpl_c _ _ _ _ _ _ _ (cell_later HB.out C0.out)).mono ?_; rintro e w1 ⟨rfl, hb⟩; have HB1 := hid (grew HB.out hb); clear hb)
    go_ret
    exact ⟨ret_bool (by unfold btB; rw [decide_eq_false h0]; rfl), HB1.out⟩
end Go.Proofs.YtoefllklngnmeaaDoor
