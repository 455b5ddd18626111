/-
  A chain of points that turn left, in the program (a contract for the walks).
  Conditions: as each theorem states them.
-/
import Derived.Test.YtegmlemejmahiaaDoorHChain0
namespace Go.Proofs.YtegmlemejmahiaaDoor
open Go.RowKit Go.Shelf
attribute [local go_sem] Oper.semAt_some
set_option linter.unusedVariables false
set_option maxRecDepth 100000 in
set_option maxHeartbeats 800000 in
theorem chainOf_c (gf : Nat) (lb : Array Value) (L : List (Int × Int)) (w : World) (h1 : L.length ≤ 1048576) (c0 : w.cell? ⟨0, 0, none⟩ = some (.int .i64 1000000))
    (eg : ∀ args w, (callFunc gf args).run Tryd.prog w = .ok (.enter gf args) w)
    (hseq : ∀ n, 1 ≤ n → SeqStopsK Fence.wide n Tryd.prog gf lb encP (Below w.heap.size) (fun ys => ys = L) (fun _ => True) L.length w) :
    Calls Tryd.prog 83 #[.func (.func gf) #[] lb] w fun e w' => ∃ v, e = .returned v ∧ OwnC w.heap.size v (chainB tlB L) w' ∧ Below w.heap.size w w' := by
  have hz : 0 < w.heap.size := World.block_lt_of_cell? w _ c0
  obtain ⟨i0, hi, hz0, hz1, hz2⟩ := info_parts info_pt
  refine (callsIn_wide (n := 8)).1 ?_
  refine callsIn_of_wp_marks Tryd.func83 rfl trivial ?_ rfl
  simp only [Tryd.ntmps83, List.size_toArray, List.length_cons, List.length_nil, Nat.reduceAdd, Nat.reduceSub, Array.replicate_succ, Array.replicate_zero, List.push_toArray, List.append_toArray, List.nil_append, List.cons_append]
  gi_wp2
  refine wpIn_rangeFunc_ownH rfl (by omega) (gf := gf) (lb := lb) rfl trivial eg (hseq (8 - 1) (by omega)) belowK_t (belowK_b (by simp)) ((Below.refl _ _).alloc (Nat.le_refl _) _) (fun _ => rfl)
    (fun pre W => (∃ v, Boxed W w.heap.size 29 v ∧ OwnC (w.heap.size + 1) v (chainB tlB pre) W ∧ pre.length ≤ L.length) ∧ Below w.heap.size w W)
    (fun _ _ _ => False)
    (OwnFrom.and (fun s X Y row hs hg hr => by
      obtain ⟨v, hb, ho, hp⟩ := hs
      exact ⟨v, boxed_own _ _ (fun (_ : Unit) => v) () X Y row hb hg (fun r e => (hr r e).2), ho.kept hg (fun r e => (hr r e).2), hp⟩) (ownFrom_below (Nat.le_refl _) (by simp)))
    (fun _ _ _ _ _ hs _ _ => hs)
    ⟨⟨_, Boxed.new w _ _, OwnC.nil _ _, Nat.zero_le _⟩, (Below.refl _ _).alloc (Nat.le_refl _) _⟩
    (fun x a' W => ∃ Bx, w.heap.size < Bx ∧ W.heap[Bx]? = some (.cells #[.int .i64 x.1, .int .i64 x.2] 26 (0, 0)) ∧ a' = { tmps := #[.func (.func gf) #[] lb, undef, .slice none 0 0, .pointer (some ⟨w.heap.size, 0, none⟩), .pointer (some ⟨Bx, 0, none⟩), undef, .func (.func gf) #[] lb, .agg #[.int .i64 x.1, .int .i64 x.2], undef, undef, undef, undef, undef, undef, undef, undef, undef, undef, undef, undef, undef, undef, undef, undef, undef, undef, undef, undef, undef, undef, undef, undef, undef, undef, undef, undef, undef, undef, undef, undef, undef, undef], defers := [] })
    (fun x a' _ X Y row hs hg hr => by
      obtain ⟨Bx, h1, h2, h3⟩ := hs
      refine ⟨Bx, h1, (hg.block Bx (Array.getElem?_eq_some_iff.1 h2).1 (fun e => ?_)).trans h2, h3⟩
      obtain ⟨_, o, ho, hc⟩ := hr Bx e.symm
      rw [h2] at ho
      cases ho
      cases hc)
    ?assign ?body ?done ?stop
  case stop =>
    rintro D c pre W _ _ h _
    exact h.elim
  case assign =>
    rintro l pre x W K ⟨⟨v, hbx, ho, hp⟩, hB⟩ hK
    dsimp only [encP]
    gi_wp2
    refine hK _ _ ((KeepsOthers.alloc _ _).from _) ((Below.refl _ W).alloc hB.size _) ⟨⟨v, hbx.alloc _, ho.later ((Below.refl _ W).alloc (Nat.le_refl _) _), hp⟩, hB.alloc hB.size _⟩ ⟨W.heap.size, hbx.lt, World.alloc_heap_new W _, rfl⟩
  case done =>
    rintro D ys W hD rfl ⟨⟨v, hbx, ho, hp⟩, hB⟩ hK
    obtain ⟨a3, c3, rfl⟩ := ho.shape
    have hcl : (chainB tlB ys).length ≤ c3 := by
      rcases ho.fit with ⟨_, _, h0⟩ | ⟨_, h1, _⟩ <;> omega
    have hcc := hbx.cell
    have ho2 := ho.take (Nat.le_refl _) (Nat.le_refl _) hcl
    rw [List.take_length] at ho2
    have HO2 := hid ho2
    clear ho2
    gi_wp2
    refine ⟨by simp, .inl ⟨_, _, rfl, run_takeDeferred hK, ?_⟩⟩
    refine ⟨_, results_tmp rfl _ _ _, _, rfl, ?_, ?_⟩
    · exact (HO2.out.mono (Nat.le_succ _)).kept (grownBy_putObj' _ D _) (fun r e => by cases e; exact ⟨_, hK, rfl⟩)
    · exact hB.trans (belowK_b (w := w) (Nat.le_refl _) W D _ _ (by simp at hD; omega) hK rfl rfl)
  case body =>
    rintro l pre ⟨x, y⟩ a' W hl ⟨r, hr⟩ ⟨⟨v, hbx, ho, hp⟩, hB⟩ ⟨Bx, hBx, hpx, rfl⟩ hlt
    dsimp only at hpx hlt ⊢
    have hst := hid (chainB_snoc (t := tlB) pre (x, y))
    have hCl : (chainB tlB pre).length ≤ pre.length := chainB_len _
    obtain ⟨C, hC⟩ : ∃ C, chainB tlB pre = C := ⟨_, rfl⟩
    rw [hC] at ho hst hCl
    obtain ⟨a3, c3, rfl⟩ := ho.shape
    have hcl : C.length ≤ c3 := by
      rcases ho.fit with ⟨_, _, h0⟩ | ⟨_, h1, _⟩ <;> omega
    have sB := hbx.cell
    have p0 : W.cell? ⟨Bx, 0, none⟩ = some (.int .i64 x) := by simp [World.cell?, hpx]
    have p1 : W.cell? ⟨Bx, 1, none⟩ = some (.int .i64 y) := by simp [World.cell?, hpx]
    have cz := cell_later hB c0
    have HO := hid ho
    have HB := hid hB
    have HX := hid hbx
    have hWs := hB.size
    have hltW := hbx.lt
    have HQ := hid hp
    clear hC ho hbx hpx hr hB
    gi_wp2
    gi_loopw [5] (fun i wr => ∃ n : Nat, i = .int .i64 ((n : Int) - 1) ∧ n ≤ C.length ∧ keepB tlB C (x, y) n = keepB tlB C (x, y) C.length ∧ Below W.heap.size W wr) (fun i _ => (intOf i + 1).toNat)
    case atStart =>
      refine ⟨C.length, ?_, Nat.le_refl _, rfl, Below.refl _ _⟩
      first | rfl | (congr 1; unfold wrap64; omega) | (congr 1; rw [IntKind.wrap_i64]; omega)
    case round =>
      obtain ⟨n, rfl, hn, hkn, hbu⟩ := hrel
      have HKN := hid hkn
      have HBU := hid hbu
      have hws := hbu.size
      have uB := cell_later hbu sB
      have u0 := cell_later hbu p0
      have u1 := cell_later hbu p1
      have uz := cell_later hbu cz
      clear sB p0 p1 cz hkn hbu
      have hn0 : (n : Int) ≤ (c3 : Int) := by omega
      by_cases hn1 : 1 < n
      · obtain ⟨m, hm⟩ : ∃ m, n = m + 2 := ⟨n - 2, by omega⟩
        obtain ⟨j, hj⟩ : ∃ j, j = m + 1 := ⟨_, rfl⟩
        have hidx : (n : Int) - 1 = (j : Int) := by omega
        rw [hidx]
        obtain ⟨b3, o3, hb3, _, e0, e1⟩ := HO.out.at m (by omega)
        obtain ⟨b4, o4, hb4, _, e2, e3⟩ := HO.out.at j (by omega)
        obtain ⟨rfl, rfl⟩ : b4 = b3 ∧ o4 = o3 := by rw [hb3] at hb4; simp at hb4; exact ⟨hb4.1.symm, hb4.2.symm⟩
        subst hb3
        have s0 := cell_later HBU.out e0
        have s1 := cell_later HBU.out e1
        have s2 := cell_later HBU.out e2
        have s3 := cell_later HBU.out e3
        clear e0 e1 e2 e3 hb4
        have hi0 : IntKind.i64.wrap ((j : Int) - 1) = (m : Int) := by rw [IntKind.wrap_i64]; omega
        have hi1 : IntKind.i64.wrap ((j : Int) + 1) = (n : Int) := by rw [IntKind.wrap_i64]; omega
        have hi2 : (0 : Int) ≤ (m : Int) := by omega
        have hi3 : (m : Int) < (C.length : Int) := by omega
        have hi4 : (j : Int) < (C.length : Int) := by omega
        have hi5 : (0 : Int) ≤ (j : Int) := by omega
        have hi6 : m < C.length := by omega
        have hi7 : j < C.length := by omega
        have hd : decide (1 ≤ (j : Int)) = true := decide_eq_true (by omega)
        have HM := hid hm
        have HJ := hid hj
        clear hm hj hidx
        cases hE : tlB (px C m, py C m) (px C j, py C j) (x, y)
        · gi_wp2
          refine wpIn_region_lift (by kernel_rfl) (S := (fun u => Below wr.heap.size wr u)) (by kernel_rfl) ?_ (fun hHeld => ?_)
          · exact (Below.refl _ _).drew
          refine wpAnyH_take (i := 0) (oi := { dst := some 11, op := Op.move (Operand.tmp 5), type := 3, pos := "l3_hull.go:98", after := #[], guard := none }) (v := ?v8rx0) rfl (by kernel_rfl) (by kernel_rfl) (by kernel_rfl) (fun _ _ _ h => h) (Or.inl ⟨by rfl, ?hy8rx0⟩) (by with_reducible assumption) ?rest8rx0
          case hy8rx0 => (intro w hSw; (try dsimp only at hSw); have z0 := cell_later hSw uB; have z1 := cell_later hSw s0; have z2 := cell_later hSw s1; have z3 := cell_later hSw s2; have z4 := cell_later hSw s3; have z5 := cell_later hSw u0; have z6 := cell_later hSw u1; clear hSw; go_simp; try with_reducible rfl)
          case' rest8rx0 => (try simp only [Act.put, List.setIfInBounds_toArray, List.set_cons_zero, List.set_cons_succ])
          refine wpAnyH_take (i := 1) (oi := { dst := some 12, op := Op.binOp BinOp.geq 3 (Operand.tmp 11) (Operand.const (Value.int IntKind.i64 1)) 3, type := 4, pos := "l3_hull.go:98", after := #[{ on := 0, ground := Ground.data }], guard := none }) (v := ?v8rx1) rfl (by kernel_rfl) (by kernel_rfl) (by kernel_rfl) (fun _ _ _ h => h) (Or.inl ⟨by rfl, ?hy8rx1⟩) (by with_reducible assumption) ?rest8rx1
          case hy8rx1 => (intro w hSw; (try dsimp only at hSw); have z0 := cell_later hSw uB; have z1 := cell_later hSw s0; have z2 := cell_later hSw s1; have z3 := cell_later hSw s2; have z4 := cell_later hSw s3; have z5 := cell_later hSw u0; have z6 := cell_later hSw u1; clear hSw; go_simp; try with_reducible rfl)
          case' rest8rx1 => (try simp only [Act.put, List.setIfInBounds_toArray, List.set_cons_zero, List.set_cons_succ])
          refine wpAnyH_take (i := 2) (oi := { dst := some 13, op := Op.move (Operand.tmp 12), type := 4, pos := "l3_hull.go:98", after := #[{ on := 1, ground := Ground.data }], guard := none }) (v := ?v8rx2) rfl (by kernel_rfl) (by kernel_rfl) (by kernel_rfl) (fun _ _ _ h => h) (Or.inl ⟨by rfl, ?hy8rx2⟩) (by with_reducible assumption) ?rest8rx2
          case hy8rx2 => (intro w hSw; (try dsimp only at hSw); have z0 := cell_later hSw uB; have z1 := cell_later hSw s0; have z2 := cell_later hSw s1; have z3 := cell_later hSw s2; have z4 := cell_later hSw s3; have z5 := cell_later hSw u0; have z6 := cell_later hSw u1; clear hSw; go_simp; try with_reducible rfl)
          case' rest8rx2 => (try simp only [Act.put, List.setIfInBounds_toArray, List.set_cons_zero, List.set_cons_succ])
          refine wpAnyH_take (i := 3) (oi := { dst := some 14, op := Op.load 29 (Operand.tmp 3), type := 29, pos := "l3_hull.go:98", after := #[{ on := 2, ground := Ground.guard }], guard := some (2, true) }) (v := ?v8rx3) rfl (by kernel_rfl) (by kernel_rfl) (by kernel_rfl) (fun _ _ _ h => h) (Or.inl ⟨by rfl, ?hy8rx3⟩) (by with_reducible assumption) ?rest8rx3
          case hy8rx3 => (intro w hSw; (try dsimp only at hSw); have z0 := cell_later hSw uB; have z1 := cell_later hSw s0; have z2 := cell_later hSw s1; have z3 := cell_later hSw s2; have z4 := cell_later hSw s3; have z5 := cell_later hSw u0; have z6 := cell_later hSw u1; clear hSw; go_simp; try with_reducible rfl)
          case' rest8rx3 => (try simp only [Act.put, List.setIfInBounds_toArray, List.set_cons_zero, List.set_cons_succ])
          refine wpAnyH_take (i := 4) (oi := { dst := some 15, op := Op.move (Operand.tmp 5), type := 3, pos := "l3_hull.go:98", after := #[{ on := 2, ground := Ground.guard }], guard := some (2, true) }) (v := ?v8rx4) rfl (by kernel_rfl) (by kernel_rfl) (by kernel_rfl) (fun _ _ _ h => h) (Or.inl ⟨by rfl, ?hy8rx4⟩) (by with_reducible assumption) ?rest8rx4
          case hy8rx4 => (intro w hSw; (try dsimp only at hSw); have z0 := cell_later hSw uB; have z1 := cell_later hSw s0; have z2 := cell_later hSw s1; have z3 := cell_later hSw s2; have z4 := cell_later hSw s3; have z5 := cell_later hSw u0; have z6 := cell_later hSw u1; clear hSw; go_simp; try with_reducible rfl)
          case' rest8rx4 => (try simp only [Act.put, List.setIfInBounds_toArray, List.set_cons_zero, List.set_cons_succ])
          refine wpAnyH_take (i := 5) (oi := { dst := some 16, op := Op.binOp BinOp.sub 3 (Operand.tmp 15) (Operand.const (Value.int IntKind.i64 1)) 3, type := 3, pos := "l3_hull.go:98", after := #[{ on := 4, ground := Ground.data }, { on := 2, ground := Ground.guard }], guard := some (2, true) }) (v := ?v8rx5) rfl (by kernel_rfl) (by kernel_rfl) (by kernel_rfl) (fun _ _ _ h => h) (Or.inl ⟨by rfl, ?hy8rx5⟩) (by with_reducible assumption) ?rest8rx5
          case hy8rx5 => (intro w hSw; (try dsimp only at hSw); have z0 := cell_later hSw uB; have z1 := cell_later hSw s0; have z2 := cell_later hSw s1; have z3 := cell_later hSw s2; have z4 := cell_later hSw s3; have z5 := cell_later hSw u0; have z6 := cell_later hSw u1; clear hSw; go_simp; try with_reducible rfl)
          case' rest8rx5 => (try simp only [Act.put, List.setIfInBounds_toArray, List.set_cons_zero, List.set_cons_succ])
          refine wpAnyH_take (i := 6) (oi := { dst := some 17, op := Op.indexAddr 29 (Operand.tmp 14) (Operand.tmp 16), type := 0, pos := "l3_hull.go:98", after := #[{ on := 3, ground := Ground.data }, { on := 5, ground := Ground.data }, { on := 2, ground := Ground.guard }], guard := some (2, true) }) (v := ?v8rx6) rfl (by kernel_rfl) (by kernel_rfl) (by kernel_rfl) (fun _ _ _ h => h) (Or.inl ⟨by rfl, ?hy8rx6⟩) (by with_reducible assumption) ?rest8rx6
          case hy8rx6 => (intro w hSw; (try dsimp only at hSw); have z0 := cell_later hSw uB; have z1 := cell_later hSw s0; have z2 := cell_later hSw s1; have z3 := cell_later hSw s2; have z4 := cell_later hSw s3; have z5 := cell_later hSw u0; have z6 := cell_later hSw u1; clear hSw; go_simp; try with_reducible rfl)
          case' rest8rx6 => (try simp only [Act.put, List.setIfInBounds_toArray, List.set_cons_zero, List.set_cons_succ])
          refine wpAnyH_take (i := 7) (oi := { dst := some 18, op := Op.load 26 (Operand.tmp 17), type := 26, pos := "l3_hull.go:98", after := #[{ on := 6, ground := Ground.data }, { on := 2, ground := Ground.guard }], guard := some (2, true) }) (v := ?v8rx7) rfl (by kernel_rfl) (by kernel_rfl) (by kernel_rfl) (fun _ _ _ h => h) (Or.inl ⟨by rfl, ?hy8rx7⟩) (by with_reducible assumption) ?rest8rx7
          case hy8rx7 => (intro w hSw; (try dsimp only at hSw); have z0 := cell_later hSw uB; have z1 := cell_later hSw s0; have z2 := cell_later hSw s1; have z3 := cell_later hSw s2; have z4 := cell_later hSw s3; have z5 := cell_later hSw u0; have z6 := cell_later hSw u1; clear hSw; go_simp; try with_reducible rfl)
          case' rest8rx7 => (try simp only [Act.put, List.setIfInBounds_toArray, List.set_cons_zero, List.set_cons_succ])
          refine wpAnyH_take (i := 8) (oi := { dst := some 19, op := Op.load 29 (Operand.tmp 3), type := 29, pos := "l3_hull.go:98", after := #[{ on := 2, ground := Ground.guard }], guard := some (2, true) }) (v := ?v8rx8) rfl (by kernel_rfl) (by kernel_rfl) (by kernel_rfl) (fun _ _ _ h => h) (Or.inl ⟨by rfl, ?hy8rx8⟩) (by with_reducible assumption) ?rest8rx8
          case hy8rx8 => (intro w hSw; (try dsimp only at hSw); have z0 := cell_later hSw uB; have z1 := cell_later hSw s0; have z2 := cell_later hSw s1; have z3 := cell_later hSw s2; have z4 := cell_later hSw s3; have z5 := cell_later hSw u0; have z6 := cell_later hSw u1; clear hSw; go_simp; try with_reducible rfl)
          case' rest8rx8 => (try simp only [Act.put, List.setIfInBounds_toArray, List.set_cons_zero, List.set_cons_succ])
          refine wpAnyH_take (i := 9) (oi := { dst := some 20, op := Op.move (Operand.tmp 5), type := 3, pos := "l3_hull.go:98", after := #[{ on := 2, ground := Ground.guard }], guard := some (2, true) }) (v := ?v8rx9) rfl (by kernel_rfl) (by kernel_rfl) (by kernel_rfl) (fun _ _ _ h => h) (Or.inl ⟨by rfl, ?hy8rx9⟩) (by with_reducible assumption) ?rest8rx9
          case hy8rx9 => (intro w hSw; (try dsimp only at hSw); have z0 := cell_later hSw uB; have z1 := cell_later hSw s0; have z2 := cell_later hSw s1; have z3 := cell_later hSw s2; have z4 := cell_later hSw s3; have z5 := cell_later hSw u0; have z6 := cell_later hSw u1; clear hSw; go_simp; try with_reducible rfl)
          case' rest8rx9 => (try simp only [Act.put, List.setIfInBounds_toArray, List.set_cons_zero, List.set_cons_succ])
          refine wpAnyH_take (i := 10) (oi := { dst := some 21, op := Op.indexAddr 29 (Operand.tmp 19) (Operand.tmp 20), type := 0, pos := "l3_hull.go:98", after := #[{ on := 8, ground := Ground.data }, { on := 9, ground := Ground.data }, { on := 2, ground := Ground.guard }], guard := some (2, true) }) (v := ?v8rx10) rfl (by kernel_rfl) (by kernel_rfl) (by kernel_rfl) (fun _ _ _ h => h) (Or.inl ⟨by rfl, ?hy8rx10⟩) (by with_reducible assumption) ?rest8rx10
          case hy8rx10 => (intro w hSw; (try dsimp only at hSw); have z0 := cell_later hSw uB; have z1 := cell_later hSw s0; have z2 := cell_later hSw s1; have z3 := cell_later hSw s2; have z4 := cell_later hSw s3; have z5 := cell_later hSw u0; have z6 := cell_later hSw u1; clear hSw; go_simp; try with_reducible rfl)
          case' rest8rx10 => (try simp only [Act.put, List.setIfInBounds_toArray, List.set_cons_zero, List.set_cons_succ])
          refine wpAnyH_take (i := 11) (oi := { dst := some 22, op := Op.load 26 (Operand.tmp 21), type := 26, pos := "l3_hull.go:98", after := #[{ on := 10, ground := Ground.data }, { on := 2, ground := Ground.guard }], guard := some (2, true) }) (v := ?v8rx11) rfl (by kernel_rfl) (by kernel_rfl) (by kernel_rfl) (fun _ _ _ h => h) (Or.inl ⟨by rfl, ?hy8rx11⟩) (by with_reducible assumption) ?rest8rx11
          case hy8rx11 => (intro w hSw; (try dsimp only at hSw); have z0 := cell_later hSw uB; have z1 := cell_later hSw s0; have z2 := cell_later hSw s1; have z3 := cell_later hSw s2; have z4 := cell_later hSw s3; have z5 := cell_later hSw u0; have z6 := cell_later hSw u1; clear hSw; go_simp; try with_reducible rfl)
          case' rest8rx11 => (try simp only [Act.put, List.setIfInBounds_toArray, List.set_cons_zero, List.set_cons_succ])
          refine wpAnyH_take (i := 12) (oi := { dst := some 23, op := Op.load 26 (Operand.tmp 4), type := 26, pos := "l3_hull.go:98", after := #[{ on := 2, ground := Ground.guard }], guard := some (2, true) }) (v := ?v8rx12) rfl (by kernel_rfl) (by kernel_rfl) (by kernel_rfl) (fun _ _ _ h => h) (Or.inl ⟨by rfl, ?hy8rx12⟩) (by with_reducible assumption) ?rest8rx12
          case hy8rx12 => (intro w hSw; (try dsimp only at hSw); have z0 := cell_later hSw uB; have z1 := cell_later hSw s0; have z2 := cell_later hSw s1; have z3 := cell_later hSw s2; have z4 := cell_later hSw s3; have z5 := cell_later hSw u0; have z6 := cell_later hSw u1; clear hSw; go_simp; try with_reducible rfl)
          case' rest8rx12 => (try simp only [Act.put, List.setIfInBounds_toArray, List.set_cons_zero, List.set_cons_succ])
          refine wpAnyH_ready (rs := [13]) (by kernel_rfl) (by simp) ?_
          refine AllReadyH.cons (o := { dst := some 24, op := Op.call { callee := Callee.value (Operand.func 50), args := #[Operand.tmp 18, Operand.tmp 22, Operand.tmp 23], argTypes := #[26, 26, 26] }, type := 4, pos := "l3_hull.go:98", after := #[{ on := 7, ground := Ground.data }, { on := 11, ground := Ground.data }, { on := 12, ground := Ground.data }, { on := 2, ground := Ground.chain }, { on := 2, ground := Ground.guard }], guard := some (2, true) }) rfl (fun K hK => ?_) AllReadyH.nil
          go_simp
          refine (turnsLeft_c _ _ _ _ _ _ _ (cell_later (by with_reducible assumption) uz)).mono ?_
          rintro e w' ⟨rfl, hb⟩
          go_wp2_with fail
          refine hK.out _ _ ?_ (fun hHeld => ?_)
          · exact grew (by with_reducible assumption) hb
          clear hK K
          try simp only [Act.put, List.setIfInBounds_toArray, List.set_cons_zero, List.set_cons_succ]
          refine wpAnyH_take (i := 14) (oi := { dst := some 25, op := Op.unOp UnOp.not 4 (Operand.tmp 24), type := 4, pos := "l3_hull.go:98", after := #[{ on := 13, ground := Ground.data }, { on := 2, ground := Ground.guard }], guard := some (2, true) }) (v := ?v8rx14) rfl (by kernel_rfl) (by kernel_rfl) (by kernel_rfl) (fun _ _ _ h => h) (Or.inl ⟨by rfl, ?hy8rx14⟩) (by with_reducible assumption) ?rest8rx14
          case hy8rx14 => (intro w hSw; (try dsimp only at hSw); have z0 := cell_later hSw uB; have z1 := cell_later hSw s0; have z2 := cell_later hSw s1; have z3 := cell_later hSw s2; have z4 := cell_later hSw s3; have z5 := cell_later hSw u0; have z6 := cell_later hSw u1; clear hSw; go_simp; try with_reducible rfl)
          case' rest8rx14 => (try simp only [Act.put, List.setIfInBounds_toArray, List.set_cons_zero, List.set_cons_succ])
          refine wpAnyH_take (i := 15) (oi := { dst := some 26, op := Op.pick (Operand.tmp 13) (Operand.tmp 25) (Operand.const (Value.bool false)), type := 4, pos := "l3_hull.go:98", after := #[{ on := 2, ground := Ground.data }, { on := 14, ground := Ground.data }], guard := none }) (v := ?v8rx15) rfl (by kernel_rfl) (by kernel_rfl) (by kernel_rfl) (fun _ _ _ h => h) (Or.inl ⟨by rfl, ?hy8rx15⟩) (by with_reducible assumption) ?rest8rx15
          case hy8rx15 => (intro w hSw; (try dsimp only at hSw); have z0 := cell_later hSw uB; have z1 := cell_later hSw s0; have z2 := cell_later hSw s1; have z3 := cell_later hSw s2; have z4 := cell_later hSw s3; have z5 := cell_later hSw u0; have z6 := cell_later hSw u1; clear hSw; go_simp; try with_reducible rfl)
          case' rest8rx15 => (try simp only [Act.put, List.setIfInBounds_toArray, List.set_cons_zero, List.set_cons_succ])
          refine wpAnyH_done (by kernel_rfl) ?_ _
          dsimp only [noOut]
          gi_wp2
          go_roundw
          case rel =>
            have ej := HJ.out
            refine ⟨j, by first | rfl | (congr 1; omega) | go_num, by omega, ?_, grew HBU.out (by with_reducible assumption)⟩
            have e1 := HM.out
            have e2 := HJ.out
            subst e1
            subst e2
            rw [← HKN.out]
            exact (keepB_go hE).symm
          case measure => (have ej := HJ.out; simp [intOf]; omega)
        · have hkn : n = keepB tlB C (x, y) C.length := by
            have e1 := HM.out
            have e2 := HJ.out
            subst e1
            subst e2
            rw [← HKN.out]
            exact (keepB_stop hE).symm
          have HN := hid hkn
          clear hkn
          gi_wp2
          refine wpIn_region_lift (by kernel_rfl) (S := (fun u => Below wr.heap.size wr u)) (by kernel_rfl) ?_ (fun hHeld => ?_)
          · exact (Below.refl _ _).drew
          refine wpAnyH_take (i := 0) (oi := { dst := some 11, op := Op.move (Operand.tmp 5), type := 3, pos := "l3_hull.go:98", after := #[], guard := none }) (v := ?v6rx0) rfl (by kernel_rfl) (by kernel_rfl) (by kernel_rfl) (fun _ _ _ h => h) (Or.inl ⟨by rfl, ?hy6rx0⟩) (by with_reducible assumption) ?rest6rx0
          case hy6rx0 => (intro w hSw; (try dsimp only at hSw); have z0 := cell_later hSw uB; have z1 := cell_later hSw s0; have z2 := cell_later hSw s1; have z3 := cell_later hSw s2; have z4 := cell_later hSw s3; have z5 := cell_later hSw u0; have z6 := cell_later hSw u1; clear hSw; go_simp; try with_reducible rfl)
          case' rest6rx0 => (try simp only [Act.put, List.setIfInBounds_toArray, List.set_cons_zero, List.set_cons_succ])
          refine wpAnyH_take (i := 1) (oi := { dst := some 12, op := Op.binOp BinOp.geq 3 (Operand.tmp 11) (Operand.const (Value.int IntKind.i64 1)) 3, type := 4, pos := "l3_hull.go:98", after := #[{ on := 0, ground := Ground.data }], guard := none }) (v := ?v6rx1) rfl (by kernel_rfl) (by kernel_rfl) (by kernel_rfl) (fun _ _ _ h => h) (Or.inl ⟨by rfl, ?hy6rx1⟩) (by with_reducible assumption) ?rest6rx1
          case hy6rx1 => (intro w hSw; (try dsimp only at hSw); have z0 := cell_later hSw uB; have z1 := cell_later hSw s0; have z2 := cell_later hSw s1; have z3 := cell_later hSw s2; have z4 := cell_later hSw s3; have z5 := cell_later hSw u0; have z6 := cell_later hSw u1; clear hSw; go_simp; try with_reducible rfl)
          case' rest6rx1 => (try simp only [Act.put, List.setIfInBounds_toArray, List.set_cons_zero, List.set_cons_succ])
          refine wpAnyH_take (i := 2) (oi := { dst := some 13, op := Op.move (Operand.tmp 12), type := 4, pos := "l3_hull.go:98", after := #[{ on := 1, ground := Ground.data }], guard := none }) (v := ?v6rx2) rfl (by kernel_rfl) (by kernel_rfl) (by kernel_rfl) (fun _ _ _ h => h) (Or.inl ⟨by rfl, ?hy6rx2⟩) (by with_reducible assumption) ?rest6rx2
          case hy6rx2 => (intro w hSw; (try dsimp only at hSw); have z0 := cell_later hSw uB; have z1 := cell_later hSw s0; have z2 := cell_later hSw s1; have z3 := cell_later hSw s2; have z4 := cell_later hSw s3; have z5 := cell_later hSw u0; have z6 := cell_later hSw u1; clear hSw; go_simp; try with_reducible rfl)
          case' rest6rx2 => (try simp only [Act.put, List.setIfInBounds_toArray, List.set_cons_zero, List.set_cons_succ])
          refine wpAnyH_take (i := 3) (oi := { dst := some 14, op := Op.load 29 (Operand.tmp 3), type := 29, pos := "l3_hull.go:98", after := #[{ on := 2, ground := Ground.guard }], guard := some (2, true) }) (v := ?v6rx3) rfl (by kernel_rfl) (by kernel_rfl) (by kernel_rfl) (fun _ _ _ h => h) (Or.inl ⟨by rfl, ?hy6rx3⟩) (by with_reducible assumption) ?rest6rx3
          case hy6rx3 => (intro w hSw; (try dsimp only at hSw); have z0 := cell_later hSw uB; have z1 := cell_later hSw s0; have z2 := cell_later hSw s1; have z3 := cell_later hSw s2; have z4 := cell_later hSw s3; have z5 := cell_later hSw u0; have z6 := cell_later hSw u1; clear hSw; go_simp; try with_reducible rfl)
          case' rest6rx3 => (try simp only [Act.put, List.setIfInBounds_toArray, List.set_cons_zero, List.set_cons_succ])
          refine wpAnyH_take (i := 4) (oi := { dst := some 15, op := Op.move (Operand.tmp 5), type := 3, pos := "l3_hull.go:98", after := #[{ on := 2, ground := Ground.guard }], guard := some (2, true) }) (v := ?v6rx4) rfl (by kernel_rfl) (by kernel_rfl) (by kernel_rfl) (fun _ _ _ h => h) (Or.inl ⟨by rfl, ?hy6rx4⟩) (by with_reducible assumption) ?rest6rx4
          case hy6rx4 => (intro w hSw; (try dsimp only at hSw); have z0 := cell_later hSw uB; have z1 := cell_later hSw s0; have z2 := cell_later hSw s1; have z3 := cell_later hSw s2; have z4 := cell_later hSw s3; have z5 := cell_later hSw u0; have z6 := cell_later hSw u1; clear hSw; go_simp; try with_reducible rfl)
          case' rest6rx4 => (try simp only [Act.put, List.setIfInBounds_toArray, List.set_cons_zero, List.set_cons_succ])
          refine wpAnyH_take (i := 5) (oi := { dst := some 16, op := Op.binOp BinOp.sub 3 (Operand.tmp 15) (Operand.const (Value.int IntKind.i64 1)) 3, type := 3, pos := "l3_hull.go:98", after := #[{ on := 4, ground := Ground.data }, { on := 2, ground := Ground.guard }], guard := some (2, true) }) (v := ?v6rx5) rfl (by kernel_rfl) (by kernel_rfl) (by kernel_rfl) (fun _ _ _ h => h) (Or.inl ⟨by rfl, ?hy6rx5⟩) (by with_reducible assumption) ?rest6rx5
          case hy6rx5 => (intro w hSw; (try dsimp only at hSw); have z0 := cell_later hSw uB; have z1 := cell_later hSw s0; have z2 := cell_later hSw s1; have z3 := cell_later hSw s2; have z4 := cell_later hSw s3; have z5 := cell_later hSw u0; have z6 := cell_later hSw u1; clear hSw; go_simp; try with_reducible rfl)
          case' rest6rx5 => (try simp only [Act.put, List.setIfInBounds_toArray, List.set_cons_zero, List.set_cons_succ])
          refine wpAnyH_take (i := 6) (oi := { dst := some 17, op := Op.indexAddr 29 (Operand.tmp 14) (Operand.tmp 16), type := 0, pos := "l3_hull.go:98", after := #[{ on := 3, ground := Ground.data }, { on := 5, ground := Ground.data }, { on := 2, ground := Ground.guard }], guard := some (2, true) }) (v := ?v6rx6) rfl (by kernel_rfl) (by kernel_rfl) (by kernel_rfl) (fun _ _ _ h => h) (Or.inl ⟨by rfl, ?hy6rx6⟩) (by with_reducible assumption) ?rest6rx6
          case hy6rx6 => (intro w hSw; (try dsimp only at hSw); have z0 := cell_later hSw uB; have z1 := cell_later hSw s0; have z2 := cell_later hSw s1; have z3 := cell_later hSw s2; have z4 := cell_later hSw s3; have z5 := cell_later hSw u0; have z6 := cell_later hSw u1; clear hSw; go_simp; try with_reducible rfl)
          case' rest6rx6 => (try simp only [Act.put, List.setIfInBounds_toArray, List.set_cons_zero, List.set_cons_succ])
          refine wpAnyH_take (i := 7) (oi := { dst := some 18, op := Op.load 26 (Operand.tmp 17), type := 26, pos := "l3_hull.go:98", after := #[{ on := 6, ground := Ground.data }, { on := 2, ground := Ground.guard }], guard := some (2, true) }) (v := ?v6rx7) rfl (by kernel_rfl) (by kernel_rfl) (by kernel_rfl) (fun _ _ _ h => h) (Or.inl ⟨by rfl, ?hy6rx7⟩) (by with_reducible assumption) ?rest6rx7
          case hy6rx7 => (intro w hSw; (try dsimp only at hSw); have z0 := cell_later hSw uB; have z1 := cell_later hSw s0; have z2 := cell_later hSw s1; have z3 := cell_later hSw s2; have z4 := cell_later hSw s3; have z5 := cell_later hSw u0; have z6 := cell_later hSw u1; clear hSw; go_simp; try with_reducible rfl)
          case' rest6rx7 => (try simp only [Act.put, List.setIfInBounds_toArray, List.set_cons_zero, List.set_cons_succ])
          refine wpAnyH_take (i := 8) (oi := { dst := some 19, op := Op.load 29 (Operand.tmp 3), type := 29, pos := "l3_hull.go:98", after := #[{ on := 2, ground := Ground.guard }], guard := some (2, true) }) (v := ?v6rx8) rfl (by kernel_rfl) (by kernel_rfl) (by kernel_rfl) (fun _ _ _ h => h) (Or.inl ⟨by rfl, ?hy6rx8⟩) (by with_reducible assumption) ?rest6rx8
          case hy6rx8 => (intro w hSw; (try dsimp only at hSw); have z0 := cell_later hSw uB; have z1 := cell_later hSw s0; have z2 := cell_later hSw s1; have z3 := cell_later hSw s2; have z4 := cell_later hSw s3; have z5 := cell_later hSw u0; have z6 := cell_later hSw u1; clear hSw; go_simp; try with_reducible rfl)
          case' rest6rx8 => (try simp only [Act.put, List.setIfInBounds_toArray, List.set_cons_zero, List.set_cons_succ])
          refine wpAnyH_take (i := 9) (oi := { dst := some 20, op := Op.move (Operand.tmp 5), type := 3, pos := "l3_hull.go:98", after := #[{ on := 2, ground := Ground.guard }], guard := some (2, true) }) (v := ?v6rx9) rfl (by kernel_rfl) (by kernel_rfl) (by kernel_rfl) (fun _ _ _ h => h) (Or.inl ⟨by rfl, ?hy6rx9⟩) (by with_reducible assumption) ?rest6rx9
          case hy6rx9 => (intro w hSw; (try dsimp only at hSw); have z0 := cell_later hSw uB; have z1 := cell_later hSw s0; have z2 := cell_later hSw s1; have z3 := cell_later hSw s2; have z4 := cell_later hSw s3; have z5 := cell_later hSw u0; have z6 := cell_later hSw u1; clear hSw; go_simp; try with_reducible rfl)
          case' rest6rx9 => (try simp only [Act.put, List.setIfInBounds_toArray, List.set_cons_zero, List.set_cons_succ])
          refine wpAnyH_take (i := 10) (oi := { dst := some 21, op := Op.indexAddr 29 (Operand.tmp 19) (Operand.tmp 20), type := 0, pos := "l3_hull.go:98", after := #[{ on := 8, ground := Ground.data }, { on := 9, ground := Ground.data }, { on := 2, ground := Ground.guard }], guard := some (2, true) }) (v := ?v6rx10) rfl (by kernel_rfl) (by kernel_rfl) (by kernel_rfl) (fun _ _ _ h => h) (Or.inl ⟨by rfl, ?hy6rx10⟩) (by with_reducible assumption) ?rest6rx10
          case hy6rx10 => (intro w hSw; (try dsimp only at hSw); have z0 := cell_later hSw uB; have z1 := cell_later hSw s0; have z2 := cell_later hSw s1; have z3 := cell_later hSw s2; have z4 := cell_later hSw s3; have z5 := cell_later hSw u0; have z6 := cell_later hSw u1; clear hSw; go_simp; try with_reducible rfl)
          case' rest6rx10 => (try simp only [Act.put, List.setIfInBounds_toArray, List.set_cons_zero, List.set_cons_succ])
          refine wpAnyH_take (i := 11) (oi := { dst := some 22, op := Op.load 26 (Operand.tmp 21), type := 26, pos := "l3_hull.go:98", after := #[{ on := 10, ground := Ground.data }, { on := 2, ground := Ground.guard }], guard := some (2, true) }) (v := ?v6rx11) rfl (by kernel_rfl) (by kernel_rfl) (by kernel_rfl) (fun _ _ _ h => h) (Or.inl ⟨by rfl, ?hy6rx11⟩) (by with_reducible assumption) ?rest6rx11
          case hy6rx11 => (intro w hSw; (try dsimp only at hSw); have z0 := cell_later hSw uB; have z1 := cell_later hSw s0; have z2 := cell_later hSw s1; have z3 := cell_later hSw s2; have z4 := cell_later hSw s3; have z5 := cell_later hSw u0; have z6 := cell_later hSw u1; clear hSw; go_simp; try with_reducible rfl)
          case' rest6rx11 => (try simp only [Act.put, List.setIfInBounds_toArray, List.set_cons_zero, List.set_cons_succ])
          refine wpAnyH_take (i := 12) (oi := { dst := some 23, op := Op.load 26 (Operand.tmp 4), type := 26, pos := "l3_hull.go:98", after := #[{ on := 2, ground := Ground.guard }], guard := some (2, true) }) (v := ?v6rx12) rfl (by kernel_rfl) (by kernel_rfl) (by kernel_rfl) (fun _ _ _ h => h) (Or.inl ⟨by rfl, ?hy6rx12⟩) (by with_reducible assumption) ?rest6rx12
          case hy6rx12 => (intro w hSw; (try dsimp only at hSw); have z0 := cell_later hSw uB; have z1 := cell_later hSw s0; have z2 := cell_later hSw s1; have z3 := cell_later hSw s2; have z4 := cell_later hSw s3; have z5 := cell_later hSw u0; have z6 := cell_later hSw u1; clear hSw; go_simp; try with_reducible rfl)
          case' rest6rx12 => (try simp only [Act.put, List.setIfInBounds_toArray, List.set_cons_zero, List.set_cons_succ])
          refine wpAnyH_ready (rs := [13]) (by kernel_rfl) (by simp) ?_
          refine AllReadyH.cons (o := { dst := some 24, op := Op.call { callee := Callee.value (Operand.func 50), args := #[Operand.tmp 18, Operand.tmp 22, Operand.tmp 23], argTypes := #[26, 26, 26] }, type := 4, pos := "l3_hull.go:98", after := #[{ on := 7, ground := Ground.data }, { on := 11, ground := Ground.data }, { on := 12, ground := Ground.data }, { on := 2, ground := Ground.chain }, { on := 2, ground := Ground.guard }], guard := some (2, true) }) rfl (fun K hK => ?_) AllReadyH.nil
          go_simp
          refine (turnsLeft_c _ _ _ _ _ _ _ (cell_later (by with_reducible assumption) uz)).mono ?_
          rintro e w' ⟨rfl, hb⟩
          go_wp2_with fail
          refine hK.out _ _ ?_ (fun hHeld => ?_)
          · exact grew (by with_reducible assumption) hb
          clear hK K
          try simp only [Act.put, List.setIfInBounds_toArray, List.set_cons_zero, List.set_cons_succ]
          refine wpAnyH_take (i := 14) (oi := { dst := some 25, op := Op.unOp UnOp.not 4 (Operand.tmp 24), type := 4, pos := "l3_hull.go:98", after := #[{ on := 13, ground := Ground.data }, { on := 2, ground := Ground.guard }], guard := some (2, true) }) (v := ?v6rx14) rfl (by kernel_rfl) (by kernel_rfl) (by kernel_rfl) (fun _ _ _ h => h) (Or.inl ⟨by rfl, ?hy6rx14⟩) (by with_reducible assumption) ?rest6rx14
          case hy6rx14 => (intro w hSw; (try dsimp only at hSw); have z0 := cell_later hSw uB; have z1 := cell_later hSw s0; have z2 := cell_later hSw s1; have z3 := cell_later hSw s2; have z4 := cell_later hSw s3; have z5 := cell_later hSw u0; have z6 := cell_later hSw u1; clear hSw; go_simp; try with_reducible rfl)
          case' rest6rx14 => (try simp only [Act.put, List.setIfInBounds_toArray, List.set_cons_zero, List.set_cons_succ])
          refine wpAnyH_take (i := 15) (oi := { dst := some 26, op := Op.pick (Operand.tmp 13) (Operand.tmp 25) (Operand.const (Value.bool false)), type := 4, pos := "l3_hull.go:98", after := #[{ on := 2, ground := Ground.data }, { on := 14, ground := Ground.data }], guard := none }) (v := ?v6rx15) rfl (by kernel_rfl) (by kernel_rfl) (by kernel_rfl) (fun _ _ _ h => h) (Or.inl ⟨by rfl, ?hy6rx15⟩) (by with_reducible assumption) ?rest6rx15
          case hy6rx15 => (intro w hSw; (try dsimp only at hSw); have z0 := cell_later hSw uB; have z1 := cell_later hSw s0; have z2 := cell_later hSw s1; have z3 := cell_later hSw s2; have z4 := cell_later hSw s3; have z5 := cell_later hSw u0; have z6 := cell_later hSw u1; clear hSw; go_simp; try with_reducible rfl)
          case' rest6rx15 => (try simp only [Act.put, List.setIfInBounds_toArray, List.set_cons_zero, List.set_cons_succ])
          refine wpAnyH_done (by kernel_rfl) ?_ _
          dsimp only [noOut]
          gi_wp2
          have hhs := hHeld.size
          refine reg7 _ _ (w.heap.size + 1) w.heap.size Bx n C.length _ x y _ c3 (C.take (keepB tlB C (x, y) C.length)) _ w' _ _ _ _ _ _ _ _ _ _ _ _ _ _ _ _ _ _ _ _ _ _ _ _ _ _ _ _ _ _ _ _ _ _ _ _ _ _ _ (fun _ _ _ _ h => h) (boxed_later HX.out (grew HBU.out hHeld)) (cell_later hHeld u0) (cell_later hHeld u1) hi1 hn0 (half_stepT (HO.out.later (grew HBU.out hHeld)) hn HN.out) (by omega) (Nat.lt_succ_self _) (by rw [List.length_take]; simp; omega) ?_
          intro a' w3 v hk3 hb3 hx3 ho3
          refine ⟨by rw [World.size_alloc]; exact (keeps_below (grew HBU.out hHeld)).trans hk3, ((grew HBU.out hHeld).mono hWs).trans hb3, ⟨v, hx3, by rw [hst.out]; exact ho3, by rw [List.length_append]; simp; omega⟩, (grew HB.out (grew HBU.out hHeld)).trans hb3⟩
      · obtain ⟨q, hq⟩ : ∃ q, (n : Int) - 1 = q := ⟨_, rfl⟩
        rw [hq]
        have hi1 : IntKind.i64.wrap (q + 1) = (n : Int) := by rw [IntKind.wrap_i64]; omega
        have hd : decide (1 ≤ q) = false := decide_eq_false (by omega)
        have hkn : n = keepB tlB C (x, y) C.length := by
          rw [← HKN.out]
          exact (keepB_few hn1).symm
        have HN := hid hkn
        clear hkn hq
        gi_wp2
        refine wpIn_region_lift (by kernel_rfl) (S := (fun u => Below wr.heap.size wr u)) (by kernel_rfl) ?_ (fun hHeld => ?_)
        · exact (Below.refl _ _).drew
        refine wpAnyH_take (i := 0) (oi := { dst := some 11, op := Op.move (Operand.tmp 5), type := 3, pos := "l3_hull.go:98", after := #[], guard := none }) (v := ?v7rx0) rfl (by kernel_rfl) (by kernel_rfl) (by kernel_rfl) (fun _ _ _ h => h) (Or.inl ⟨by rfl, ?hy7rx0⟩) (by with_reducible assumption) ?rest7rx0
        case hy7rx0 => (intro w hSw; (try dsimp only at hSw); have z0 := cell_later hSw uB; have z1 := cell_later hSw u0; have z2 := cell_later hSw u1; clear hSw; go_simp; try with_reducible rfl)
        case' rest7rx0 => (try simp only [Act.put, List.setIfInBounds_toArray, List.set_cons_zero, List.set_cons_succ])
        refine wpAnyH_take (i := 1) (oi := { dst := some 12, op := Op.binOp BinOp.geq 3 (Operand.tmp 11) (Operand.const (Value.int IntKind.i64 1)) 3, type := 4, pos := "l3_hull.go:98", after := #[{ on := 0, ground := Ground.data }], guard := none }) (v := ?v7rx1) rfl (by kernel_rfl) (by kernel_rfl) (by kernel_rfl) (fun _ _ _ h => h) (Or.inl ⟨by rfl, ?hy7rx1⟩) (by with_reducible assumption) ?rest7rx1
        case hy7rx1 => (intro w hSw; (try dsimp only at hSw); have z0 := cell_later hSw uB; have z1 := cell_later hSw u0; have z2 := cell_later hSw u1; clear hSw; go_simp; try with_reducible rfl)
        case' rest7rx1 => (try simp only [Act.put, List.setIfInBounds_toArray, List.set_cons_zero, List.set_cons_succ])
        refine wpAnyH_take (i := 2) (oi := { dst := some 13, op := Op.move (Operand.tmp 12), type := 4, pos := "l3_hull.go:98", after := #[{ on := 1, ground := Ground.data }], guard := none }) (v := ?v7rx2) rfl (by kernel_rfl) (by kernel_rfl) (by kernel_rfl) (fun _ _ _ h => h) (Or.inl ⟨by rfl, ?hy7rx2⟩) (by with_reducible assumption) ?rest7rx2
        case hy7rx2 => (intro w hSw; (try dsimp only at hSw); have z0 := cell_later hSw uB; have z1 := cell_later hSw u0; have z2 := cell_later hSw u1; clear hSw; go_simp; try with_reducible rfl)
        case' rest7rx2 => (try simp only [Act.put, List.setIfInBounds_toArray, List.set_cons_zero, List.set_cons_succ])
        refine wpAnyH_take (i := 3) (oi := { dst := some 14, op := Op.load 29 (Operand.tmp 3), type := 29, pos := "l3_hull.go:98", after := #[{ on := 2, ground := Ground.guard }], guard := some (2, true) }) (v := undef) rfl (by kernel_rfl) (by kernel_rfl) (by kernel_rfl) (fun _ _ _ h => h) (Or.inr ⟨by rfl, rfl⟩) (by with_reducible assumption) ?rest7rx3
        case' rest7rx3 => (try simp only [Act.put, List.setIfInBounds_toArray, List.set_cons_zero, List.set_cons_succ])
        refine wpAnyH_take (i := 4) (oi := { dst := some 15, op := Op.move (Operand.tmp 5), type := 3, pos := "l3_hull.go:98", after := #[{ on := 2, ground := Ground.guard }], guard := some (2, true) }) (v := undef) rfl (by kernel_rfl) (by kernel_rfl) (by kernel_rfl) (fun _ _ _ h => h) (Or.inr ⟨by rfl, rfl⟩) (by with_reducible assumption) ?rest7rx4
        case' rest7rx4 => (try simp only [Act.put, List.setIfInBounds_toArray, List.set_cons_zero, List.set_cons_succ])
        refine wpAnyH_take (i := 5) (oi := { dst := some 16, op := Op.binOp BinOp.sub 3 (Operand.tmp 15) (Operand.const (Value.int IntKind.i64 1)) 3, type := 3, pos := "l3_hull.go:98", after := #[{ on := 4, ground := Ground.data }, { on := 2, ground := Ground.guard }], guard := some (2, true) }) (v := undef) rfl (by kernel_rfl) (by kernel_rfl) (by kernel_rfl) (fun _ _ _ h => h) (Or.inr ⟨by rfl, rfl⟩) (by with_reducible assumption) ?rest7rx5
        case' rest7rx5 => (try simp only [Act.put, List.setIfInBounds_toArray, List.set_cons_zero, List.set_cons_succ])
        refine wpAnyH_take (i := 6) (oi := { dst := some 17, op := Op.indexAddr 29 (Operand.tmp 14) (Operand.tmp 16), type := 0, pos := "l3_hull.go:98", after := #[{ on := 3, ground := Ground.data }, { on := 5, ground := Ground.data }, { on := 2, ground := Ground.guard }], guard := some (2, true) }) (v := undef) rfl (by kernel_rfl) (by kernel_rfl) (by kernel_rfl) (fun _ _ _ h => h) (Or.inr ⟨by rfl, rfl⟩) (by with_reducible assumption) ?rest7rx6
        case' rest7rx6 => (try simp only [Act.put, List.setIfInBounds_toArray, List.set_cons_zero, List.set_cons_succ])
        refine wpAnyH_take (i := 7) (oi := { dst := some 18, op := Op.load 26 (Operand.tmp 17), type := 26, pos := "l3_hull.go:98", after := #[{ on := 6, ground := Ground.data }, { on := 2, ground := Ground.guard }], guard := some (2, true) }) (v := undef) rfl (by kernel_rfl) (by kernel_rfl) (by kernel_rfl) (fun _ _ _ h => h) (Or.inr ⟨by rfl, rfl⟩) (by with_reducible assumption) ?rest7rx7
        case' rest7rx7 => (try simp only [Act.put, List.setIfInBounds_toArray, List.set_cons_zero, List.set_cons_succ])
        refine wpAnyH_take (i := 8) (oi := { dst := some 19, op := Op.load 29 (Operand.tmp 3), type := 29, pos := "l3_hull.go:98", after := #[{ on := 2, ground := Ground.guard }], guard := some (2, true) }) (v := undef) rfl (by kernel_rfl) (by kernel_rfl) (by kernel_rfl) (fun _ _ _ h => h) (Or.inr ⟨by rfl, rfl⟩) (by with_reducible assumption) ?rest7rx8
        case' rest7rx8 => (try simp only [Act.put, List.setIfInBounds_toArray, List.set_cons_zero, List.set_cons_succ])
        refine wpAnyH_take (i := 9) (oi := { dst := some 20, op := Op.move (Operand.tmp 5), type := 3, pos := "l3_hull.go:98", after := #[{ on := 2, ground := Ground.guard }], guard := some (2, true) }) (v := undef) rfl (by kernel_rfl) (by kernel_rfl) (by kernel_rfl) (fun _ _ _ h => h) (Or.inr ⟨by rfl, rfl⟩) (by with_reducible assumption) ?rest7rx9
        case' rest7rx9 => (try simp only [Act.put, List.setIfInBounds_toArray, List.set_cons_zero, List.set_cons_succ])
        refine wpAnyH_take (i := 10) (oi := { dst := some 21, op := Op.indexAddr 29 (Operand.tmp 19) (Operand.tmp 20), type := 0, pos := "l3_hull.go:98", after := #[{ on := 8, ground := Ground.data }, { on := 9, ground := Ground.data }, { on := 2, ground := Ground.guard }], guard := some (2, true) }) (v := undef) rfl (by kernel_rfl) (by kernel_rfl) (by kernel_rfl) (fun _ _ _ h => h) (Or.inr ⟨by rfl, rfl⟩) (by with_reducible assumption) ?rest7rx10
        case' rest7rx10 => (try simp only [Act.put, List.setIfInBounds_toArray, List.set_cons_zero, List.set_cons_succ])
        refine wpAnyH_take (i := 11) (oi := { dst := some 22, op := Op.load 26 (Operand.tmp 21), type := 26, pos := "l3_hull.go:98", after := #[{ on := 10, ground := Ground.data }, { on := 2, ground := Ground.guard }], guard := some (2, true) }) (v := undef) rfl (by kernel_rfl) (by kernel_rfl) (by kernel_rfl) (fun _ _ _ h => h) (Or.inr ⟨by rfl, rfl⟩) (by with_reducible assumption) ?rest7rx11
        case' rest7rx11 => (try simp only [Act.put, List.setIfInBounds_toArray, List.set_cons_zero, List.set_cons_succ])
        refine wpAnyH_take (i := 12) (oi := { dst := some 23, op := Op.load 26 (Operand.tmp 4), type := 26, pos := "l3_hull.go:98", after := #[{ on := 2, ground := Ground.guard }], guard := some (2, true) }) (v := undef) rfl (by kernel_rfl) (by kernel_rfl) (by kernel_rfl) (fun _ _ _ h => h) (Or.inr ⟨by rfl, rfl⟩) (by with_reducible assumption) ?rest7rx12
        case' rest7rx12 => (try simp only [Act.put, List.setIfInBounds_toArray, List.set_cons_zero, List.set_cons_succ])
        refine wpAnyH_ready (rs := [13]) (by kernel_rfl) (by simp) ?_
        refine AllReadyH.cons (o := { dst := some 24, op := Op.call { callee := Callee.value (Operand.func 50), args := #[Operand.tmp 18, Operand.tmp 22, Operand.tmp 23], argTypes := #[26, 26, 26] }, type := 4, pos := "l3_hull.go:98", after := #[{ on := 7, ground := Ground.data }, { on := 11, ground := Ground.data }, { on := 12, ground := Ground.data }, { on := 2, ground := Ground.chain }, { on := 2, ground := Ground.guard }], guard := some (2, true) }) rfl (fun K hK => ?_) AllReadyH.nil
        go_simp
        refine hK.out _ _ ?_ (fun hHeld => ?_)
        · with_reducible assumption
        clear hK K
        try simp only [Act.put, List.setIfInBounds_toArray, List.set_cons_zero, List.set_cons_succ]
        refine wpAnyH_take (i := 14) (oi := { dst := some 25, op := Op.unOp UnOp.not 4 (Operand.tmp 24), type := 4, pos := "l3_hull.go:98", after := #[{ on := 13, ground := Ground.data }, { on := 2, ground := Ground.guard }], guard := some (2, true) }) (v := undef) rfl (by kernel_rfl) (by kernel_rfl) (by kernel_rfl) (fun _ _ _ h => h) (Or.inr ⟨by rfl, rfl⟩) (by with_reducible assumption) ?rest7rx14
        case' rest7rx14 => (try simp only [Act.put, List.setIfInBounds_toArray, List.set_cons_zero, List.set_cons_succ])
        refine wpAnyH_take (i := 15) (oi := { dst := some 26, op := Op.pick (Operand.tmp 13) (Operand.tmp 25) (Operand.const (Value.bool false)), type := 4, pos := "l3_hull.go:98", after := #[{ on := 2, ground := Ground.data }, { on := 14, ground := Ground.data }], guard := none }) (v := ?v7rx15) rfl (by kernel_rfl) (by kernel_rfl) (by kernel_rfl) (fun _ _ _ h => h) (Or.inl ⟨by rfl, ?hy7rx15⟩) (by with_reducible assumption) ?rest7rx15
        case hy7rx15 => (intro w hSw; (try dsimp only at hSw); have z0 := cell_later hSw uB; have z1 := cell_later hSw u0; have z2 := cell_later hSw u1; clear hSw; go_simp; try with_reducible rfl)
        case' rest7rx15 => (try simp only [Act.put, List.setIfInBounds_toArray, List.set_cons_zero, List.set_cons_succ])
        refine wpAnyH_done (by kernel_rfl) ?_ _
        dsimp only [noOut]
        generalize wr.drew = w' at hHeld ⊢
        gi_wp2
        have hhs := hHeld.size
        refine reg7 _ _ (w.heap.size + 1) w.heap.size Bx n C.length _ x y _ c3 (C.take (keepB tlB C (x, y) C.length)) _ w' _ _ _ _ _ _ _ _ _ _ _ _ _ _ _ _ _ _ _ _ _ _ _ _ _ _ _ _ _ _ _ _ _ _ _ _ _ _ _ (fun _ _ _ _ h => h) (boxed_later HX.out (grew HBU.out hHeld)) (cell_later hHeld u0) (cell_later hHeld u1) hi1 hn0 (half_stepT (HO.out.later (grew HBU.out hHeld)) hn HN.out) (by omega) (Nat.lt_succ_self _) (by rw [List.length_take]; simp; omega) ?_
        intro a' w3 v hk3 hb3 hx3 ho3
        refine ⟨by rw [World.size_alloc]; exact (keeps_below (grew HBU.out hHeld)).trans hk3, ((grew HBU.out hHeld).mono hWs).trans hb3, ⟨v, hx3, by rw [hst.out]; exact ho3, by rw [List.length_append]; simp; omega⟩, (grew HB.out (grew HBU.out hHeld)).trans hb3⟩
end Go.Proofs.YtegmlemejmahiaaDoor
