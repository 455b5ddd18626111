/-
  AcrossOf, as the program has it (contracts for the walks).
  Conditions: as each theorem states them.
-/
import Derived.Test.YtipiamhnngmjmaaDoorAc7
import Derived.WalkMore
namespace Go.Proofs.YtipiamhnngmjmaaDoor
open Go.RowKit Go.Shelf
set_option linter.unusedVariables false
set_option maxRecDepth 8000
theorem Cor.lt {l : List (Int × Int)} {k g : Nat} {w : World} (h : Cor l k g w) : g < w.heap.size := by
  obtain ⟨f, hr, _⟩ := h
  exact hr.lt
theorem Cor.later {l : List (Int × Int)} {k g : Nat} {w w' : World} (h : Cor l k g w) (hb : Below w.heap.size w w') : Cor l k g w' := by
  obtain ⟨f, hr, hf⟩ := h
  exact ⟨f, rowIs_later hr hb hr.lt, hf⟩
theorem Cor.kept {l : List (Int × Int)} {k g : Nat} {w w' : World} (h : Cor l k g w) (e : w'.heap[g]? = w.heap[g]?) : Cor l k g w' := by
  obtain ⟨f, ⟨c, k1, k2, k3⟩, hf⟩ := h
  exact ⟨f, ⟨c, e.trans k1, k2, k3⟩, hf⟩
theorem Cor.cells {l : List (Int × Int)} {g : Nat} {w : World} (h : Cor l l.length g w) {j : Nat} (hj : j < l.length) :
    w.cell? ⟨g, j * 4, none⟩ = some (.int .i64 (sidE l j).1) ∧ w.cell? ⟨g, j * 4 + 1, none⟩ = some (.int .i64 (sidE l j).2) ∧ w.cell? ⟨g, j * 4 + 2, none⟩ = some (.int .i64 (sid l j).1) ∧ w.cell? ⟨g, j * 4 + 3, none⟩ = some (.int .i64 (sid l j).2) := by
  obtain ⟨f, hr, hf⟩ := h
  have h1 := hf.beg j hj
  have h2 := hf.fin j hj (by omega)
  have q0 := hr.cell (i := j * 4) (by omega)
  have q1 := hr.cell (i := j * 4 + 1) (by omega)
  have q2 := hr.cell (i := j * 4 + 2) (by omega)
  have q3 := hr.cell (i := j * 4 + 3) (by omega)
  rw [h2.1] at q0
  rw [h2.2] at q1
  rw [h1.1] at q2
  rw [h1.2] at q3
  exact ⟨q0, q1, q2, q3⟩
theorem box4_own {W W' : World} {B N : Nat} {a b c d : Int} {v : Value} {vs : List Value} (h : Box4 W B a b c d) (ho : OwnW N v vs W) (hg : W.grownBy W' v.ownBlock) : Box4 W' B a b c d :=
  (hg.block B h.lt (fun e => by
    rcases ho with ⟨_, rfl⟩ | ⟨g, cap, cur, rfl, _, h2, _⟩
    · simp [Value.ownBlock] at e
    · simp [Value.ownBlock] at e
      subst e
      rw [show W.heap[B]? = _ from h] at h2
      simp at h2)).trans h
/-- One of the four ways. -/
def acQ (e b e' b' : Int × Int) (q : Nat) : Bool := acI e b e' b' (pt [e, b, ng e', ng b'] q)
theorem acQ_yes {e b e' b' : Int × Int} {t : Bool} (h : fourI e b e' b' = t) {q : Nat} (hq : q < 4) (k : acQ e b e' b' q = true) : t = true := by
  rw [← h]
  unfold fourI
  unfold acQ at k
  rcases (by omega : q = 0 ∨ q = 1 ∨ q = 2 ∨ q = 3) with rfl | rfl | rfl | rfl <;> (simp only [pt, px, py, List.getD_cons_zero, List.getD_cons_succ] at k; simp [k])
theorem acQ_no {e b e' b' : Int × Int} {t : Bool} (h : fourI e b e' b' = t) (k : ∀ q, q < 4 → acQ e b e' b' q = false) : t = false := by
  rw [← h]
  have h0 := k 0 (by omega)
  have h1 := k 1 (by omega)
  have h2 := k 2 (by omega)
  have h3 := k 3 (by omega)
  unfold acQ at h0 h1 h2 h3
  simp only [pt, px, py, List.getD_cons_zero, List.getD_cons_succ] at h0 h1 h2 h3
  unfold fourI
  simp [h0, h1, h2, h3]
theorem idx0 (v0 v1 v2 v3 v4 v5 v6 v7 : Int) (u : World) : Sem.run Tryd.prog (Instr.index 73 (.agg #[.int .i64 v0, .int .i64 v1, .int .i64 v2, .int .i64 v3, .int .i64 v4, .int .i64 v5, .int .i64 v6, .int .i64 v7]) (.int .i64 0)) u = .ok (.agg #[.int .i64 v0, .int .i64 v1]) u := by
  simp [Instr.index, go_sem]
theorem idx1 (v0 v1 v2 v3 v4 v5 v6 v7 : Int) (u : World) : Sem.run Tryd.prog (Instr.index 73 (.agg #[.int .i64 v0, .int .i64 v1, .int .i64 v2, .int .i64 v3, .int .i64 v4, .int .i64 v5, .int .i64 v6, .int .i64 v7]) (.int .i64 1)) u = .ok (.agg #[.int .i64 v2, .int .i64 v3]) u := by
  simp [Instr.index, go_sem]
theorem idx2 (v0 v1 v2 v3 v4 v5 v6 v7 : Int) (u : World) : Sem.run Tryd.prog (Instr.index 73 (.agg #[.int .i64 v0, .int .i64 v1, .int .i64 v2, .int .i64 v3, .int .i64 v4, .int .i64 v5, .int .i64 v6, .int .i64 v7]) (.int .i64 2)) u = .ok (.agg #[.int .i64 v4, .int .i64 v5]) u := by
  simp [Instr.index, go_sem]
theorem idx3 (v0 v1 v2 v3 v4 v5 v6 v7 : Int) (u : World) : Sem.run Tryd.prog (Instr.index 73 (.agg #[.int .i64 v0, .int .i64 v1, .int .i64 v2, .int .i64 v3, .int .i64 v4, .int .i64 v5, .int .i64 v6, .int .i64 v7]) (.int .i64 3)) u = .ok (.agg #[.int .i64 v6, .int .i64 v7]) u := by
  simp [Instr.index, go_sem]
set_option maxHeartbeats 16000000 in
theorem acrossOfImpl_c (l : List (Int × Int)) (a : Option Addr) (len cap : Nat) (w : World) (hl : l.length = len) (h1 : len ≤ 1048576) (hA : At w.heap.size a l w) (c0 : w.cell? ⟨0, 0, none⟩ = some (.int .i64 1000000)) :
    Calls Tryd.prog 26 #[.slice a len cap] w fun e w' => ∃ v vs, e = .returned (.tuple #[v, .bool (acOk l)]) ∧ OwnIS w.heap.size v (acV l) vs w' ∧ Below w.heap.size w w' := by
  subst hl
  have HA := hid hA
  have C0 := hid c0
  clear hA c0
  obtain ⟨is, hsi, hs0, hs1, hs2⟩ := info_parts info_si
  cases hG : ghB l
  · have HK := hid (show acOk l = false by unfold acOk; rw [hG]; rfl)
    go_enter Tryd.func26, Tryd.ntmps26
    go_wp2_with (go_at_call 56; refine (goodHullImpl_c l _ _ _ _ rfl h1 HA.out C0.out).mono ?_; rw [hG]; rintro e w1 ⟨rfl, hb1⟩)
    go_ret2
    exact ⟨_, [], ret_vbI HK.out.symm, by unfold acV; rw [HK.out]; exact OwnIS.nil _ _, hb1⟩
  · by_cases h3 : 3 ≤ l.length
    · have HK := hid (show acOk l = true by unfold acOk; rw [hG, decide_eq_true h3]; rfl)
      have H60 := hid (gh_lenA hG)
      have HG := hid (gh_allA hG)
      have HT := hid (gh_turns hG h3)
      have hd3 : decide ((l.length : Int) < 3) = false := decide_eq_false (by omega)
      have h0 : 0 < l.length := by omega
      go_enter Tryd.func26, Tryd.ntmps26
      go_wp2_with (first
        | (go_at_call 56; refine (goodHullImpl_c l _ _ _ _ rfl h1 HA.out C0.out).mono ?_; rw [hG]; rintro e w1 ⟨rfl, hb1⟩)
        | (go_at_call 57; refine (cornersOf_c l _ _ _ w1 rfl h1 h0 ((HA.out.later hb1).mono hb1.size) HG.out).mono ?_; rintro e w2 ⟨rfl, hC, hb2⟩))
      clear hG hd3
      have hbw0 := grew hb1 hb2
      have HGE := hid hb1.size
      generalize w1.heap.size = g at hC HGE ⊢
      have HC2 := hid hC
      have HB2 := hid hbw0
      clear hC hb1 hb2 hbw0
      go_loopw [5, 23] (fun o ii wr => ∃ (i : Nat) (vs : List Value), i ≤ l.length ∧ ii = .int .i64 i ∧ OwnIS (g + 1) o (acTo l i) vs wr ∧ Cor l l.length g wr ∧ Below w.heap.size w wr) (fun _ ii _ => l.length - (intOf ii).toNat)
      case atStart => exact ⟨0, [], Nat.zero_le _, rfl, OwnIS.nil _ _, HC2.out, HB2.out⟩
      case round =>
        obtain ⟨i, vs, hi, rfl, hO, hC, hbw⟩ := hrel
        obtain ⟨a3, c3, hv3⟩ := hO.shape
        subst hv3
        by_cases hil : i < l.length
        · have hO2 : OwnIS (g + 1) (.slice a3 (acTo l i).length c3) (acTo l i ++ acRow l i 0) vs wr := by rw [show acRow l i 0 = [] from rfl, List.append_nil]; exact hO
          have HO := hid hO2
          obtain ⟨s0, s1, s2, s3⟩ := hC.cells hil
          obtain ⟨⟨p0, p1⟩, e1⟩ : ∃ e, sidE l i = e := ⟨_, rfl⟩
          obtain ⟨⟨p2, p3⟩, e2⟩ : ∃ e, sid l i = e := ⟨_, rfl⟩
          rw [e1] at s0 s1
          rw [e2] at s2 s3
          have HE1 := hid e1
          have HE2 := hid e2
          clear hO hO2 e1 e2
          have j0 : (0 : Int) ≤ (i : Int) := by omega
          have j1 : (i : Int) < (l.length : Int) := by omega
          have hw1 : wrap64 ((i : Int) + 1) = ((i + 1 : Nat) : Int) := by rw [wrap_in (by omega) (by omega)]; omega
          obtain ⟨N0, hN0⟩ : ∃ q, (acTo l i).length = q := ⟨_, rfl⟩
          rw [hN0] at HO ⊢
          have HN0 := hid hN0
          clear hN0
          go_wp2
          apply wp_scope_straight
          have K7 : Box4 (wr.alloc (.cells #[.int .i64 p0, .int .i64 p1, .int .i64 p2, .int .i64 p3] 72)) wr.heap.size p0 p1 p2 p3 := Box4.new wr p0 p1 p2 p3
          have hbx : Below wr.heap.size wr (wr.alloc (.cells #[.int .i64 p0, .int .i64 p1, .int .i64 p2, .int .i64 p3] 72)) := by go_grown
          replace HO := hid (HO.out.later hbx)
          have hB7n : wr.heap.size ≠ g := by have := hC.lt; omega
          replace hC := hC.later hbx
          replace hbw := grew hbw hbx
          have HB7 : Hid (wr.heap.size ≠ g) := hB7n
          clear s0 s1 s2 s3 hbx
          generalize wr.heap.size = B7 at K7 HB7 ⊢
          generalize wr.alloc (.cells #[.int .i64 p0, .int .i64 p1, .int .i64 p2, .int .i64 p3] 72) = wa at K7 HO hC hbw ⊢
          go_wp2
          apply wp_label
          go_wp2
          clear hw1
          go_loopw [5, 8] (fun o jj wr => ∃ (m : Nat) (vs : List Value), i + 1 + m ≤ l.length ∧ jj = .int .i64 ((i + 1 + m : Nat) : Int) ∧ OwnIS (g + 1) o (acTo l i ++ acRow l i m) vs wr ∧ Cor l l.length g wr ∧ Box4 wr B7 p0 p1 p2 p3 ∧ Below w.heap.size w wr) (fun _ jj _ => l.length - (intOf jj).toNat)
          case atStart => exact ⟨0, vs, by omega, by first | rfl | go_num, HO.out, hC, K7, hbw⟩
          case round =>
            clear HO hC K7 hbw HN0
            obtain ⟨m, vs2, hm, rfl, hO, hC, K7, hbw⟩ := hrel
            obtain ⟨a4, c4, hv4⟩ := hO.shape
            subst hv4
            have hvl : vs2.length = (acTo l i ++ acRow l i m).length := hO.len
            have HO := hid hO
            have HF := hid (ac_few H60.out (i := i) (m := m) (by omega) (by omega))
            clear hO
            obtain ⟨j, hj⟩ : ∃ j, i + 1 + m = j := ⟨_, rfl⟩
            rw [hj]
            by_cases hml : j < l.length
            · have FY := fun e => acRow_yes (h := l) (i := i) (m := m) e
              have FN := fun e => acRow_no (h := l) (i := i) (m := m) e
              rw [hj] at FY FN
              have HFY := hid FY
              have HFN := hid FN
              clear FY FN
              have HJ := hid hj
              clear hj
              obtain ⟨L, hL⟩ : ∃ L, acTo l i ++ acRow l i m = L := ⟨_, rfl⟩
              rw [hL] at HO HF hvl ⊢
              have HL := hid hL
              clear hL
              have j2 : (0 : Int) ≤ (j : Int) := by omega
              have j3 : (j : Int) < (l.length : Int) := by omega
              have hd : decide ((j : Int) < (l.length : Int)) = true := decide_eq_true j3
              obtain ⟨⟨p4, p5⟩, e3⟩ : ∃ e, sidE l j = e := ⟨_, rfl⟩
              obtain ⟨⟨p6, p7⟩, e4⟩ : ∃ e, sid l j = e := ⟨_, rfl⟩
              obtain ⟨⟨k0, k1⟩, e5⟩ : ∃ e, ng (p4, p5) = e := ⟨_, rfl⟩
              obtain ⟨⟨k2, k3⟩, e6⟩ : ∃ e, ng (p6, p7) = e := ⟨_, rfl⟩
              have HDE : Hid (dirB (p4, p5)) := e3 ▸ sidE_dir HG.out h0 j
              have HDB : Hid (dirB (p6, p7)) := e4 ▸ sid_dir HG.out h0 hml
              have DI : dirB (p0, p1) ∧ dirB (p2, p3) := ⟨HE1.out ▸ sidE_dir HG.out h0 i, HE2.out ▸ sid_dir HG.out h0 hil⟩
              have DJ : dirB (p4, p5) ∧ dirB (p6, p7) := ⟨HDE.out, HDB.out⟩
              have HDIR := hid (⟨DI.1, DI.2, e5 ▸ HDE.out.ng, e6 ▸ HDB.out.ng⟩ : dirB (p0, p1) ∧ dirB (p2, p3) ∧ dirB (k0, k1) ∧ dirB (k2, k3))
              have HNE := hid e5
              have HNB := hid e6
              have HACQ : Hid (∀ q, acQ (p0, p1) (p2, p3) (p4, p5) (p6, p7) q = acI (p0, p1) (p2, p3) (p4, p5) (p6, p7) (pt [(p0, p1), (p2, p3), (k0, k1), (k2, k3)] q)) := fun q => by unfold acQ; rw [HNE.out, HNB.out]
              have HAB : Hid (fourI (p0, p1) (p2, p3) (p4, p5) (p6, p7) = acB l i j) := by show _ = _; unfold acB; rw [HE1.out, HE2.out, e3, e4]
              have HSE := hid e3
              have HSB := hid e4
              obtain ⟨n0, n1, n2, n3⟩ := hC.cells hml
              rw [e3] at n0 n1
              rw [e4] at n2 n3
              have o0 := K7.c0
              have o1 := K7.c1
              have o2 := K7.c2
              have o3 := K7.c3
              clear e3 e4 e5 e6
              go_upto_region 11 with fail
              refine wp_region_held_drew (S := (fun u => Below wr.heap.size wr u)) (by kernel_rfl) ?_ (fun hHeld => ?_)
              · exact (Below.refl _ _).drew
              refine wpAnyH_take (i := 0) (oi := { dst := some 36, op := Op.load 72 (Operand.tmp 7), type := 72, pos := "l10_pairs.go:55", after := #[], guard := none }) (v := ?v2yx0) rfl (by kernel_rfl) (by kernel_rfl) (by kernel_rfl) (fun _ _ _ h => h) (Or.inl ⟨by rfl, ?hy2yx0⟩) (by with_reducible assumption) ?rest2yx0
              case hy2yx0 => (intro wS hSw; (try dsimp only at hSw); have z0 := cell_later hSw o0; have z1 := cell_later hSw o1; have z2 := cell_later hSw o2; have z3 := cell_later hSw o3; have z4 := cell_later hSw n0; have z5 := cell_later hSw n1; have z6 := cell_later hSw n2; have z7 := cell_later hSw n3; clear hSw; go_simp; try with_reducible rfl)
              case' rest2yx0 => (try simp only [Act.put, List.setIfInBounds_toArray, List.set_cons_zero, List.set_cons_succ])
              refine wpAnyH_take (i := 1) (oi := { dst := some 37, op := Op.move (Operand.tmp 4), type := 69, pos := "l10_pairs.go:55", after := #[], guard := none }) (v := ?v3yx1) rfl (by kernel_rfl) (by kernel_rfl) (by kernel_rfl) (fun _ _ _ h => h) (Or.inl ⟨by rfl, ?hy3yx1⟩) (by with_reducible assumption) ?rest3yx1
              case hy3yx1 => (intro wS hSw; (try dsimp only at hSw); have z0 := cell_later hSw o0; have z1 := cell_later hSw o1; have z2 := cell_later hSw o2; have z3 := cell_later hSw o3; have z4 := cell_later hSw n0; have z5 := cell_later hSw n1; have z6 := cell_later hSw n2; have z7 := cell_later hSw n3; clear hSw; go_simp; try with_reducible rfl)
              case' rest3yx1 => (try simp only [Act.put, List.setIfInBounds_toArray, List.set_cons_zero, List.set_cons_succ])
              refine wpAnyH_take (i := 2) (oi := { dst := some 38, op := Op.move (Operand.tmp 8), type := 3, pos := "l10_pairs.go:55", after := #[], guard := none }) (v := ?v4yx2) rfl (by kernel_rfl) (by kernel_rfl) (by kernel_rfl) (fun _ _ _ h => h) (Or.inl ⟨by rfl, ?hy4yx2⟩) (by with_reducible assumption) ?rest4yx2
              case hy4yx2 => (intro wS hSw; (try dsimp only at hSw); have z0 := cell_later hSw o0; have z1 := cell_later hSw o1; have z2 := cell_later hSw o2; have z3 := cell_later hSw o3; have z4 := cell_later hSw n0; have z5 := cell_later hSw n1; have z6 := cell_later hSw n2; have z7 := cell_later hSw n3; clear hSw; go_simp; try with_reducible rfl)
              case' rest4yx2 => (try simp only [Act.put, List.setIfInBounds_toArray, List.set_cons_zero, List.set_cons_succ])
              refine wpAnyH_take (i := 3) (oi := { dst := some 39, op := Op.indexAddr 69 (Operand.tmp 37) (Operand.tmp 38), type := 0, pos := "l10_pairs.go:55", after := #[{ on := 1, ground := Ground.data }, { on := 2, ground := Ground.data }], guard := none }) (v := ?v5yx3) rfl (by kernel_rfl) (by kernel_rfl) (by kernel_rfl) (fun _ _ _ h => h) (Or.inl ⟨by rfl, ?hy5yx3⟩) (by with_reducible assumption) ?rest5yx3
              case hy5yx3 => (intro wS hSw; (try dsimp only at hSw); have z0 := cell_later hSw o0; have z1 := cell_later hSw o1; have z2 := cell_later hSw o2; have z3 := cell_later hSw o3; have z4 := cell_later hSw n0; have z5 := cell_later hSw n1; have z6 := cell_later hSw n2; have z7 := cell_later hSw n3; clear hSw; go_simp; try with_reducible rfl)
              case' rest5yx3 => (try simp only [Act.put, List.setIfInBounds_toArray, List.set_cons_zero, List.set_cons_succ])
              refine wpAnyH_take (i := 4) (oi := { dst := some 40, op := Op.load 72 (Operand.tmp 39), type := 72, pos := "l10_pairs.go:55", after := #[{ on := 3, ground := Ground.data }], guard := none }) (v := ?v6yx4) rfl (by kernel_rfl) (by kernel_rfl) (by kernel_rfl) (fun _ _ _ h => h) (Or.inl ⟨by rfl, ?hy6yx4⟩) (by with_reducible assumption) ?rest6yx4
              case hy6yx4 => (intro wS hSw; (try dsimp only at hSw); have z0 := cell_later hSw o0; have z1 := cell_later hSw o1; have z2 := cell_later hSw o2; have z3 := cell_later hSw o3; have z4 := cell_later hSw n0; have z5 := cell_later hSw n1; have z6 := cell_later hSw n2; have z7 := cell_later hSw n3; clear hSw; go_simp; try with_reducible rfl)
              case' rest6yx4 => (try simp only [Act.put, List.setIfInBounds_toArray, List.set_cons_zero, List.set_cons_succ])
              refine wpAnyH_take (i := 6) (oi := { dst := some 42, op := Op.move (Operand.const (Value.int IntKind.i64 0)), type := 3, pos := "l10_pairs.go:55", after := #[], guard := none }) (v := ?v7yx6) rfl (by kernel_rfl) (by kernel_rfl) (by kernel_rfl) (fun _ _ _ h => h) (Or.inl ⟨by rfl, ?hy7yx6⟩) (by with_reducible assumption) ?rest7yx6
              case hy7yx6 => (intro wS hSw; (try dsimp only at hSw); have z0 := cell_later hSw o0; have z1 := cell_later hSw o1; have z2 := cell_later hSw o2; have z3 := cell_later hSw o3; have z4 := cell_later hSw n0; have z5 := cell_later hSw n1; have z6 := cell_later hSw n2; have z7 := cell_later hSw n3; clear hSw; go_simp; try with_reducible rfl)
              case' rest7yx6 => (try simp only [Act.put, List.setIfInBounds_toArray, List.set_cons_zero, List.set_cons_succ])
              refine wpAnyH_ready (rs := [5]) (by kernel_rfl) (by simp) ?_
              refine AllReadyH.cons (o := { dst := some 41, op := Op.call { callee := Callee.value (Operand.func 58), args := #[Operand.tmp 36, Operand.tmp 40], argTypes := #[72, 72] }, type := 73, pos := "l10_pairs.go:55", after := #[{ on := 0, ground := Ground.data }, { on := 4, ground := Ground.data }], guard := none }) rfl (fun K hK => ?_) AllReadyH.nil
              go_simp
              refine (waysTo_q _ _ _ _ _ _ _ _ _ _ _ _ _ HDE.out HDB.out HNE.out HNB.out).mono ?_
              rintro e w5 ⟨rfl, hb5⟩
              go_wp2_with fail
              refine hK.out _ _ ?_ (fun hHeld => ?_)
              · exact grew (by with_reducible assumption) hb5
              clear hK K
              try simp only [Act.put, List.setIfInBounds_toArray, List.set_cons_zero, List.set_cons_succ]
              refine wpAnyH_done (by kernel_rfl) ?_ _
              have hbm : Below wr.heap.size wr w5 := (by with_reducible assumption)
              replace HO := hid (HO.out.later hbm)
              replace hC := hC.later hbm
              replace K7 := K7.later hbm
              replace hbw := grew hbw hbm
              clear hbm hb5 hHeld o0 o1 o2 o3 n0 n1 n2 n3
              have HBM := hid hbw
              clear hbw
              go_wp2
              go_loopw [5, 42] (fun o q wr => ∃ k : Nat, k ≤ 4 ∧ o = .slice a4 L.length c4 ∧ q = .int .i64 k ∧ (∀ m, m < k → acQ (p0, p1) (p2, p3) (p4, p5) (p6, p7) m = false) ∧ Cor l l.length g wr ∧ Box4 wr B7 p0 p1 p2 p3 ∧ Below w5.heap.size w5 wr) (fun _ q _ => 4 - (intOf q).toNat)
              case atStart => exact ⟨0, by omega, rfl, rfl, fun m hm => absurd hm (Nat.not_lt_zero _), hC, K7, Below.refl _ _⟩
              case round =>
                clear hC K7
                obtain ⟨k, hk, rfl, rfl, hno, HCr, K7, hbq⟩ := hrel
                have HNO := hid hno
                clear hno
                by_cases hk4 : k < 4
                · rcases (by omega : k = 0 ∨ k = 1 ∨ k = 2 ∨ k = 3) with rfl | rfl | rfl | rfl
                  · have hidx := idx0 p0 p1 p2 p3 k0 k1 k2 k3
                    obtain ⟨⟨nn0, nn1⟩, hnn⟩ : ∃ n, ng (p0, p1) = n := ⟨_, rfl⟩
                    have HN := hid hnn
                    have DD : dirB (p0, p1) := HDIR.out.1
                    have DN : dirB (nn0, nn1) := hnn ▸ DD.ng
                    obtain ⟨c1, hc1⟩ : ∃ c, hldI (p0, p1) (p2, p3) (p0, p1) = c := ⟨_, rfl⟩
                    obtain ⟨c2, hc2⟩ : ∃ c, hldI (p4, p5) (p6, p7) (nn0, nn1) = c := ⟨_, rfl⟩
                    have HC1 := hid hc1
                    have HC2 := hid hc2
                    have HAC : Hid (acQ (p0, p1) (p2, p3) (p4, p5) (p6, p7) 0 = (c1 && c2)) := by
                      show acQ _ _ _ _ _ = _
                      rw [HACQ.out 0]
                      show acI (p0, p1) (p2, p3) (p4, p5) (p6, p7) (p0, p1) = _
                      unfold acI; rw [hnn, hc1, hc2]
                    clear hc1 hc2 hnn
                    have K10 := BoxP.new wr p0 p1
                    have hbx : Below wr.heap.size wr (wr.alloc (.cells #[.int .i64 p0, .int .i64 p1] 26)) := by go_grown
                    go_upto_region 14 with fail
                    replace K7 := K7.later hbx
                    replace HCr := HCr.later hbx
                    replace hbq := grew hbq hbx
                    clear hbx
                    generalize wr.heap.size = B10 at K10 ⊢
                    generalize wr.alloc (.cells #[.int .i64 p0, .int .i64 p1] 26) = wp at K7 K10 HCr hbq ⊢
                    have x0 := K7.c0
                    have x1 := K7.c1
                    have x2 := K7.c2
                    have x3 := K7.c3
                    have y0 := K10.c0
                    have y1 := K10.c1
                    obtain ⟨z0c, z1c, z2c, z3c⟩ := HCr.cells hml
                    rw [HSE.out] at z0c z1c
                    rw [HSB.out] at z2c z3c
                    cases c1
                    · refine wp_region_held_drew (S := (fun u => Below wp.heap.size wp u)) (by kernel_rfl) ?_ (fun hHeld => ?_)
                      · exact (Below.refl _ _).drew
                      refine wpAnyH_take (i := 0) (oi := { dst := some 45, op := Op.load 72 (Operand.tmp 7), type := 72, pos := "l10_pairs.go:56", after := #[], guard := none }) (v := ?v9yx0) rfl (by kernel_rfl) (by kernel_rfl) (by kernel_rfl) (fun _ _ _ h => h) (Or.inl ⟨by rfl, ?hy9yx0⟩) (by with_reducible assumption) ?rest9yx0
                      case hy9yx0 => (intro wS hSw; (try dsimp only at hSw); have z0 := cell_later hSw x0; have z1 := cell_later hSw x1; have z2 := cell_later hSw x2; have z3 := cell_later hSw x3; have z4 := cell_later hSw y0; have z5 := cell_later hSw y1; have z6 := cell_later hSw z0c; have z7 := cell_later hSw z1c; have z8 := cell_later hSw z2c; have z9 := cell_later hSw z3c; clear hSw; go_simp; try with_reducible rfl)
                      case' rest9yx0 => (try simp only [Act.put, List.setIfInBounds_toArray, List.set_cons_zero, List.set_cons_succ])
                      refine wpAnyH_take (i := 1) (oi := { dst := some 46, op := Op.load 26 (Operand.tmp 10), type := 26, pos := "l10_pairs.go:56", after := #[], guard := none }) (v := ?v10yx1) rfl (by kernel_rfl) (by kernel_rfl) (by kernel_rfl) (fun _ _ _ h => h) (Or.inl ⟨by rfl, ?hy10yx1⟩) (by with_reducible assumption) ?rest10yx1
                      case hy10yx1 => (intro wS hSw; (try dsimp only at hSw); have z0 := cell_later hSw x0; have z1 := cell_later hSw x1; have z2 := cell_later hSw x2; have z3 := cell_later hSw x3; have z4 := cell_later hSw y0; have z5 := cell_later hSw y1; have z6 := cell_later hSw z0c; have z7 := cell_later hSw z1c; have z8 := cell_later hSw z2c; have z9 := cell_later hSw z3c; clear hSw; go_simp; try with_reducible rfl)
                      case' rest10yx1 => (try simp only [Act.put, List.setIfInBounds_toArray, List.set_cons_zero, List.set_cons_succ])
                      refine wpAnyH_ready (rs := [2]) (by kernel_rfl) (by simp) ?_
                      refine AllReadyH.cons (o := { dst := some 47, op := Op.call { callee := Callee.value (Operand.func 59), args := #[Operand.tmp 45, Operand.tmp 46], argTypes := #[72, 26] }, type := 4, pos := "l10_pairs.go:56", after := #[{ on := 0, ground := Ground.data }, { on := 1, ground := Ground.data }], guard := none }) rfl (fun K hK => ?_) AllReadyH.nil
                      go_simp
                      refine (holdsI_q _ _ _ _ _ _ _ _ DI.1 DI.2 DD HC1.out).mono ?_
                      rintro e u2 ⟨rfl, hbu2⟩
                      go_wp2_with fail
                      refine hK.out _ _ ?_ (fun hHeld => ?_)
                      · exact grew (by with_reducible assumption) hbu2
                      clear hK K
                      try simp only [Act.put, List.setIfInBounds_toArray, List.set_cons_zero, List.set_cons_succ]
                      refine wpAnyH_take (i := 3) (oi := { dst := some 48, op := Op.move (Operand.tmp 47), type := 4, pos := "l10_pairs.go:56", after := #[{ on := 2, ground := Ground.data }, { on := 2, ground := Ground.chain }], guard := none }) (v := ?v11yx3) rfl (by kernel_rfl) (by kernel_rfl) (by kernel_rfl) (fun _ _ _ h => h) (Or.inl ⟨by rfl, ?hy11yx3⟩) (by with_reducible assumption) ?rest11yx3
                      case hy11yx3 => (intro wS hSw; (try dsimp only at hSw); have z0 := cell_later hSw x0; have z1 := cell_later hSw x1; have z2 := cell_later hSw x2; have z3 := cell_later hSw x3; have z4 := cell_later hSw y0; have z5 := cell_later hSw y1; have z6 := cell_later hSw z0c; have z7 := cell_later hSw z1c; have z8 := cell_later hSw z2c; have z9 := cell_later hSw z3c; clear hSw; go_simp; try with_reducible rfl)
                      case' rest11yx3 => (try simp only [Act.put, List.setIfInBounds_toArray, List.set_cons_zero, List.set_cons_succ])
                      refine wpAnyH_take (i := 4) (oi := { dst := some 49, op := Op.move (Operand.tmp 4), type := 69, pos := "l10_pairs.go:56", after := #[{ on := 3, ground := Ground.guard }], guard := some (3, true) }) (v := undef) rfl (by kernel_rfl) (by kernel_rfl) (by kernel_rfl) (fun _ _ _ h => h) (Or.inr ⟨by rfl, rfl⟩) (by with_reducible assumption) ?rest12sx4
                      case' rest12sx4 => (try simp only [Act.put, List.setIfInBounds_toArray, List.set_cons_zero, List.set_cons_succ])
                      refine wpAnyH_take (i := 5) (oi := { dst := some 50, op := Op.move (Operand.tmp 8), type := 3, pos := "l10_pairs.go:56", after := #[{ on := 3, ground := Ground.guard }], guard := some (3, true) }) (v := undef) rfl (by kernel_rfl) (by kernel_rfl) (by kernel_rfl) (fun _ _ _ h => h) (Or.inr ⟨by rfl, rfl⟩) (by with_reducible assumption) ?rest13sx5
                      case' rest13sx5 => (try simp only [Act.put, List.setIfInBounds_toArray, List.set_cons_zero, List.set_cons_succ])
                      refine wpAnyH_take (i := 6) (oi := { dst := some 51, op := Op.indexAddr 69 (Operand.tmp 49) (Operand.tmp 50), type := 0, pos := "l10_pairs.go:56", after := #[{ on := 4, ground := Ground.data }, { on := 5, ground := Ground.data }, { on := 3, ground := Ground.guard }], guard := some (3, true) }) (v := undef) rfl (by kernel_rfl) (by kernel_rfl) (by kernel_rfl) (fun _ _ _ h => h) (Or.inr ⟨by rfl, rfl⟩) (by with_reducible assumption) ?rest14sx6
                      case' rest14sx6 => (try simp only [Act.put, List.setIfInBounds_toArray, List.set_cons_zero, List.set_cons_succ])
                      refine wpAnyH_take (i := 7) (oi := { dst := some 52, op := Op.load 72 (Operand.tmp 51), type := 72, pos := "l10_pairs.go:56", after := #[{ on := 6, ground := Ground.data }, { on := 3, ground := Ground.guard }], guard := some (3, true) }) (v := undef) rfl (by kernel_rfl) (by kernel_rfl) (by kernel_rfl) (fun _ _ _ h => h) (Or.inr ⟨by rfl, rfl⟩) (by with_reducible assumption) ?rest15sx7
                      case' rest15sx7 => (try simp only [Act.put, List.setIfInBounds_toArray, List.set_cons_zero, List.set_cons_succ])
                      refine wpAnyH_take (i := 8) (oi := { dst := some 53, op := Op.load 26 (Operand.tmp 10), type := 26, pos := "l10_pairs.go:56", after := #[{ on := 3, ground := Ground.guard }], guard := some (3, true) }) (v := undef) rfl (by kernel_rfl) (by kernel_rfl) (by kernel_rfl) (fun _ _ _ h => h) (Or.inr ⟨by rfl, rfl⟩) (by with_reducible assumption) ?rest16sx8
                      case' rest16sx8 => (try simp only [Act.put, List.setIfInBounds_toArray, List.set_cons_zero, List.set_cons_succ])
                      refine wpAnyH_take (i := 9) (oi := { dst := some 54, op := Op.call { callee := Callee.value (Operand.func 60), args := #[Operand.tmp 53], argTypes := #[26] }, type := 26, pos := "l10_pairs.go:56", after := #[{ on := 8, ground := Ground.data }, { on := 3, ground := Ground.chain }, { on := 3, ground := Ground.guard }], guard := some (3, true) }) (v := undef) rfl (by kernel_rfl) (by kernel_rfl) (by kernel_rfl) (fun _ _ _ h => h) (Or.inr ⟨by rfl, rfl⟩) (by with_reducible assumption) ?rest17sx9
                      case' rest17sx9 => (try simp only [Act.put, List.setIfInBounds_toArray, List.set_cons_zero, List.set_cons_succ])
                      refine wpAnyH_take (i := 10) (oi := { dst := some 55, op := Op.call { callee := Callee.value (Operand.func 59), args := #[Operand.tmp 52, Operand.tmp 54], argTypes := #[72, 26] }, type := 4, pos := "l10_pairs.go:56", after := #[{ on := 7, ground := Ground.data }, { on := 9, ground := Ground.data }, { on := 9, ground := Ground.chain }, { on := 3, ground := Ground.guard }], guard := some (3, true) }) (v := undef) rfl (by kernel_rfl) (by kernel_rfl) (by kernel_rfl) (fun _ _ _ h => h) (Or.inr ⟨by rfl, rfl⟩) (by with_reducible assumption) ?rest18sx10
                      case' rest18sx10 => (try simp only [Act.put, List.setIfInBounds_toArray, List.set_cons_zero, List.set_cons_succ])
                      refine wpAnyH_take (i := 11) (oi := { dst := some 56, op := Op.pick (Operand.tmp 48) (Operand.tmp 55) (Operand.const (Value.bool false)), type := 4, pos := "l10_pairs.go:56", after := #[{ on := 3, ground := Ground.data }, { on := 10, ground := Ground.data }], guard := none }) (v := ?v19yx11) rfl (by kernel_rfl) (by kernel_rfl) (by kernel_rfl) (fun _ _ _ h => h) (Or.inl ⟨by rfl, ?hy19yx11⟩) (by with_reducible assumption) ?rest19yx11
                      case hy19yx11 => (intro wS hSw; (try dsimp only at hSw); have z0 := cell_later hSw x0; have z1 := cell_later hSw x1; have z2 := cell_later hSw x2; have z3 := cell_later hSw x3; have z4 := cell_later hSw y0; have z5 := cell_later hSw y1; have z6 := cell_later hSw z0c; have z7 := cell_later hSw z1c; have z8 := cell_later hSw z2c; have z9 := cell_later hSw z3c; clear hSw; go_simp; try with_reducible rfl)
                      case' rest19yx11 => (try simp only [Act.put, List.setIfInBounds_toArray, List.set_cons_zero, List.set_cons_succ])
                      refine wpAnyH_done (by kernel_rfl) ?_ _
                      have hbn : Below wp.heap.size wp u2 := (by with_reducible assumption)
                      clear x0 x1 x2 x3 y0 y1 z0c z1c z2c z3c
                      go_wp2
                      go_roundw
                      case rel => exact ⟨0 + 1, by omega, rfl, by first | rfl | go_num, fun m hm => (by by_cases e : m = 0; (subst e; rw [HAC.out]; rfl); exact HNO.out m (by omega)), HCr.later hbn, K7.later hbn, grew hbq hbn⟩
                      case measure => simp [intOf]
                    · cases c2
                      · refine wp_region_held_drew (S := (fun u => Below wp.heap.size wp u)) (by kernel_rfl) ?_ (fun hHeld => ?_)
                        · exact (Below.refl _ _).drew
                        refine wpAnyH_take (i := 0) (oi := { dst := some 45, op := Op.load 72 (Operand.tmp 7), type := 72, pos := "l10_pairs.go:56", after := #[], guard := none }) (v := ?v21yx0) rfl (by kernel_rfl) (by kernel_rfl) (by kernel_rfl) (fun _ _ _ h => h) (Or.inl ⟨by rfl, ?hy21yx0⟩) (by with_reducible assumption) ?rest21yx0
                        case hy21yx0 => (intro wS hSw; (try dsimp only at hSw); have z0 := cell_later hSw x0; have z1 := cell_later hSw x1; have z2 := cell_later hSw x2; have z3 := cell_later hSw x3; have z4 := cell_later hSw y0; have z5 := cell_later hSw y1; have z6 := cell_later hSw z0c; have z7 := cell_later hSw z1c; have z8 := cell_later hSw z2c; have z9 := cell_later hSw z3c; clear hSw; go_simp; try with_reducible rfl)
                        case' rest21yx0 => (try simp only [Act.put, List.setIfInBounds_toArray, List.set_cons_zero, List.set_cons_succ])
                        refine wpAnyH_take (i := 1) (oi := { dst := some 46, op := Op.load 26 (Operand.tmp 10), type := 26, pos := "l10_pairs.go:56", after := #[], guard := none }) (v := ?v22yx1) rfl (by kernel_rfl) (by kernel_rfl) (by kernel_rfl) (fun _ _ _ h => h) (Or.inl ⟨by rfl, ?hy22yx1⟩) (by with_reducible assumption) ?rest22yx1
                        case hy22yx1 => (intro wS hSw; (try dsimp only at hSw); have z0 := cell_later hSw x0; have z1 := cell_later hSw x1; have z2 := cell_later hSw x2; have z3 := cell_later hSw x3; have z4 := cell_later hSw y0; have z5 := cell_later hSw y1; have z6 := cell_later hSw z0c; have z7 := cell_later hSw z1c; have z8 := cell_later hSw z2c; have z9 := cell_later hSw z3c; clear hSw; go_simp; try with_reducible rfl)
                        case' rest22yx1 => (try simp only [Act.put, List.setIfInBounds_toArray, List.set_cons_zero, List.set_cons_succ])
                        refine wpAnyH_ready (rs := [2]) (by kernel_rfl) (by simp) ?_
                        refine AllReadyH.cons (o := { dst := some 47, op := Op.call { callee := Callee.value (Operand.func 59), args := #[Operand.tmp 45, Operand.tmp 46], argTypes := #[72, 26] }, type := 4, pos := "l10_pairs.go:56", after := #[{ on := 0, ground := Ground.data }, { on := 1, ground := Ground.data }], guard := none }) rfl (fun K hK => ?_) AllReadyH.nil
                        go_simp
                        refine (holdsI_q _ _ _ _ _ _ _ _ DI.1 DI.2 DD HC1.out).mono ?_
                        rintro e u2 ⟨rfl, hbu2⟩
                        go_wp2_with fail
                        refine hK.out _ _ ?_ (fun hHeld => ?_)
                        · exact grew (by with_reducible assumption) hbu2
                        clear hK K
                        try simp only [Act.put, List.setIfInBounds_toArray, List.set_cons_zero, List.set_cons_succ]
                        refine wpAnyH_take (i := 3) (oi := { dst := some 48, op := Op.move (Operand.tmp 47), type := 4, pos := "l10_pairs.go:56", after := #[{ on := 2, ground := Ground.data }, { on := 2, ground := Ground.chain }], guard := none }) (v := ?v23yx3) rfl (by kernel_rfl) (by kernel_rfl) (by kernel_rfl) (fun _ _ _ h => h) (Or.inl ⟨by rfl, ?hy23yx3⟩) (by with_reducible assumption) ?rest23yx3
                        case hy23yx3 => (intro wS hSw; (try dsimp only at hSw); have z0 := cell_later hSw x0; have z1 := cell_later hSw x1; have z2 := cell_later hSw x2; have z3 := cell_later hSw x3; have z4 := cell_later hSw y0; have z5 := cell_later hSw y1; have z6 := cell_later hSw z0c; have z7 := cell_later hSw z1c; have z8 := cell_later hSw z2c; have z9 := cell_later hSw z3c; clear hSw; go_simp; try with_reducible rfl)
                        case' rest23yx3 => (try simp only [Act.put, List.setIfInBounds_toArray, List.set_cons_zero, List.set_cons_succ])
                        refine wpAnyH_take (i := 4) (oi := { dst := some 49, op := Op.move (Operand.tmp 4), type := 69, pos := "l10_pairs.go:56", after := #[{ on := 3, ground := Ground.guard }], guard := some (3, true) }) (v := ?v24yx4) rfl (by kernel_rfl) (by kernel_rfl) (by kernel_rfl) (fun _ _ _ h => h) (Or.inl ⟨by rfl, ?hy24yx4⟩) (by with_reducible assumption) ?rest24yx4
                        case hy24yx4 => (intro wS hSw; (try dsimp only at hSw); have z0 := cell_later hSw x0; have z1 := cell_later hSw x1; have z2 := cell_later hSw x2; have z3 := cell_later hSw x3; have z4 := cell_later hSw y0; have z5 := cell_later hSw y1; have z6 := cell_later hSw z0c; have z7 := cell_later hSw z1c; have z8 := cell_later hSw z2c; have z9 := cell_later hSw z3c; clear hSw; go_simp; try with_reducible rfl)
                        case' rest24yx4 => (try simp only [Act.put, List.setIfInBounds_toArray, List.set_cons_zero, List.set_cons_succ])
                        refine wpAnyH_take (i := 5) (oi := { dst := some 50, op := Op.move (Operand.tmp 8), type := 3, pos := "l10_pairs.go:56", after := #[{ on := 3, ground := Ground.guard }], guard := some (3, true) }) (v := ?v25yx5) rfl (by kernel_rfl) (by kernel_rfl) (by kernel_rfl) (fun _ _ _ h => h) (Or.inl ⟨by rfl, ?hy25yx5⟩) (by with_reducible assumption) ?rest25yx5
                        case hy25yx5 => (intro wS hSw; (try dsimp only at hSw); have z0 := cell_later hSw x0; have z1 := cell_later hSw x1; have z2 := cell_later hSw x2; have z3 := cell_later hSw x3; have z4 := cell_later hSw y0; have z5 := cell_later hSw y1; have z6 := cell_later hSw z0c; have z7 := cell_later hSw z1c; have z8 := cell_later hSw z2c; have z9 := cell_later hSw z3c; clear hSw; go_simp; try with_reducible rfl)
                        case' rest25yx5 => (try simp only [Act.put, List.setIfInBounds_toArray, List.set_cons_zero, List.set_cons_succ])
                        refine wpAnyH_take (i := 6) (oi := { dst := some 51, op := Op.indexAddr 69 (Operand.tmp 49) (Operand.tmp 50), type := 0, pos := "l10_pairs.go:56", after := #[{ on := 4, ground := Ground.data }, { on := 5, ground := Ground.data }, { on := 3, ground := Ground.guard }], guard := some (3, true) }) (v := ?v26yx6) rfl (by kernel_rfl) (by kernel_rfl) (by kernel_rfl) (fun _ _ _ h => h) (Or.inl ⟨by rfl, ?hy26yx6⟩) (by with_reducible assumption) ?rest26yx6
                        case hy26yx6 => (intro wS hSw; (try dsimp only at hSw); have z0 := cell_later hSw x0; have z1 := cell_later hSw x1; have z2 := cell_later hSw x2; have z3 := cell_later hSw x3; have z4 := cell_later hSw y0; have z5 := cell_later hSw y1; have z6 := cell_later hSw z0c; have z7 := cell_later hSw z1c; have z8 := cell_later hSw z2c; have z9 := cell_later hSw z3c; clear hSw; go_simp; try with_reducible rfl)
                        case' rest26yx6 => (try simp only [Act.put, List.setIfInBounds_toArray, List.set_cons_zero, List.set_cons_succ])
                        refine wpAnyH_take (i := 7) (oi := { dst := some 52, op := Op.load 72 (Operand.tmp 51), type := 72, pos := "l10_pairs.go:56", after := #[{ on := 6, ground := Ground.data }, { on := 3, ground := Ground.guard }], guard := some (3, true) }) (v := ?v27yx7) rfl (by kernel_rfl) (by kernel_rfl) (by kernel_rfl) (fun _ _ _ h => h) (Or.inl ⟨by rfl, ?hy27yx7⟩) (by with_reducible assumption) ?rest27yx7
                        case hy27yx7 => (intro wS hSw; (try dsimp only at hSw); have z0 := cell_later hSw x0; have z1 := cell_later hSw x1; have z2 := cell_later hSw x2; have z3 := cell_later hSw x3; have z4 := cell_later hSw y0; have z5 := cell_later hSw y1; have z6 := cell_later hSw z0c; have z7 := cell_later hSw z1c; have z8 := cell_later hSw z2c; have z9 := cell_later hSw z3c; clear hSw; go_simp; try with_reducible rfl)
                        case' rest27yx7 => (try simp only [Act.put, List.setIfInBounds_toArray, List.set_cons_zero, List.set_cons_succ])
                        refine wpAnyH_take (i := 8) (oi := { dst := some 53, op := Op.load 26 (Operand.tmp 10), type := 26, pos := "l10_pairs.go:56", after := #[{ on := 3, ground := Ground.guard }], guard := some (3, true) }) (v := ?v28yx8) rfl (by kernel_rfl) (by kernel_rfl) (by kernel_rfl) (fun _ _ _ h => h) (Or.inl ⟨by rfl, ?hy28yx8⟩) (by with_reducible assumption) ?rest28yx8
                        case hy28yx8 => (intro wS hSw; (try dsimp only at hSw); have z0 := cell_later hSw x0; have z1 := cell_later hSw x1; have z2 := cell_later hSw x2; have z3 := cell_later hSw x3; have z4 := cell_later hSw y0; have z5 := cell_later hSw y1; have z6 := cell_later hSw z0c; have z7 := cell_later hSw z1c; have z8 := cell_later hSw z2c; have z9 := cell_later hSw z3c; clear hSw; go_simp; try with_reducible rfl)
                        case' rest28yx8 => (try simp only [Act.put, List.setIfInBounds_toArray, List.set_cons_zero, List.set_cons_succ])
                        refine wpAnyH_ready (rs := [9]) (by kernel_rfl) (by simp) ?_
                        refine AllReadyH.cons (o := { dst := some 54, op := Op.call { callee := Callee.value (Operand.func 60), args := #[Operand.tmp 53], argTypes := #[26] }, type := 26, pos := "l10_pairs.go:56", after := #[{ on := 8, ground := Ground.data }, { on := 3, ground := Ground.chain }, { on := 3, ground := Ground.guard }], guard := some (3, true) }) rfl (fun K hK => ?_) AllReadyH.nil
                        go_simp
                        refine (opposite_q _ _ _ _ _ DD HN.out).mono ?_
                        rintro e u9 ⟨rfl, hbu9⟩
                        go_wp2_with fail
                        refine hK.out _ _ ?_ (fun hHeld => ?_)
                        · exact grew (by with_reducible assumption) hbu9
                        clear hK K
                        try simp only [Act.put, List.setIfInBounds_toArray, List.set_cons_zero, List.set_cons_succ]
                        refine wpAnyH_ready (rs := [10]) (by kernel_rfl) (by simp) ?_
                        refine AllReadyH.cons (o := { dst := some 55, op := Op.call { callee := Callee.value (Operand.func 59), args := #[Operand.tmp 52, Operand.tmp 54], argTypes := #[72, 26] }, type := 4, pos := "l10_pairs.go:56", after := #[{ on := 7, ground := Ground.data }, { on := 9, ground := Ground.data }, { on := 9, ground := Ground.chain }, { on := 3, ground := Ground.guard }], guard := some (3, true) }) rfl (fun K hK => ?_) AllReadyH.nil
                        go_simp
                        refine (holdsI_q _ _ _ _ _ _ _ _ DJ.1 DJ.2 DN HC2.out).mono ?_
                        rintro e u10 ⟨rfl, hbu10⟩
                        go_wp2_with fail
                        refine hK.out _ _ ?_ (fun hHeld => ?_)
                        · exact grew (by with_reducible assumption) hbu10
                        clear hK K
                        try simp only [Act.put, List.setIfInBounds_toArray, List.set_cons_zero, List.set_cons_succ]
                        refine wpAnyH_take (i := 11) (oi := { dst := some 56, op := Op.pick (Operand.tmp 48) (Operand.tmp 55) (Operand.const (Value.bool false)), type := 4, pos := "l10_pairs.go:56", after := #[{ on := 3, ground := Ground.data }, { on := 10, ground := Ground.data }], guard := none }) (v := ?v29yx11) rfl (by kernel_rfl) (by kernel_rfl) (by kernel_rfl) (fun _ _ _ h => h) (Or.inl ⟨by rfl, ?hy29yx11⟩) (by with_reducible assumption) ?rest29yx11
                        case hy29yx11 => (intro wS hSw; (try dsimp only at hSw); have z0 := cell_later hSw x0; have z1 := cell_later hSw x1; have z2 := cell_later hSw x2; have z3 := cell_later hSw x3; have z4 := cell_later hSw y0; have z5 := cell_later hSw y1; have z6 := cell_later hSw z0c; have z7 := cell_later hSw z1c; have z8 := cell_later hSw z2c; have z9 := cell_later hSw z3c; clear hSw; go_simp; try with_reducible rfl)
                        case' rest29yx11 => (try simp only [Act.put, List.setIfInBounds_toArray, List.set_cons_zero, List.set_cons_succ])
                        refine wpAnyH_done (by kernel_rfl) ?_ _
                        have hbn : Below wp.heap.size wp u10 := (by with_reducible assumption)
                        clear x0 x1 x2 x3 y0 y1 z0c z1c z2c z3c
                        go_wp2
                        go_roundw
                        case rel => exact ⟨0 + 1, by omega, rfl, by first | rfl | go_num, fun m hm => (by by_cases e : m = 0; (subst e; rw [HAC.out]; rfl); exact HNO.out m (by omega)), HCr.later hbn, K7.later hbn, grew hbq hbn⟩
                        case measure => simp [intOf]
                      · refine wp_region_held_drew (S := (fun u => Below wp.heap.size wp u)) (by kernel_rfl) ?_ (fun hHeld => ?_)
                        · exact (Below.refl _ _).drew
                        refine wpAnyH_take (i := 0) (oi := { dst := some 45, op := Op.load 72 (Operand.tmp 7), type := 72, pos := "l10_pairs.go:56", after := #[], guard := none }) (v := ?v31yx0) rfl (by kernel_rfl) (by kernel_rfl) (by kernel_rfl) (fun _ _ _ h => h) (Or.inl ⟨by rfl, ?hy31yx0⟩) (by with_reducible assumption) ?rest31yx0
                        case hy31yx0 => (intro wS hSw; (try dsimp only at hSw); have z0 := cell_later hSw x0; have z1 := cell_later hSw x1; have z2 := cell_later hSw x2; have z3 := cell_later hSw x3; have z4 := cell_later hSw y0; have z5 := cell_later hSw y1; have z6 := cell_later hSw z0c; have z7 := cell_later hSw z1c; have z8 := cell_later hSw z2c; have z9 := cell_later hSw z3c; clear hSw; go_simp; try with_reducible rfl)
                        case' rest31yx0 => (try simp only [Act.put, List.setIfInBounds_toArray, List.set_cons_zero, List.set_cons_succ])
                        refine wpAnyH_take (i := 1) (oi := { dst := some 46, op := Op.load 26 (Operand.tmp 10), type := 26, pos := "l10_pairs.go:56", after := #[], guard := none }) (v := ?v32yx1) rfl (by kernel_rfl) (by kernel_rfl) (by kernel_rfl) (fun _ _ _ h => h) (Or.inl ⟨by rfl, ?hy32yx1⟩) (by with_reducible assumption) ?rest32yx1
                        case hy32yx1 => (intro wS hSw; (try dsimp only at hSw); have z0 := cell_later hSw x0; have z1 := cell_later hSw x1; have z2 := cell_later hSw x2; have z3 := cell_later hSw x3; have z4 := cell_later hSw y0; have z5 := cell_later hSw y1; have z6 := cell_later hSw z0c; have z7 := cell_later hSw z1c; have z8 := cell_later hSw z2c; have z9 := cell_later hSw z3c; clear hSw; go_simp; try with_reducible rfl)
                        case' rest32yx1 => (try simp only [Act.put, List.setIfInBounds_toArray, List.set_cons_zero, List.set_cons_succ])
                        refine wpAnyH_ready (rs := [2]) (by kernel_rfl) (by simp) ?_
                        refine AllReadyH.cons (o := { dst := some 47, op := Op.call { callee := Callee.value (Operand.func 59), args := #[Operand.tmp 45, Operand.tmp 46], argTypes := #[72, 26] }, type := 4, pos := "l10_pairs.go:56", after := #[{ on := 0, ground := Ground.data }, { on := 1, ground := Ground.data }], guard := none }) rfl (fun K hK => ?_) AllReadyH.nil
                        go_simp
                        refine (holdsI_q _ _ _ _ _ _ _ _ DI.1 DI.2 DD HC1.out).mono ?_
                        rintro e u2 ⟨rfl, hbu2⟩
                        go_wp2_with fail
                        refine hK.out _ _ ?_ (fun hHeld => ?_)
                        · exact grew (by with_reducible assumption) hbu2
                        clear hK K
                        try simp only [Act.put, List.setIfInBounds_toArray, List.set_cons_zero, List.set_cons_succ]
                        refine wpAnyH_take (i := 3) (oi := { dst := some 48, op := Op.move (Operand.tmp 47), type := 4, pos := "l10_pairs.go:56", after := #[{ on := 2, ground := Ground.data }, { on := 2, ground := Ground.chain }], guard := none }) (v := ?v33yx3) rfl (by kernel_rfl) (by kernel_rfl) (by kernel_rfl) (fun _ _ _ h => h) (Or.inl ⟨by rfl, ?hy33yx3⟩) (by with_reducible assumption) ?rest33yx3
                        case hy33yx3 => (intro wS hSw; (try dsimp only at hSw); have z0 := cell_later hSw x0; have z1 := cell_later hSw x1; have z2 := cell_later hSw x2; have z3 := cell_later hSw x3; have z4 := cell_later hSw y0; have z5 := cell_later hSw y1; have z6 := cell_later hSw z0c; have z7 := cell_later hSw z1c; have z8 := cell_later hSw z2c; have z9 := cell_later hSw z3c; clear hSw; go_simp; try with_reducible rfl)
                        case' rest33yx3 => (try simp only [Act.put, List.setIfInBounds_toArray, List.set_cons_zero, List.set_cons_succ])
                        refine wpAnyH_take (i := 4) (oi := { dst := some 49, op := Op.move (Operand.tmp 4), type := 69, pos := "l10_pairs.go:56", after := #[{ on := 3, ground := Ground.guard }], guard := some (3, true) }) (v := ?v34yx4) rfl (by kernel_rfl) (by kernel_rfl) (by kernel_rfl) (fun _ _ _ h => h) (Or.inl ⟨by rfl, ?hy34yx4⟩) (by with_reducible assumption) ?rest34yx4
                        case hy34yx4 => (intro wS hSw; (try dsimp only at hSw); have z0 := cell_later hSw x0; have z1 := cell_later hSw x1; have z2 := cell_later hSw x2; have z3 := cell_later hSw x3; have z4 := cell_later hSw y0; have z5 := cell_later hSw y1; have z6 := cell_later hSw z0c; have z7 := cell_later hSw z1c; have z8 := cell_later hSw z2c; have z9 := cell_later hSw z3c; clear hSw; go_simp; try with_reducible rfl)
                        case' rest34yx4 => (try simp only [Act.put, List.setIfInBounds_toArray, List.set_cons_zero, List.set_cons_succ])
                        refine wpAnyH_take (i := 5) (oi := { dst := some 50, op := Op.move (Operand.tmp 8), type := 3, pos := "l10_pairs.go:56", after := #[{ on := 3, ground := Ground.guard }], guard := some (3, true) }) (v := ?v35yx5) rfl (by kernel_rfl) (by kernel_rfl) (by kernel_rfl) (fun _ _ _ h => h) (Or.inl ⟨by rfl, ?hy35yx5⟩) (by with_reducible assumption) ?rest35yx5
                        case hy35yx5 => (intro wS hSw; (try dsimp only at hSw); have z0 := cell_later hSw x0; have z1 := cell_later hSw x1; have z2 := cell_later hSw x2; have z3 := cell_later hSw x3; have z4 := cell_later hSw y0; have z5 := cell_later hSw y1; have z6 := cell_later hSw z0c; have z7 := cell_later hSw z1c; have z8 := cell_later hSw z2c; have z9 := cell_later hSw z3c; clear hSw; go_simp; try with_reducible rfl)
                        case' rest35yx5 => (try simp only [Act.put, List.setIfInBounds_toArray, List.set_cons_zero, List.set_cons_succ])
                        refine wpAnyH_take (i := 6) (oi := { dst := some 51, op := Op.indexAddr 69 (Operand.tmp 49) (Operand.tmp 50), type := 0, pos := "l10_pairs.go:56", after := #[{ on := 4, ground := Ground.data }, { on := 5, ground := Ground.data }, { on := 3, ground := Ground.guard }], guard := some (3, true) }) (v := ?v36yx6) rfl (by kernel_rfl) (by kernel_rfl) (by kernel_rfl) (fun _ _ _ h => h) (Or.inl ⟨by rfl, ?hy36yx6⟩) (by with_reducible assumption) ?rest36yx6
                        case hy36yx6 => (intro wS hSw; (try dsimp only at hSw); have z0 := cell_later hSw x0; have z1 := cell_later hSw x1; have z2 := cell_later hSw x2; have z3 := cell_later hSw x3; have z4 := cell_later hSw y0; have z5 := cell_later hSw y1; have z6 := cell_later hSw z0c; have z7 := cell_later hSw z1c; have z8 := cell_later hSw z2c; have z9 := cell_later hSw z3c; clear hSw; go_simp; try with_reducible rfl)
                        case' rest36yx6 => (try simp only [Act.put, List.setIfInBounds_toArray, List.set_cons_zero, List.set_cons_succ])
                        refine wpAnyH_take (i := 7) (oi := { dst := some 52, op := Op.load 72 (Operand.tmp 51), type := 72, pos := "l10_pairs.go:56", after := #[{ on := 6, ground := Ground.data }, { on := 3, ground := Ground.guard }], guard := some (3, true) }) (v := ?v37yx7) rfl (by kernel_rfl) (by kernel_rfl) (by kernel_rfl) (fun _ _ _ h => h) (Or.inl ⟨by rfl, ?hy37yx7⟩) (by with_reducible assumption) ?rest37yx7
                        case hy37yx7 => (intro wS hSw; (try dsimp only at hSw); have z0 := cell_later hSw x0; have z1 := cell_later hSw x1; have z2 := cell_later hSw x2; have z3 := cell_later hSw x3; have z4 := cell_later hSw y0; have z5 := cell_later hSw y1; have z6 := cell_later hSw z0c; have z7 := cell_later hSw z1c; have z8 := cell_later hSw z2c; have z9 := cell_later hSw z3c; clear hSw; go_simp; try with_reducible rfl)
                        case' rest37yx7 => (try simp only [Act.put, List.setIfInBounds_toArray, List.set_cons_zero, List.set_cons_succ])
                        refine wpAnyH_take (i := 8) (oi := { dst := some 53, op := Op.load 26 (Operand.tmp 10), type := 26, pos := "l10_pairs.go:56", after := #[{ on := 3, ground := Ground.guard }], guard := some (3, true) }) (v := ?v38yx8) rfl (by kernel_rfl) (by kernel_rfl) (by kernel_rfl) (fun _ _ _ h => h) (Or.inl ⟨by rfl, ?hy38yx8⟩) (by with_reducible assumption) ?rest38yx8
                        case hy38yx8 => (intro wS hSw; (try dsimp only at hSw); have z0 := cell_later hSw x0; have z1 := cell_later hSw x1; have z2 := cell_later hSw x2; have z3 := cell_later hSw x3; have z4 := cell_later hSw y0; have z5 := cell_later hSw y1; have z6 := cell_later hSw z0c; have z7 := cell_later hSw z1c; have z8 := cell_later hSw z2c; have z9 := cell_later hSw z3c; clear hSw; go_simp; try with_reducible rfl)
                        case' rest38yx8 => (try simp only [Act.put, List.setIfInBounds_toArray, List.set_cons_zero, List.set_cons_succ])
                        refine wpAnyH_ready (rs := [9]) (by kernel_rfl) (by simp) ?_
                        refine AllReadyH.cons (o := { dst := some 54, op := Op.call { callee := Callee.value (Operand.func 60), args := #[Operand.tmp 53], argTypes := #[26] }, type := 26, pos := "l10_pairs.go:56", after := #[{ on := 8, ground := Ground.data }, { on := 3, ground := Ground.chain }, { on := 3, ground := Ground.guard }], guard := some (3, true) }) rfl (fun K hK => ?_) AllReadyH.nil
                        go_simp
                        refine (opposite_q _ _ _ _ _ DD HN.out).mono ?_
                        rintro e u9 ⟨rfl, hbu9⟩
                        go_wp2_with fail
                        refine hK.out _ _ ?_ (fun hHeld => ?_)
                        · exact grew (by with_reducible assumption) hbu9
                        clear hK K
                        try simp only [Act.put, List.setIfInBounds_toArray, List.set_cons_zero, List.set_cons_succ]
                        refine wpAnyH_ready (rs := [10]) (by kernel_rfl) (by simp) ?_
                        refine AllReadyH.cons (o := { dst := some 55, op := Op.call { callee := Callee.value (Operand.func 59), args := #[Operand.tmp 52, Operand.tmp 54], argTypes := #[72, 26] }, type := 4, pos := "l10_pairs.go:56", after := #[{ on := 7, ground := Ground.data }, { on := 9, ground := Ground.data }, { on := 9, ground := Ground.chain }, { on := 3, ground := Ground.guard }], guard := some (3, true) }) rfl (fun K hK => ?_) AllReadyH.nil
                        go_simp
                        refine (holdsI_q _ _ _ _ _ _ _ _ DJ.1 DJ.2 DN HC2.out).mono ?_
                        rintro e u10 ⟨rfl, hbu10⟩
                        go_wp2_with fail
                        refine hK.out _ _ ?_ (fun hHeld => ?_)
                        · exact grew (by with_reducible assumption) hbu10
                        clear hK K
                        try simp only [Act.put, List.setIfInBounds_toArray, List.set_cons_zero, List.set_cons_succ]
                        refine wpAnyH_take (i := 11) (oi := { dst := some 56, op := Op.pick (Operand.tmp 48) (Operand.tmp 55) (Operand.const (Value.bool false)), type := 4, pos := "l10_pairs.go:56", after := #[{ on := 3, ground := Ground.data }, { on := 10, ground := Ground.data }], guard := none }) (v := ?v39yx11) rfl (by kernel_rfl) (by kernel_rfl) (by kernel_rfl) (fun _ _ _ h => h) (Or.inl ⟨by rfl, ?hy39yx11⟩) (by with_reducible assumption) ?rest39yx11
                        case hy39yx11 => (intro wS hSw; (try dsimp only at hSw); have z0 := cell_later hSw x0; have z1 := cell_later hSw x1; have z2 := cell_later hSw x2; have z3 := cell_later hSw x3; have z4 := cell_later hSw y0; have z5 := cell_later hSw y1; have z6 := cell_later hSw z0c; have z7 := cell_later hSw z1c; have z8 := cell_later hSw z2c; have z9 := cell_later hSw z3c; clear hSw; go_simp; try with_reducible rfl)
                        case' rest39yx11 => (try simp only [Act.put, List.setIfInBounds_toArray, List.set_cons_zero, List.set_cons_succ])
                        refine wpAnyH_done (by kernel_rfl) ?_ _
                        have hbn : Below wp.heap.size wp u10 := (by with_reducible assumption)
                        have hbt := grew HBM.out (grew hbq hbn)
                        have HOt := hid (HO.out.later (grew hbq hbn))
                        have hst := hbt.size
                        have hCt := HCr.later hbn
                        have hgt := hCt.lt
                        clear x0 x1 x2 x3 y0 y1 z0c z1c z2c z3c
                        go_wp2_with (at_builtin; refine wpList_append_w rfl (.tmp 57) (.tmp 61) 39 rfl (g + 1) Tryd.underlying39 hsi hs0 hs1 hs2 (by rfl) (.slice a4 L.length c4) (.slice (some ⟨u10.heap.size, 0, none⟩) 2 2) vs2 rfl (by rfl) (HOt.out.out.later (by go_grown)) ⟨u10.heap.size + 1, 0, none⟩ _ rfl (by simp [go_sem]) rfl (by have := HF.out; omega) (by simp; omega) ?_; intro gq cp6 w6 hO6 hg6 hgg6; have HP := hid (HOt.out.push (l := [(i : Int), (j : Int)]) (by go_grown) (by omega) (ownNewI u10 _ _ _ (by go_grown) (Nat.le_refl _)) hO6 hg6 hgg6); have HB6 := hid (((by go_grown : Below u10.heap.size u10 _).mono (show g + 1 ≤ u10.heap.size by omega)).trans ((HOt.out.out.later (by go_grown)).grownBelow hg6 (by simp; omega))); have HK7 := hid (box4_own ((K7.later hbn).later (by go_grown)) (HOt.out.out.later (by go_grown)) hg6); rw [hvl] at HP ⊢; clear hO6 hg6 hgg6)
                        go_roundw
                        case rel => exact ⟨m + 1, _, by have := HJ.out; omega, by have := HJ.out; first | go_num | (congr 1; omega), by rw [HFY.out (acQ_yes HAB.out (q := 0) (by omega) HAC.out), ← List.append_assoc, HL.out]; exact HP.out, hCt.kept (HB6.out.block _ (Nat.lt_succ_self _)), HK7.out, hbt.trans (HB6.out.mono (by have := HGE.out; omega))⟩
                        case measure => simp [intOf]; omega
                  · have hidx := idx1 p0 p1 p2 p3 k0 k1 k2 k3
                    obtain ⟨⟨nn0, nn1⟩, hnn⟩ : ∃ n, ng (p2, p3) = n := ⟨_, rfl⟩
                    have HN := hid hnn
                    have DD : dirB (p2, p3) := HDIR.out.2.1
                    have DN : dirB (nn0, nn1) := hnn ▸ DD.ng
                    obtain ⟨c1, hc1⟩ : ∃ c, hldI (p0, p1) (p2, p3) (p2, p3) = c := ⟨_, rfl⟩
                    obtain ⟨c2, hc2⟩ : ∃ c, hldI (p4, p5) (p6, p7) (nn0, nn1) = c := ⟨_, rfl⟩
                    have HC1 := hid hc1
                    have HC2 := hid hc2
                    have HAC : Hid (acQ (p0, p1) (p2, p3) (p4, p5) (p6, p7) 1 = (c1 && c2)) := by
                      show acQ _ _ _ _ _ = _
                      rw [HACQ.out 1]
                      show acI (p0, p1) (p2, p3) (p4, p5) (p6, p7) (p2, p3) = _
                      unfold acI; rw [hnn, hc1, hc2]
                    clear hc1 hc2 hnn
                    have K10 := BoxP.new wr p2 p3
                    have hbx : Below wr.heap.size wr (wr.alloc (.cells #[.int .i64 p2, .int .i64 p3] 26)) := by go_grown
                    go_upto_region 14 with fail
                    replace K7 := K7.later hbx
                    replace HCr := HCr.later hbx
                    replace hbq := grew hbq hbx
                    clear hbx
                    generalize wr.heap.size = B10 at K10 ⊢
                    generalize wr.alloc (.cells #[.int .i64 p2, .int .i64 p3] 26) = wp at K7 K10 HCr hbq ⊢
                    have x0 := K7.c0
                    have x1 := K7.c1
                    have x2 := K7.c2
                    have x3 := K7.c3
                    have y0 := K10.c0
                    have y1 := K10.c1
                    obtain ⟨z0c, z1c, z2c, z3c⟩ := HCr.cells hml
                    rw [HSE.out] at z0c z1c
                    rw [HSB.out] at z2c z3c
                    cases c1
                    · refine wp_region_held_drew (S := (fun u => Below wp.heap.size wp u)) (by kernel_rfl) ?_ (fun hHeld => ?_)
                      · exact (Below.refl _ _).drew
                      refine wpAnyH_take (i := 0) (oi := { dst := some 45, op := Op.load 72 (Operand.tmp 7), type := 72, pos := "l10_pairs.go:56", after := #[], guard := none }) (v := ?v41yx0) rfl (by kernel_rfl) (by kernel_rfl) (by kernel_rfl) (fun _ _ _ h => h) (Or.inl ⟨by rfl, ?hy41yx0⟩) (by with_reducible assumption) ?rest41yx0
                      case hy41yx0 => (intro wS hSw; (try dsimp only at hSw); have z0 := cell_later hSw x0; have z1 := cell_later hSw x1; have z2 := cell_later hSw x2; have z3 := cell_later hSw x3; have z4 := cell_later hSw y0; have z5 := cell_later hSw y1; have z6 := cell_later hSw z0c; have z7 := cell_later hSw z1c; have z8 := cell_later hSw z2c; have z9 := cell_later hSw z3c; clear hSw; go_simp; try with_reducible rfl)
                      case' rest41yx0 => (try simp only [Act.put, List.setIfInBounds_toArray, List.set_cons_zero, List.set_cons_succ])
                      refine wpAnyH_take (i := 1) (oi := { dst := some 46, op := Op.load 26 (Operand.tmp 10), type := 26, pos := "l10_pairs.go:56", after := #[], guard := none }) (v := ?v42yx1) rfl (by kernel_rfl) (by kernel_rfl) (by kernel_rfl) (fun _ _ _ h => h) (Or.inl ⟨by rfl, ?hy42yx1⟩) (by with_reducible assumption) ?rest42yx1
                      case hy42yx1 => (intro wS hSw; (try dsimp only at hSw); have z0 := cell_later hSw x0; have z1 := cell_later hSw x1; have z2 := cell_later hSw x2; have z3 := cell_later hSw x3; have z4 := cell_later hSw y0; have z5 := cell_later hSw y1; have z6 := cell_later hSw z0c; have z7 := cell_later hSw z1c; have z8 := cell_later hSw z2c; have z9 := cell_later hSw z3c; clear hSw; go_simp; try with_reducible rfl)
                      case' rest42yx1 => (try simp only [Act.put, List.setIfInBounds_toArray, List.set_cons_zero, List.set_cons_succ])
                      refine wpAnyH_ready (rs := [2]) (by kernel_rfl) (by simp) ?_
                      refine AllReadyH.cons (o := { dst := some 47, op := Op.call { callee := Callee.value (Operand.func 59), args := #[Operand.tmp 45, Operand.tmp 46], argTypes := #[72, 26] }, type := 4, pos := "l10_pairs.go:56", after := #[{ on := 0, ground := Ground.data }, { on := 1, ground := Ground.data }], guard := none }) rfl (fun K hK => ?_) AllReadyH.nil
                      go_simp
                      refine (holdsI_q _ _ _ _ _ _ _ _ DI.1 DI.2 DD HC1.out).mono ?_
                      rintro e u2 ⟨rfl, hbu2⟩
                      go_wp2_with fail
                      refine hK.out _ _ ?_ (fun hHeld => ?_)
                      · exact grew (by with_reducible assumption) hbu2
                      clear hK K
                      try simp only [Act.put, List.setIfInBounds_toArray, List.set_cons_zero, List.set_cons_succ]
                      refine wpAnyH_take (i := 3) (oi := { dst := some 48, op := Op.move (Operand.tmp 47), type := 4, pos := "l10_pairs.go:56", after := #[{ on := 2, ground := Ground.data }, { on := 2, ground := Ground.chain }], guard := none }) (v := ?v43yx3) rfl (by kernel_rfl) (by kernel_rfl) (by kernel_rfl) (fun _ _ _ h => h) (Or.inl ⟨by rfl, ?hy43yx3⟩) (by with_reducible assumption) ?rest43yx3
                      case hy43yx3 => (intro wS hSw; (try dsimp only at hSw); have z0 := cell_later hSw x0; have z1 := cell_later hSw x1; have z2 := cell_later hSw x2; have z3 := cell_later hSw x3; have z4 := cell_later hSw y0; have z5 := cell_later hSw y1; have z6 := cell_later hSw z0c; have z7 := cell_later hSw z1c; have z8 := cell_later hSw z2c; have z9 := cell_later hSw z3c; clear hSw; go_simp; try with_reducible rfl)
                      case' rest43yx3 => (try simp only [Act.put, List.setIfInBounds_toArray, List.set_cons_zero, List.set_cons_succ])
                      refine wpAnyH_take (i := 4) (oi := { dst := some 49, op := Op.move (Operand.tmp 4), type := 69, pos := "l10_pairs.go:56", after := #[{ on := 3, ground := Ground.guard }], guard := some (3, true) }) (v := undef) rfl (by kernel_rfl) (by kernel_rfl) (by kernel_rfl) (fun _ _ _ h => h) (Or.inr ⟨by rfl, rfl⟩) (by with_reducible assumption) ?rest44sx4
                      case' rest44sx4 => (try simp only [Act.put, List.setIfInBounds_toArray, List.set_cons_zero, List.set_cons_succ])
                      refine wpAnyH_take (i := 5) (oi := { dst := some 50, op := Op.move (Operand.tmp 8), type := 3, pos := "l10_pairs.go:56", after := #[{ on := 3, ground := Ground.guard }], guard := some (3, true) }) (v := undef) rfl (by kernel_rfl) (by kernel_rfl) (by kernel_rfl) (fun _ _ _ h => h) (Or.inr ⟨by rfl, rfl⟩) (by with_reducible assumption) ?rest45sx5
                      case' rest45sx5 => (try simp only [Act.put, List.setIfInBounds_toArray, List.set_cons_zero, List.set_cons_succ])
                      refine wpAnyH_take (i := 6) (oi := { dst := some 51, op := Op.indexAddr 69 (Operand.tmp 49) (Operand.tmp 50), type := 0, pos := "l10_pairs.go:56", after := #[{ on := 4, ground := Ground.data }, { on := 5, ground := Ground.data }, { on := 3, ground := Ground.guard }], guard := some (3, true) }) (v := undef) rfl (by kernel_rfl) (by kernel_rfl) (by kernel_rfl) (fun _ _ _ h => h) (Or.inr ⟨by rfl, rfl⟩) (by with_reducible assumption) ?rest46sx6
                      case' rest46sx6 => (try simp only [Act.put, List.setIfInBounds_toArray, List.set_cons_zero, List.set_cons_succ])
                      refine wpAnyH_take (i := 7) (oi := { dst := some 52, op := Op.load 72 (Operand.tmp 51), type := 72, pos := "l10_pairs.go:56", after := #[{ on := 6, ground := Ground.data }, { on := 3, ground := Ground.guard }], guard := some (3, true) }) (v := undef) rfl (by kernel_rfl) (by kernel_rfl) (by kernel_rfl) (fun _ _ _ h => h) (Or.inr ⟨by rfl, rfl⟩) (by with_reducible assumption) ?rest47sx7
                      case' rest47sx7 => (try simp only [Act.put, List.setIfInBounds_toArray, List.set_cons_zero, List.set_cons_succ])
                      refine wpAnyH_take (i := 8) (oi := { dst := some 53, op := Op.load 26 (Operand.tmp 10), type := 26, pos := "l10_pairs.go:56", after := #[{ on := 3, ground := Ground.guard }], guard := some (3, true) }) (v := undef) rfl (by kernel_rfl) (by kernel_rfl) (by kernel_rfl) (fun _ _ _ h => h) (Or.inr ⟨by rfl, rfl⟩) (by with_reducible assumption) ?rest48sx8
                      case' rest48sx8 => (try simp only [Act.put, List.setIfInBounds_toArray, List.set_cons_zero, List.set_cons_succ])
                      refine wpAnyH_take (i := 9) (oi := { dst := some 54, op := Op.call { callee := Callee.value (Operand.func 60), args := #[Operand.tmp 53], argTypes := #[26] }, type := 26, pos := "l10_pairs.go:56", after := #[{ on := 8, ground := Ground.data }, { on := 3, ground := Ground.chain }, { on := 3, ground := Ground.guard }], guard := some (3, true) }) (v := undef) rfl (by kernel_rfl) (by kernel_rfl) (by kernel_rfl) (fun _ _ _ h => h) (Or.inr ⟨by rfl, rfl⟩) (by with_reducible assumption) ?rest49sx9
                      case' rest49sx9 => (try simp only [Act.put, List.setIfInBounds_toArray, List.set_cons_zero, List.set_cons_succ])
                      refine wpAnyH_take (i := 10) (oi := { dst := some 55, op := Op.call { callee := Callee.value (Operand.func 59), args := #[Operand.tmp 52, Operand.tmp 54], argTypes := #[72, 26] }, type := 4, pos := "l10_pairs.go:56", after := #[{ on := 7, ground := Ground.data }, { on := 9, ground := Ground.data }, { on := 9, ground := Ground.chain }, { on := 3, ground := Ground.guard }], guard := some (3, true) }) (v := undef) rfl (by kernel_rfl) (by kernel_rfl) (by kernel_rfl) (fun _ _ _ h => h) (Or.inr ⟨by rfl, rfl⟩) (by with_reducible assumption) ?rest50sx10
                      case' rest50sx10 => (try simp only [Act.put, List.setIfInBounds_toArray, List.set_cons_zero, List.set_cons_succ])
                      refine wpAnyH_take (i := 11) (oi := { dst := some 56, op := Op.pick (Operand.tmp 48) (Operand.tmp 55) (Operand.const (Value.bool false)), type := 4, pos := "l10_pairs.go:56", after := #[{ on := 3, ground := Ground.data }, { on := 10, ground := Ground.data }], guard := none }) (v := ?v51yx11) rfl (by kernel_rfl) (by kernel_rfl) (by kernel_rfl) (fun _ _ _ h => h) (Or.inl ⟨by rfl, ?hy51yx11⟩) (by with_reducible assumption) ?rest51yx11
                      case hy51yx11 => (intro wS hSw; (try dsimp only at hSw); have z0 := cell_later hSw x0; have z1 := cell_later hSw x1; have z2 := cell_later hSw x2; have z3 := cell_later hSw x3; have z4 := cell_later hSw y0; have z5 := cell_later hSw y1; have z6 := cell_later hSw z0c; have z7 := cell_later hSw z1c; have z8 := cell_later hSw z2c; have z9 := cell_later hSw z3c; clear hSw; go_simp; try with_reducible rfl)
                      case' rest51yx11 => (try simp only [Act.put, List.setIfInBounds_toArray, List.set_cons_zero, List.set_cons_succ])
                      refine wpAnyH_done (by kernel_rfl) ?_ _
                      have hbn : Below wp.heap.size wp u2 := (by with_reducible assumption)
                      clear x0 x1 x2 x3 y0 y1 z0c z1c z2c z3c
                      go_wp2
                      go_roundw
                      case rel => exact ⟨1 + 1, by omega, rfl, by first | rfl | go_num, fun m hm => (by by_cases e : m = 1; (subst e; rw [HAC.out]; rfl); exact HNO.out m (by omega)), HCr.later hbn, K7.later hbn, grew hbq hbn⟩
                      case measure => simp [intOf]
                    · cases c2
                      · refine wp_region_held_drew (S := (fun u => Below wp.heap.size wp u)) (by kernel_rfl) ?_ (fun hHeld => ?_)
                        · exact (Below.refl _ _).drew
                        refine wpAnyH_take (i := 0) (oi := { dst := some 45, op := Op.load 72 (Operand.tmp 7), type := 72, pos := "l10_pairs.go:56", after := #[], guard := none }) (v := ?v53yx0) rfl (by kernel_rfl) (by kernel_rfl) (by kernel_rfl) (fun _ _ _ h => h) (Or.inl ⟨by rfl, ?hy53yx0⟩) (by with_reducible assumption) ?rest53yx0
                        case hy53yx0 => (intro wS hSw; (try dsimp only at hSw); have z0 := cell_later hSw x0; have z1 := cell_later hSw x1; have z2 := cell_later hSw x2; have z3 := cell_later hSw x3; have z4 := cell_later hSw y0; have z5 := cell_later hSw y1; have z6 := cell_later hSw z0c; have z7 := cell_later hSw z1c; have z8 := cell_later hSw z2c; have z9 := cell_later hSw z3c; clear hSw; go_simp; try with_reducible rfl)
                        case' rest53yx0 => (try simp only [Act.put, List.setIfInBounds_toArray, List.set_cons_zero, List.set_cons_succ])
                        refine wpAnyH_take (i := 1) (oi := { dst := some 46, op := Op.load 26 (Operand.tmp 10), type := 26, pos := "l10_pairs.go:56", after := #[], guard := none }) (v := ?v54yx1) rfl (by kernel_rfl) (by kernel_rfl) (by kernel_rfl) (fun _ _ _ h => h) (Or.inl ⟨by rfl, ?hy54yx1⟩) (by with_reducible assumption) ?rest54yx1
                        case hy54yx1 => (intro wS hSw; (try dsimp only at hSw); have z0 := cell_later hSw x0; have z1 := cell_later hSw x1; have z2 := cell_later hSw x2; have z3 := cell_later hSw x3; have z4 := cell_later hSw y0; have z5 := cell_later hSw y1; have z6 := cell_later hSw z0c; have z7 := cell_later hSw z1c; have z8 := cell_later hSw z2c; have z9 := cell_later hSw z3c; clear hSw; go_simp; try with_reducible rfl)
                        case' rest54yx1 => (try simp only [Act.put, List.setIfInBounds_toArray, List.set_cons_zero, List.set_cons_succ])
                        refine wpAnyH_ready (rs := [2]) (by kernel_rfl) (by simp) ?_
                        refine AllReadyH.cons (o := { dst := some 47, op := Op.call { callee := Callee.value (Operand.func 59), args := #[Operand.tmp 45, Operand.tmp 46], argTypes := #[72, 26] }, type := 4, pos := "l10_pairs.go:56", after := #[{ on := 0, ground := Ground.data }, { on := 1, ground := Ground.data }], guard := none }) rfl (fun K hK => ?_) AllReadyH.nil
                        go_simp
                        refine (holdsI_q _ _ _ _ _ _ _ _ DI.1 DI.2 DD HC1.out).mono ?_
                        rintro e u2 ⟨rfl, hbu2⟩
                        go_wp2_with fail
                        refine hK.out _ _ ?_ (fun hHeld => ?_)
                        · exact grew (by with_reducible assumption) hbu2
                        clear hK K
                        try simp only [Act.put, List.setIfInBounds_toArray, List.set_cons_zero, List.set_cons_succ]
                        refine wpAnyH_take (i := 3) (oi := { dst := some 48, op := Op.move (Operand.tmp 47), type := 4, pos := "l10_pairs.go:56", after := #[{ on := 2, ground := Ground.data }, { on := 2, ground := Ground.chain }], guard := none }) (v := ?v55yx3) rfl (by kernel_rfl) (by kernel_rfl) (by kernel_rfl) (fun _ _ _ h => h) (Or.inl ⟨by rfl, ?hy55yx3⟩) (by with_reducible assumption) ?rest55yx3
                        case hy55yx3 => (intro wS hSw; (try dsimp only at hSw); have z0 := cell_later hSw x0; have z1 := cell_later hSw x1; have z2 := cell_later hSw x2; have z3 := cell_later hSw x3; have z4 := cell_later hSw y0; have z5 := cell_later hSw y1; have z6 := cell_later hSw z0c; have z7 := cell_later hSw z1c; have z8 := cell_later hSw z2c; have z9 := cell_later hSw z3c; clear hSw; go_simp; try with_reducible rfl)
                        case' rest55yx3 => (try simp only [Act.put, List.setIfInBounds_toArray, List.set_cons_zero, List.set_cons_succ])
                        refine wpAnyH_take (i := 4) (oi := { dst := some 49, op := Op.move (Operand.tmp 4), type := 69, pos := "l10_pairs.go:56", after := #[{ on := 3, ground := Ground.guard }], guard := some (3, true) }) (v := ?v56yx4) rfl (by kernel_rfl) (by kernel_rfl) (by kernel_rfl) (fun _ _ _ h => h) (Or.inl ⟨by rfl, ?hy56yx4⟩) (by with_reducible assumption) ?rest56yx4
                        case hy56yx4 => (intro wS hSw; (try dsimp only at hSw); have z0 := cell_later hSw x0; have z1 := cell_later hSw x1; have z2 := cell_later hSw x2; have z3 := cell_later hSw x3; have z4 := cell_later hSw y0; have z5 := cell_later hSw y1; have z6 := cell_later hSw z0c; have z7 := cell_later hSw z1c; have z8 := cell_later hSw z2c; have z9 := cell_later hSw z3c; clear hSw; go_simp; try with_reducible rfl)
                        case' rest56yx4 => (try simp only [Act.put, List.setIfInBounds_toArray, List.set_cons_zero, List.set_cons_succ])
                        refine wpAnyH_take (i := 5) (oi := { dst := some 50, op := Op.move (Operand.tmp 8), type := 3, pos := "l10_pairs.go:56", after := #[{ on := 3, ground := Ground.guard }], guard := some (3, true) }) (v := ?v57yx5) rfl (by kernel_rfl) (by kernel_rfl) (by kernel_rfl) (fun _ _ _ h => h) (Or.inl ⟨by rfl, ?hy57yx5⟩) (by with_reducible assumption) ?rest57yx5
                        case hy57yx5 => (intro wS hSw; (try dsimp only at hSw); have z0 := cell_later hSw x0; have z1 := cell_later hSw x1; have z2 := cell_later hSw x2; have z3 := cell_later hSw x3; have z4 := cell_later hSw y0; have z5 := cell_later hSw y1; have z6 := cell_later hSw z0c; have z7 := cell_later hSw z1c; have z8 := cell_later hSw z2c; have z9 := cell_later hSw z3c; clear hSw; go_simp; try with_reducible rfl)
                        case' rest57yx5 => (try simp only [Act.put, List.setIfInBounds_toArray, List.set_cons_zero, List.set_cons_succ])
                        refine wpAnyH_take (i := 6) (oi := { dst := some 51, op := Op.indexAddr 69 (Operand.tmp 49) (Operand.tmp 50), type := 0, pos := "l10_pairs.go:56", after := #[{ on := 4, ground := Ground.data }, { on := 5, ground := Ground.data }, { on := 3, ground := Ground.guard }], guard := some (3, true) }) (v := ?v58yx6) rfl (by kernel_rfl) (by kernel_rfl) (by kernel_rfl) (fun _ _ _ h => h) (Or.inl ⟨by rfl, ?hy58yx6⟩) (by with_reducible assumption) ?rest58yx6
                        case hy58yx6 => (intro wS hSw; (try dsimp only at hSw); have z0 := cell_later hSw x0; have z1 := cell_later hSw x1; have z2 := cell_later hSw x2; have z3 := cell_later hSw x3; have z4 := cell_later hSw y0; have z5 := cell_later hSw y1; have z6 := cell_later hSw z0c; have z7 := cell_later hSw z1c; have z8 := cell_later hSw z2c; have z9 := cell_later hSw z3c; clear hSw; go_simp; try with_reducible rfl)
                        case' rest58yx6 => (try simp only [Act.put, List.setIfInBounds_toArray, List.set_cons_zero, List.set_cons_succ])
                        refine wpAnyH_take (i := 7) (oi := { dst := some 52, op := Op.load 72 (Operand.tmp 51), type := 72, pos := "l10_pairs.go:56", after := #[{ on := 6, ground := Ground.data }, { on := 3, ground := Ground.guard }], guard := some (3, true) }) (v := ?v59yx7) rfl (by kernel_rfl) (by kernel_rfl) (by kernel_rfl) (fun _ _ _ h => h) (Or.inl ⟨by rfl, ?hy59yx7⟩) (by with_reducible assumption) ?rest59yx7
                        case hy59yx7 => (intro wS hSw; (try dsimp only at hSw); have z0 := cell_later hSw x0; have z1 := cell_later hSw x1; have z2 := cell_later hSw x2; have z3 := cell_later hSw x3; have z4 := cell_later hSw y0; have z5 := cell_later hSw y1; have z6 := cell_later hSw z0c; have z7 := cell_later hSw z1c; have z8 := cell_later hSw z2c; have z9 := cell_later hSw z3c; clear hSw; go_simp; try with_reducible rfl)
                        case' rest59yx7 => (try simp only [Act.put, List.setIfInBounds_toArray, List.set_cons_zero, List.set_cons_succ])
                        refine wpAnyH_take (i := 8) (oi := { dst := some 53, op := Op.load 26 (Operand.tmp 10), type := 26, pos := "l10_pairs.go:56", after := #[{ on := 3, ground := Ground.guard }], guard := some (3, true) }) (v := ?v60yx8) rfl (by kernel_rfl) (by kernel_rfl) (by kernel_rfl) (fun _ _ _ h => h) (Or.inl ⟨by rfl, ?hy60yx8⟩) (by with_reducible assumption) ?rest60yx8
                        case hy60yx8 => (intro wS hSw; (try dsimp only at hSw); have z0 := cell_later hSw x0; have z1 := cell_later hSw x1; have z2 := cell_later hSw x2; have z3 := cell_later hSw x3; have z4 := cell_later hSw y0; have z5 := cell_later hSw y1; have z6 := cell_later hSw z0c; have z7 := cell_later hSw z1c; have z8 := cell_later hSw z2c; have z9 := cell_later hSw z3c; clear hSw; go_simp; try with_reducible rfl)
                        case' rest60yx8 => (try simp only [Act.put, List.setIfInBounds_toArray, List.set_cons_zero, List.set_cons_succ])
                        refine wpAnyH_ready (rs := [9]) (by kernel_rfl) (by simp) ?_
                        refine AllReadyH.cons (o := { dst := some 54, op := Op.call { callee := Callee.value (Operand.func 60), args := #[Operand.tmp 53], argTypes := #[26] }, type := 26, pos := "l10_pairs.go:56", after := #[{ on := 8, ground := Ground.data }, { on := 3, ground := Ground.chain }, { on := 3, ground := Ground.guard }], guard := some (3, true) }) rfl (fun K hK => ?_) AllReadyH.nil
                        go_simp
                        refine (opposite_q _ _ _ _ _ DD HN.out).mono ?_
                        rintro e u9 ⟨rfl, hbu9⟩
                        go_wp2_with fail
                        refine hK.out _ _ ?_ (fun hHeld => ?_)
                        · exact grew (by with_reducible assumption) hbu9
                        clear hK K
                        try simp only [Act.put, List.setIfInBounds_toArray, List.set_cons_zero, List.set_cons_succ]
                        refine wpAnyH_ready (rs := [10]) (by kernel_rfl) (by simp) ?_
                        refine AllReadyH.cons (o := { dst := some 55, op := Op.call { callee := Callee.value (Operand.func 59), args := #[Operand.tmp 52, Operand.tmp 54], argTypes := #[72, 26] }, type := 4, pos := "l10_pairs.go:56", after := #[{ on := 7, ground := Ground.data }, { on := 9, ground := Ground.data }, { on := 9, ground := Ground.chain }, { on := 3, ground := Ground.guard }], guard := some (3, true) }) rfl (fun K hK => ?_) AllReadyH.nil
                        go_simp
                        refine (holdsI_q _ _ _ _ _ _ _ _ DJ.1 DJ.2 DN HC2.out).mono ?_
                        rintro e u10 ⟨rfl, hbu10⟩
                        go_wp2_with fail
                        refine hK.out _ _ ?_ (fun hHeld => ?_)
                        · exact grew (by with_reducible assumption) hbu10
                        clear hK K
                        try simp only [Act.put, List.setIfInBounds_toArray, List.set_cons_zero, List.set_cons_succ]
                        refine wpAnyH_take (i := 11) (oi := { dst := some 56, op := Op.pick (Operand.tmp 48) (Operand.tmp 55) (Operand.const (Value.bool false)), type := 4, pos := "l10_pairs.go:56", after := #[{ on := 3, ground := Ground.data }, { on := 10, ground := Ground.data }], guard := none }) (v := ?v61yx11) rfl (by kernel_rfl) (by kernel_rfl) (by kernel_rfl) (fun _ _ _ h => h) (Or.inl ⟨by rfl, ?hy61yx11⟩) (by with_reducible assumption) ?rest61yx11
                        case hy61yx11 => (intro wS hSw; (try dsimp only at hSw); have z0 := cell_later hSw x0; have z1 := cell_later hSw x1; have z2 := cell_later hSw x2; have z3 := cell_later hSw x3; have z4 := cell_later hSw y0; have z5 := cell_later hSw y1; have z6 := cell_later hSw z0c; have z7 := cell_later hSw z1c; have z8 := cell_later hSw z2c; have z9 := cell_later hSw z3c; clear hSw; go_simp; try with_reducible rfl)
                        case' rest61yx11 => (try simp only [Act.put, List.setIfInBounds_toArray, List.set_cons_zero, List.set_cons_succ])
                        refine wpAnyH_done (by kernel_rfl) ?_ _
                        have hbn : Below wp.heap.size wp u10 := (by with_reducible assumption)
                        clear x0 x1 x2 x3 y0 y1 z0c z1c z2c z3c
                        go_wp2
                        go_roundw
                        case rel => exact ⟨1 + 1, by omega, rfl, by first | rfl | go_num, fun m hm => (by by_cases e : m = 1; (subst e; rw [HAC.out]; rfl); exact HNO.out m (by omega)), HCr.later hbn, K7.later hbn, grew hbq hbn⟩
                        case measure => simp [intOf]
                      · refine wp_region_held_drew (S := (fun u => Below wp.heap.size wp u)) (by kernel_rfl) ?_ (fun hHeld => ?_)
                        · exact (Below.refl _ _).drew
                        refine wpAnyH_take (i := 0) (oi := { dst := some 45, op := Op.load 72 (Operand.tmp 7), type := 72, pos := "l10_pairs.go:56", after := #[], guard := none }) (v := ?v63yx0) rfl (by kernel_rfl) (by kernel_rfl) (by kernel_rfl) (fun _ _ _ h => h) (Or.inl ⟨by rfl, ?hy63yx0⟩) (by with_reducible assumption) ?rest63yx0
                        case hy63yx0 => (intro wS hSw; (try dsimp only at hSw); have z0 := cell_later hSw x0; have z1 := cell_later hSw x1; have z2 := cell_later hSw x2; have z3 := cell_later hSw x3; have z4 := cell_later hSw y0; have z5 := cell_later hSw y1; have z6 := cell_later hSw z0c; have z7 := cell_later hSw z1c; have z8 := cell_later hSw z2c; have z9 := cell_later hSw z3c; clear hSw; go_simp; try with_reducible rfl)
                        case' rest63yx0 => (try simp only [Act.put, List.setIfInBounds_toArray, List.set_cons_zero, List.set_cons_succ])
                        refine wpAnyH_take (i := 1) (oi := { dst := some 46, op := Op.load 26 (Operand.tmp 10), type := 26, pos := "l10_pairs.go:56", after := #[], guard := none }) (v := ?v64yx1) rfl (by kernel_rfl) (by kernel_rfl) (by kernel_rfl) (fun _ _ _ h => h) (Or.inl ⟨by rfl, ?hy64yx1⟩) (by with_reducible assumption) ?rest64yx1
                        case hy64yx1 => (intro wS hSw; (try dsimp only at hSw); have z0 := cell_later hSw x0; have z1 := cell_later hSw x1; have z2 := cell_later hSw x2; have z3 := cell_later hSw x3; have z4 := cell_later hSw y0; have z5 := cell_later hSw y1; have z6 := cell_later hSw z0c; have z7 := cell_later hSw z1c; have z8 := cell_later hSw z2c; have z9 := cell_later hSw z3c; clear hSw; go_simp; try with_reducible rfl)
                        case' rest64yx1 => (try simp only [Act.put, List.setIfInBounds_toArray, List.set_cons_zero, List.set_cons_succ])
                        refine wpAnyH_ready (rs := [2]) (by kernel_rfl) (by simp) ?_
                        refine AllReadyH.cons (o := { dst := some 47, op := Op.call { callee := Callee.value (Operand.func 59), args := #[Operand.tmp 45, Operand.tmp 46], argTypes := #[72, 26] }, type := 4, pos := "l10_pairs.go:56", after := #[{ on := 0, ground := Ground.data }, { on := 1, ground := Ground.data }], guard := none }) rfl (fun K hK => ?_) AllReadyH.nil
                        go_simp
                        refine (holdsI_q _ _ _ _ _ _ _ _ DI.1 DI.2 DD HC1.out).mono ?_
                        rintro e u2 ⟨rfl, hbu2⟩
                        go_wp2_with fail
                        refine hK.out _ _ ?_ (fun hHeld => ?_)
                        · exact grew (by with_reducible assumption) hbu2
                        clear hK K
                        try simp only [Act.put, List.setIfInBounds_toArray, List.set_cons_zero, List.set_cons_succ]
                        refine wpAnyH_take (i := 3) (oi := { dst := some 48, op := Op.move (Operand.tmp 47), type := 4, pos := "l10_pairs.go:56", after := #[{ on := 2, ground := Ground.data }, { on := 2, ground := Ground.chain }], guard := none }) (v := ?v65yx3) rfl (by kernel_rfl) (by kernel_rfl) (by kernel_rfl) (fun _ _ _ h => h) (Or.inl ⟨by rfl, ?hy65yx3⟩) (by with_reducible assumption) ?rest65yx3
                        case hy65yx3 => (intro wS hSw; (try dsimp only at hSw); have z0 := cell_later hSw x0; have z1 := cell_later hSw x1; have z2 := cell_later hSw x2; have z3 := cell_later hSw x3; have z4 := cell_later hSw y0; have z5 := cell_later hSw y1; have z6 := cell_later hSw z0c; have z7 := cell_later hSw z1c; have z8 := cell_later hSw z2c; have z9 := cell_later hSw z3c; clear hSw; go_simp; try with_reducible rfl)
                        case' rest65yx3 => (try simp only [Act.put, List.setIfInBounds_toArray, List.set_cons_zero, List.set_cons_succ])
                        refine wpAnyH_take (i := 4) (oi := { dst := some 49, op := Op.move (Operand.tmp 4), type := 69, pos := "l10_pairs.go:56", after := #[{ on := 3, ground := Ground.guard }], guard := some (3, true) }) (v := ?v66yx4) rfl (by kernel_rfl) (by kernel_rfl) (by kernel_rfl) (fun _ _ _ h => h) (Or.inl ⟨by rfl, ?hy66yx4⟩) (by with_reducible assumption) ?rest66yx4
                        case hy66yx4 => (intro wS hSw; (try dsimp only at hSw); have z0 := cell_later hSw x0; have z1 := cell_later hSw x1; have z2 := cell_later hSw x2; have z3 := cell_later hSw x3; have z4 := cell_later hSw y0; have z5 := cell_later hSw y1; have z6 := cell_later hSw z0c; have z7 := cell_later hSw z1c; have z8 := cell_later hSw z2c; have z9 := cell_later hSw z3c; clear hSw; go_simp; try with_reducible rfl)
                        case' rest66yx4 => (try simp only [Act.put, List.setIfInBounds_toArray, List.set_cons_zero, List.set_cons_succ])
                        refine wpAnyH_take (i := 5) (oi := { dst := some 50, op := Op.move (Operand.tmp 8), type := 3, pos := "l10_pairs.go:56", after := #[{ on := 3, ground := Ground.guard }], guard := some (3, true) }) (v := ?v67yx5) rfl (by kernel_rfl) (by kernel_rfl) (by kernel_rfl) (fun _ _ _ h => h) (Or.inl ⟨by rfl, ?hy67yx5⟩) (by with_reducible assumption) ?rest67yx5
                        case hy67yx5 => (intro wS hSw; (try dsimp only at hSw); have z0 := cell_later hSw x0; have z1 := cell_later hSw x1; have z2 := cell_later hSw x2; have z3 := cell_later hSw x3; have z4 := cell_later hSw y0; have z5 := cell_later hSw y1; have z6 := cell_later hSw z0c; have z7 := cell_later hSw z1c; have z8 := cell_later hSw z2c; have z9 := cell_later hSw z3c; clear hSw; go_simp; try with_reducible rfl)
                        case' rest67yx5 => (try simp only [Act.put, List.setIfInBounds_toArray, List.set_cons_zero, List.set_cons_succ])
                        refine wpAnyH_take (i := 6) (oi := { dst := some 51, op := Op.indexAddr 69 (Operand.tmp 49) (Operand.tmp 50), type := 0, pos := "l10_pairs.go:56", after := #[{ on := 4, ground := Ground.data }, { on := 5, ground := Ground.data }, { on := 3, ground := Ground.guard }], guard := some (3, true) }) (v := ?v68yx6) rfl (by kernel_rfl) (by kernel_rfl) (by kernel_rfl) (fun _ _ _ h => h) (Or.inl ⟨by rfl, ?hy68yx6⟩) (by with_reducible assumption) ?rest68yx6
                        case hy68yx6 => (intro wS hSw; (try dsimp only at hSw); have z0 := cell_later hSw x0; have z1 := cell_later hSw x1; have z2 := cell_later hSw x2; have z3 := cell_later hSw x3; have z4 := cell_later hSw y0; have z5 := cell_later hSw y1; have z6 := cell_later hSw z0c; have z7 := cell_later hSw z1c; have z8 := cell_later hSw z2c; have z9 := cell_later hSw z3c; clear hSw; go_simp; try with_reducible rfl)
                        case' rest68yx6 => (try simp only [Act.put, List.setIfInBounds_toArray, List.set_cons_zero, List.set_cons_succ])
                        refine wpAnyH_take (i := 7) (oi := { dst := some 52, op := Op.load 72 (Operand.tmp 51), type := 72, pos := "l10_pairs.go:56", after := #[{ on := 6, ground := Ground.data }, { on := 3, ground := Ground.guard }], guard := some (3, true) }) (v := ?v69yx7) rfl (by kernel_rfl) (by kernel_rfl) (by kernel_rfl) (fun _ _ _ h => h) (Or.inl ⟨by rfl, ?hy69yx7⟩) (by with_reducible assumption) ?rest69yx7
                        case hy69yx7 => (intro wS hSw; (try dsimp only at hSw); have z0 := cell_later hSw x0; have z1 := cell_later hSw x1; have z2 := cell_later hSw x2; have z3 := cell_later hSw x3; have z4 := cell_later hSw y0; have z5 := cell_later hSw y1; have z6 := cell_later hSw z0c; have z7 := cell_later hSw z1c; have z8 := cell_later hSw z2c; have z9 := cell_later hSw z3c; clear hSw; go_simp; try with_reducible rfl)
                        case' rest69yx7 => (try simp only [Act.put, List.setIfInBounds_toArray, List.set_cons_zero, List.set_cons_succ])
                        refine wpAnyH_take (i := 8) (oi := { dst := some 53, op := Op.load 26 (Operand.tmp 10), type := 26, pos := "l10_pairs.go:56", after := #[{ on := 3, ground := Ground.guard }], guard := some (3, true) }) (v := ?v70yx8) rfl (by kernel_rfl) (by kernel_rfl) (by kernel_rfl) (fun _ _ _ h => h) (Or.inl ⟨by rfl, ?hy70yx8⟩) (by with_reducible assumption) ?rest70yx8
                        case hy70yx8 => (intro wS hSw; (try dsimp only at hSw); have z0 := cell_later hSw x0; have z1 := cell_later hSw x1; have z2 := cell_later hSw x2; have z3 := cell_later hSw x3; have z4 := cell_later hSw y0; have z5 := cell_later hSw y1; have z6 := cell_later hSw z0c; have z7 := cell_later hSw z1c; have z8 := cell_later hSw z2c; have z9 := cell_later hSw z3c; clear hSw; go_simp; try with_reducible rfl)
                        case' rest70yx8 => (try simp only [Act.put, List.setIfInBounds_toArray, List.set_cons_zero, List.set_cons_succ])
                        refine wpAnyH_ready (rs := [9]) (by kernel_rfl) (by simp) ?_
                        refine AllReadyH.cons (o := { dst := some 54, op := Op.call { callee := Callee.value (Operand.func 60), args := #[Operand.tmp 53], argTypes := #[26] }, type := 26, pos := "l10_pairs.go:56", after := #[{ on := 8, ground := Ground.data }, { on := 3, ground := Ground.chain }, { on := 3, ground := Ground.guard }], guard := some (3, true) }) rfl (fun K hK => ?_) AllReadyH.nil
                        go_simp
                        refine (opposite_q _ _ _ _ _ DD HN.out).mono ?_
                        rintro e u9 ⟨rfl, hbu9⟩
                        go_wp2_with fail
                        refine hK.out _ _ ?_ (fun hHeld => ?_)
                        · exact grew (by with_reducible assumption) hbu9
                        clear hK K
                        try simp only [Act.put, List.setIfInBounds_toArray, List.set_cons_zero, List.set_cons_succ]
                        refine wpAnyH_ready (rs := [10]) (by kernel_rfl) (by simp) ?_
                        refine AllReadyH.cons (o := { dst := some 55, op := Op.call { callee := Callee.value (Operand.func 59), args := #[Operand.tmp 52, Operand.tmp 54], argTypes := #[72, 26] }, type := 4, pos := "l10_pairs.go:56", after := #[{ on := 7, ground := Ground.data }, { on := 9, ground := Ground.data }, { on := 9, ground := Ground.chain }, { on := 3, ground := Ground.guard }], guard := some (3, true) }) rfl (fun K hK => ?_) AllReadyH.nil
                        go_simp
                        refine (holdsI_q _ _ _ _ _ _ _ _ DJ.1 DJ.2 DN HC2.out).mono ?_
                        rintro e u10 ⟨rfl, hbu10⟩
                        go_wp2_with fail
                        refine hK.out _ _ ?_ (fun hHeld => ?_)
                        · exact grew (by with_reducible assumption) hbu10
                        clear hK K
                        try simp only [Act.put, List.setIfInBounds_toArray, List.set_cons_zero, List.set_cons_succ]
                        refine wpAnyH_take (i := 11) (oi := { dst := some 56, op := Op.pick (Operand.tmp 48) (Operand.tmp 55) (Operand.const (Value.bool false)), type := 4, pos := "l10_pairs.go:56", after := #[{ on := 3, ground := Ground.data }, { on := 10, ground := Ground.data }], guard := none }) (v := ?v71yx11) rfl (by kernel_rfl) (by kernel_rfl) (by kernel_rfl) (fun _ _ _ h => h) (Or.inl ⟨by rfl, ?hy71yx11⟩) (by with_reducible assumption) ?rest71yx11
                        case hy71yx11 => (intro wS hSw; (try dsimp only at hSw); have z0 := cell_later hSw x0; have z1 := cell_later hSw x1; have z2 := cell_later hSw x2; have z3 := cell_later hSw x3; have z4 := cell_later hSw y0; have z5 := cell_later hSw y1; have z6 := cell_later hSw z0c; have z7 := cell_later hSw z1c; have z8 := cell_later hSw z2c; have z9 := cell_later hSw z3c; clear hSw; go_simp; try with_reducible rfl)
                        case' rest71yx11 => (try simp only [Act.put, List.setIfInBounds_toArray, List.set_cons_zero, List.set_cons_succ])
                        refine wpAnyH_done (by kernel_rfl) ?_ _
                        have hbn : Below wp.heap.size wp u10 := (by with_reducible assumption)
                        have hbt := grew HBM.out (grew hbq hbn)
                        have HOt := hid (HO.out.later (grew hbq hbn))
                        have hst := hbt.size
                        have hCt := HCr.later hbn
                        have hgt := hCt.lt
                        clear x0 x1 x2 x3 y0 y1 z0c z1c z2c z3c
                        go_wp2_with (at_builtin; refine wpList_append_w rfl (.tmp 57) (.tmp 61) 39 rfl (g + 1) Tryd.underlying39 hsi hs0 hs1 hs2 (by rfl) (.slice a4 L.length c4) (.slice (some ⟨u10.heap.size, 0, none⟩) 2 2) vs2 rfl (by rfl) (HOt.out.out.later (by go_grown)) ⟨u10.heap.size + 1, 0, none⟩ _ rfl (by simp [go_sem]) rfl (by have := HF.out; omega) (by simp; omega) ?_; intro gq cp6 w6 hO6 hg6 hgg6; have HP := hid (HOt.out.push (l := [(i : Int), (j : Int)]) (by go_grown) (by omega) (ownNewI u10 _ _ _ (by go_grown) (Nat.le_refl _)) hO6 hg6 hgg6); have HB6 := hid (((by go_grown : Below u10.heap.size u10 _).mono (show g + 1 ≤ u10.heap.size by omega)).trans ((HOt.out.out.later (by go_grown)).grownBelow hg6 (by simp; omega))); have HK7 := hid (box4_own ((K7.later hbn).later (by go_grown)) (HOt.out.out.later (by go_grown)) hg6); rw [hvl] at HP ⊢; clear hO6 hg6 hgg6)
                        go_roundw
                        case rel => exact ⟨m + 1, _, by have := HJ.out; omega, by have := HJ.out; first | go_num | (congr 1; omega), by rw [HFY.out (acQ_yes HAB.out (q := 1) (by omega) HAC.out), ← List.append_assoc, HL.out]; exact HP.out, hCt.kept (HB6.out.block _ (Nat.lt_succ_self _)), HK7.out, hbt.trans (HB6.out.mono (by have := HGE.out; omega))⟩
                        case measure => simp [intOf]; omega
                  · have hidx := idx2 p0 p1 p2 p3 k0 k1 k2 k3
                    obtain ⟨⟨nn0, nn1⟩, hnn⟩ : ∃ n, ng (k0, k1) = n := ⟨_, rfl⟩
                    have HN := hid hnn
                    have DD : dirB (k0, k1) := HDIR.out.2.2.1
                    have DN : dirB (nn0, nn1) := hnn ▸ DD.ng
                    obtain ⟨c1, hc1⟩ : ∃ c, hldI (p0, p1) (p2, p3) (k0, k1) = c := ⟨_, rfl⟩
                    obtain ⟨c2, hc2⟩ : ∃ c, hldI (p4, p5) (p6, p7) (nn0, nn1) = c := ⟨_, rfl⟩
                    have HC1 := hid hc1
                    have HC2 := hid hc2
                    have HAC : Hid (acQ (p0, p1) (p2, p3) (p4, p5) (p6, p7) 2 = (c1 && c2)) := by
                      show acQ _ _ _ _ _ = _
                      rw [HACQ.out 2]
                      show acI (p0, p1) (p2, p3) (p4, p5) (p6, p7) (k0, k1) = _
                      unfold acI; rw [hnn, hc1, hc2]
                    clear hc1 hc2 hnn
                    have K10 := BoxP.new wr k0 k1
                    have hbx : Below wr.heap.size wr (wr.alloc (.cells #[.int .i64 k0, .int .i64 k1] 26)) := by go_grown
                    go_upto_region 14 with fail
                    replace K7 := K7.later hbx
                    replace HCr := HCr.later hbx
                    replace hbq := grew hbq hbx
                    clear hbx
                    generalize wr.heap.size = B10 at K10 ⊢
                    generalize wr.alloc (.cells #[.int .i64 k0, .int .i64 k1] 26) = wp at K7 K10 HCr hbq ⊢
                    have x0 := K7.c0
                    have x1 := K7.c1
                    have x2 := K7.c2
                    have x3 := K7.c3
                    have y0 := K10.c0
                    have y1 := K10.c1
                    obtain ⟨z0c, z1c, z2c, z3c⟩ := HCr.cells hml
                    rw [HSE.out] at z0c z1c
                    rw [HSB.out] at z2c z3c
                    cases c1
                    · refine wp_region_held_drew (S := (fun u => Below wp.heap.size wp u)) (by kernel_rfl) ?_ (fun hHeld => ?_)
                      · exact (Below.refl _ _).drew
                      refine wpAnyH_take (i := 0) (oi := { dst := some 45, op := Op.load 72 (Operand.tmp 7), type := 72, pos := "l10_pairs.go:56", after := #[], guard := none }) (v := ?v73yx0) rfl (by kernel_rfl) (by kernel_rfl) (by kernel_rfl) (fun _ _ _ h => h) (Or.inl ⟨by rfl, ?hy73yx0⟩) (by with_reducible assumption) ?rest73yx0
                      case hy73yx0 => (intro wS hSw; (try dsimp only at hSw); have z0 := cell_later hSw x0; have z1 := cell_later hSw x1; have z2 := cell_later hSw x2; have z3 := cell_later hSw x3; have z4 := cell_later hSw y0; have z5 := cell_later hSw y1; have z6 := cell_later hSw z0c; have z7 := cell_later hSw z1c; have z8 := cell_later hSw z2c; have z9 := cell_later hSw z3c; clear hSw; go_simp; try with_reducible rfl)
                      case' rest73yx0 => (try simp only [Act.put, List.setIfInBounds_toArray, List.set_cons_zero, List.set_cons_succ])
                      refine wpAnyH_take (i := 1) (oi := { dst := some 46, op := Op.load 26 (Operand.tmp 10), type := 26, pos := "l10_pairs.go:56", after := #[], guard := none }) (v := ?v74yx1) rfl (by kernel_rfl) (by kernel_rfl) (by kernel_rfl) (fun _ _ _ h => h) (Or.inl ⟨by rfl, ?hy74yx1⟩) (by with_reducible assumption) ?rest74yx1
                      case hy74yx1 => (intro wS hSw; (try dsimp only at hSw); have z0 := cell_later hSw x0; have z1 := cell_later hSw x1; have z2 := cell_later hSw x2; have z3 := cell_later hSw x3; have z4 := cell_later hSw y0; have z5 := cell_later hSw y1; have z6 := cell_later hSw z0c; have z7 := cell_later hSw z1c; have z8 := cell_later hSw z2c; have z9 := cell_later hSw z3c; clear hSw; go_simp; try with_reducible rfl)
                      case' rest74yx1 => (try simp only [Act.put, List.setIfInBounds_toArray, List.set_cons_zero, List.set_cons_succ])
                      refine wpAnyH_ready (rs := [2]) (by kernel_rfl) (by simp) ?_
                      refine AllReadyH.cons (o := { dst := some 47, op := Op.call { callee := Callee.value (Operand.func 59), args := #[Operand.tmp 45, Operand.tmp 46], argTypes := #[72, 26] }, type := 4, pos := "l10_pairs.go:56", after := #[{ on := 0, ground := Ground.data }, { on := 1, ground := Ground.data }], guard := none }) rfl (fun K hK => ?_) AllReadyH.nil
                      go_simp
                      refine (holdsI_q _ _ _ _ _ _ _ _ DI.1 DI.2 DD HC1.out).mono ?_
                      rintro e u2 ⟨rfl, hbu2⟩
                      go_wp2_with fail
                      refine hK.out _ _ ?_ (fun hHeld => ?_)
                      · exact grew (by with_reducible assumption) hbu2
                      clear hK K
                      try simp only [Act.put, List.setIfInBounds_toArray, List.set_cons_zero, List.set_cons_succ]
                      refine wpAnyH_take (i := 3) (oi := { dst := some 48, op := Op.move (Operand.tmp 47), type := 4, pos := "l10_pairs.go:56", after := #[{ on := 2, ground := Ground.data }, { on := 2, ground := Ground.chain }], guard := none }) (v := ?v75yx3) rfl (by kernel_rfl) (by kernel_rfl) (by kernel_rfl) (fun _ _ _ h => h) (Or.inl ⟨by rfl, ?hy75yx3⟩) (by with_reducible assumption) ?rest75yx3
                      case hy75yx3 => (intro wS hSw; (try dsimp only at hSw); have z0 := cell_later hSw x0; have z1 := cell_later hSw x1; have z2 := cell_later hSw x2; have z3 := cell_later hSw x3; have z4 := cell_later hSw y0; have z5 := cell_later hSw y1; have z6 := cell_later hSw z0c; have z7 := cell_later hSw z1c; have z8 := cell_later hSw z2c; have z9 := cell_later hSw z3c; clear hSw; go_simp; try with_reducible rfl)
                      case' rest75yx3 => (try simp only [Act.put, List.setIfInBounds_toArray, List.set_cons_zero, List.set_cons_succ])
                      refine wpAnyH_take (i := 4) (oi := { dst := some 49, op := Op.move (Operand.tmp 4), type := 69, pos := "l10_pairs.go:56", after := #[{ on := 3, ground := Ground.guard }], guard := some (3, true) }) (v := undef) rfl (by kernel_rfl) (by kernel_rfl) (by kernel_rfl) (fun _ _ _ h => h) (Or.inr ⟨by rfl, rfl⟩) (by with_reducible assumption) ?rest76sx4
                      case' rest76sx4 => (try simp only [Act.put, List.setIfInBounds_toArray, List.set_cons_zero, List.set_cons_succ])
                      refine wpAnyH_take (i := 5) (oi := { dst := some 50, op := Op.move (Operand.tmp 8), type := 3, pos := "l10_pairs.go:56", after := #[{ on := 3, ground := Ground.guard }], guard := some (3, true) }) (v := undef) rfl (by kernel_rfl) (by kernel_rfl) (by kernel_rfl) (fun _ _ _ h => h) (Or.inr ⟨by rfl, rfl⟩) (by with_reducible assumption) ?rest77sx5
                      case' rest77sx5 => (try simp only [Act.put, List.setIfInBounds_toArray, List.set_cons_zero, List.set_cons_succ])
                      refine wpAnyH_take (i := 6) (oi := { dst := some 51, op := Op.indexAddr 69 (Operand.tmp 49) (Operand.tmp 50), type := 0, pos := "l10_pairs.go:56", after := #[{ on := 4, ground := Ground.data }, { on := 5, ground := Ground.data }, { on := 3, ground := Ground.guard }], guard := some (3, true) }) (v := undef) rfl (by kernel_rfl) (by kernel_rfl) (by kernel_rfl) (fun _ _ _ h => h) (Or.inr ⟨by rfl, rfl⟩) (by with_reducible assumption) ?rest78sx6
                      case' rest78sx6 => (try simp only [Act.put, List.setIfInBounds_toArray, List.set_cons_zero, List.set_cons_succ])
                      refine wpAnyH_take (i := 7) (oi := { dst := some 52, op := Op.load 72 (Operand.tmp 51), type := 72, pos := "l10_pairs.go:56", after := #[{ on := 6, ground := Ground.data }, { on := 3, ground := Ground.guard }], guard := some (3, true) }) (v := undef) rfl (by kernel_rfl) (by kernel_rfl) (by kernel_rfl) (fun _ _ _ h => h) (Or.inr ⟨by rfl, rfl⟩) (by with_reducible assumption) ?rest79sx7
                      case' rest79sx7 => (try simp only [Act.put, List.setIfInBounds_toArray, List.set_cons_zero, List.set_cons_succ])
                      refine wpAnyH_take (i := 8) (oi := { dst := some 53, op := Op.load 26 (Operand.tmp 10), type := 26, pos := "l10_pairs.go:56", after := #[{ on := 3, ground := Ground.guard }], guard := some (3, true) }) (v := undef) rfl (by kernel_rfl) (by kernel_rfl) (by kernel_rfl) (fun _ _ _ h => h) (Or.inr ⟨by rfl, rfl⟩) (by with_reducible assumption) ?rest80sx8
                      case' rest80sx8 => (try simp only [Act.put, List.setIfInBounds_toArray, List.set_cons_zero, List.set_cons_succ])
                      refine wpAnyH_take (i := 9) (oi := { dst := some 54, op := Op.call { callee := Callee.value (Operand.func 60), args := #[Operand.tmp 53], argTypes := #[26] }, type := 26, pos := "l10_pairs.go:56", after := #[{ on := 8, ground := Ground.data }, { on := 3, ground := Ground.chain }, { on := 3, ground := Ground.guard }], guard := some (3, true) }) (v := undef) rfl (by kernel_rfl) (by kernel_rfl) (by kernel_rfl) (fun _ _ _ h => h) (Or.inr ⟨by rfl, rfl⟩) (by with_reducible assumption) ?rest81sx9
                      case' rest81sx9 => (try simp only [Act.put, List.setIfInBounds_toArray, List.set_cons_zero, List.set_cons_succ])
                      refine wpAnyH_take (i := 10) (oi := { dst := some 55, op := Op.call { callee := Callee.value (Operand.func 59), args := #[Operand.tmp 52, Operand.tmp 54], argTypes := #[72, 26] }, type := 4, pos := "l10_pairs.go:56", after := #[{ on := 7, ground := Ground.data }, { on := 9, ground := Ground.data }, { on := 9, ground := Ground.chain }, { on := 3, ground := Ground.guard }], guard := some (3, true) }) (v := undef) rfl (by kernel_rfl) (by kernel_rfl) (by kernel_rfl) (fun _ _ _ h => h) (Or.inr ⟨by rfl, rfl⟩) (by with_reducible assumption) ?rest82sx10
                      case' rest82sx10 => (try simp only [Act.put, List.setIfInBounds_toArray, List.set_cons_zero, List.set_cons_succ])
                      refine wpAnyH_take (i := 11) (oi := { dst := some 56, op := Op.pick (Operand.tmp 48) (Operand.tmp 55) (Operand.const (Value.bool false)), type := 4, pos := "l10_pairs.go:56", after := #[{ on := 3, ground := Ground.data }, { on := 10, ground := Ground.data }], guard := none }) (v := ?v83yx11) rfl (by kernel_rfl) (by kernel_rfl) (by kernel_rfl) (fun _ _ _ h => h) (Or.inl ⟨by rfl, ?hy83yx11⟩) (by with_reducible assumption) ?rest83yx11
                      case hy83yx11 => (intro wS hSw; (try dsimp only at hSw); have z0 := cell_later hSw x0; have z1 := cell_later hSw x1; have z2 := cell_later hSw x2; have z3 := cell_later hSw x3; have z4 := cell_later hSw y0; have z5 := cell_later hSw y1; have z6 := cell_later hSw z0c; have z7 := cell_later hSw z1c; have z8 := cell_later hSw z2c; have z9 := cell_later hSw z3c; clear hSw; go_simp; try with_reducible rfl)
                      case' rest83yx11 => (try simp only [Act.put, List.setIfInBounds_toArray, List.set_cons_zero, List.set_cons_succ])
                      refine wpAnyH_done (by kernel_rfl) ?_ _
                      have hbn : Below wp.heap.size wp u2 := (by with_reducible assumption)
                      clear x0 x1 x2 x3 y0 y1 z0c z1c z2c z3c
                      go_wp2
                      go_roundw
                      case rel => exact ⟨2 + 1, by omega, rfl, by first | rfl | go_num, fun m hm => (by by_cases e : m = 2; (subst e; rw [HAC.out]; rfl); exact HNO.out m (by omega)), HCr.later hbn, K7.later hbn, grew hbq hbn⟩
                      case measure => simp [intOf]
                    · cases c2
                      · refine wp_region_held_drew (S := (fun u => Below wp.heap.size wp u)) (by kernel_rfl) ?_ (fun hHeld => ?_)
                        · exact (Below.refl _ _).drew
                        refine wpAnyH_take (i := 0) (oi := { dst := some 45, op := Op.load 72 (Operand.tmp 7), type := 72, pos := "l10_pairs.go:56", after := #[], guard := none }) (v := ?v85yx0) rfl (by kernel_rfl) (by kernel_rfl) (by kernel_rfl) (fun _ _ _ h => h) (Or.inl ⟨by rfl, ?hy85yx0⟩) (by with_reducible assumption) ?rest85yx0
                        case hy85yx0 => (intro wS hSw; (try dsimp only at hSw); have z0 := cell_later hSw x0; have z1 := cell_later hSw x1; have z2 := cell_later hSw x2; have z3 := cell_later hSw x3; have z4 := cell_later hSw y0; have z5 := cell_later hSw y1; have z6 := cell_later hSw z0c; have z7 := cell_later hSw z1c; have z8 := cell_later hSw z2c; have z9 := cell_later hSw z3c; clear hSw; go_simp; try with_reducible rfl)
                        case' rest85yx0 => (try simp only [Act.put, List.setIfInBounds_toArray, List.set_cons_zero, List.set_cons_succ])
                        refine wpAnyH_take (i := 1) (oi := { dst := some 46, op := Op.load 26 (Operand.tmp 10), type := 26, pos := "l10_pairs.go:56", after := #[], guard := none }) (v := ?v86yx1) rfl (by kernel_rfl) (by kernel_rfl) (by kernel_rfl) (fun _ _ _ h => h) (Or.inl ⟨by rfl, ?hy86yx1⟩) (by with_reducible assumption) ?rest86yx1
                        case hy86yx1 => (intro wS hSw; (try dsimp only at hSw); have z0 := cell_later hSw x0; have z1 := cell_later hSw x1; have z2 := cell_later hSw x2; have z3 := cell_later hSw x3; have z4 := cell_later hSw y0; have z5 := cell_later hSw y1; have z6 := cell_later hSw z0c; have z7 := cell_later hSw z1c; have z8 := cell_later hSw z2c; have z9 := cell_later hSw z3c; clear hSw; go_simp; try with_reducible rfl)
                        case' rest86yx1 => (try simp only [Act.put, List.setIfInBounds_toArray, List.set_cons_zero, List.set_cons_succ])
                        refine wpAnyH_ready (rs := [2]) (by kernel_rfl) (by simp) ?_
                        refine AllReadyH.cons (o := { dst := some 47, op := Op.call { callee := Callee.value (Operand.func 59), args := #[Operand.tmp 45, Operand.tmp 46], argTypes := #[72, 26] }, type := 4, pos := "l10_pairs.go:56", after := #[{ on := 0, ground := Ground.data }, { on := 1, ground := Ground.data }], guard := none }) rfl (fun K hK => ?_) AllReadyH.nil
                        go_simp
                        refine (holdsI_q _ _ _ _ _ _ _ _ DI.1 DI.2 DD HC1.out).mono ?_
                        rintro e u2 ⟨rfl, hbu2⟩
                        go_wp2_with fail
                        refine hK.out _ _ ?_ (fun hHeld => ?_)
                        · exact grew (by with_reducible assumption) hbu2
                        clear hK K
                        try simp only [Act.put, List.setIfInBounds_toArray, List.set_cons_zero, List.set_cons_succ]
                        refine wpAnyH_take (i := 3) (oi := { dst := some 48, op := Op.move (Operand.tmp 47), type := 4, pos := "l10_pairs.go:56", after := #[{ on := 2, ground := Ground.data }, { on := 2, ground := Ground.chain }], guard := none }) (v := ?v87yx3) rfl (by kernel_rfl) (by kernel_rfl) (by kernel_rfl) (fun _ _ _ h => h) (Or.inl ⟨by rfl, ?hy87yx3⟩) (by with_reducible assumption) ?rest87yx3
                        case hy87yx3 => (intro wS hSw; (try dsimp only at hSw); have z0 := cell_later hSw x0; have z1 := cell_later hSw x1; have z2 := cell_later hSw x2; have z3 := cell_later hSw x3; have z4 := cell_later hSw y0; have z5 := cell_later hSw y1; have z6 := cell_later hSw z0c; have z7 := cell_later hSw z1c; have z8 := cell_later hSw z2c; have z9 := cell_later hSw z3c; clear hSw; go_simp; try with_reducible rfl)
                        case' rest87yx3 => (try simp only [Act.put, List.setIfInBounds_toArray, List.set_cons_zero, List.set_cons_succ])
                        refine wpAnyH_take (i := 4) (oi := { dst := some 49, op := Op.move (Operand.tmp 4), type := 69, pos := "l10_pairs.go:56", after := #[{ on := 3, ground := Ground.guard }], guard := some (3, true) }) (v := ?v88yx4) rfl (by kernel_rfl) (by kernel_rfl) (by kernel_rfl) (fun _ _ _ h => h) (Or.inl ⟨by rfl, ?hy88yx4⟩) (by with_reducible assumption) ?rest88yx4
                        case hy88yx4 => (intro wS hSw; (try dsimp only at hSw); have z0 := cell_later hSw x0; have z1 := cell_later hSw x1; have z2 := cell_later hSw x2; have z3 := cell_later hSw x3; have z4 := cell_later hSw y0; have z5 := cell_later hSw y1; have z6 := cell_later hSw z0c; have z7 := cell_later hSw z1c; have z8 := cell_later hSw z2c; have z9 := cell_later hSw z3c; clear hSw; go_simp; try with_reducible rfl)
                        case' rest88yx4 => (try simp only [Act.put, List.setIfInBounds_toArray, List.set_cons_zero, List.set_cons_succ])
                        refine wpAnyH_take (i := 5) (oi := { dst := some 50, op := Op.move (Operand.tmp 8), type := 3, pos := "l10_pairs.go:56", after := #[{ on := 3, ground := Ground.guard }], guard := some (3, true) }) (v := ?v89yx5) rfl (by kernel_rfl) (by kernel_rfl) (by kernel_rfl) (fun _ _ _ h => h) (Or.inl ⟨by rfl, ?hy89yx5⟩) (by with_reducible assumption) ?rest89yx5
                        case hy89yx5 => (intro wS hSw; (try dsimp only at hSw); have z0 := cell_later hSw x0; have z1 := cell_later hSw x1; have z2 := cell_later hSw x2; have z3 := cell_later hSw x3; have z4 := cell_later hSw y0; have z5 := cell_later hSw y1; have z6 := cell_later hSw z0c; have z7 := cell_later hSw z1c; have z8 := cell_later hSw z2c; have z9 := cell_later hSw z3c; clear hSw; go_simp; try with_reducible rfl)
                        case' rest89yx5 => (try simp only [Act.put, List.setIfInBounds_toArray, List.set_cons_zero, List.set_cons_succ])
                        refine wpAnyH_take (i := 6) (oi := { dst := some 51, op := Op.indexAddr 69 (Operand.tmp 49) (Operand.tmp 50), type := 0, pos := "l10_pairs.go:56", after := #[{ on := 4, ground := Ground.data }, { on := 5, ground := Ground.data }, { on := 3, ground := Ground.guard }], guard := some (3, true) }) (v := ?v90yx6) rfl (by kernel_rfl) (by kernel_rfl) (by kernel_rfl) (fun _ _ _ h => h) (Or.inl ⟨by rfl, ?hy90yx6⟩) (by with_reducible assumption) ?rest90yx6
                        case hy90yx6 => (intro wS hSw; (try dsimp only at hSw); have z0 := cell_later hSw x0; have z1 := cell_later hSw x1; have z2 := cell_later hSw x2; have z3 := cell_later hSw x3; have z4 := cell_later hSw y0; have z5 := cell_later hSw y1; have z6 := cell_later hSw z0c; have z7 := cell_later hSw z1c; have z8 := cell_later hSw z2c; have z9 := cell_later hSw z3c; clear hSw; go_simp; try with_reducible rfl)
                        case' rest90yx6 => (try simp only [Act.put, List.setIfInBounds_toArray, List.set_cons_zero, List.set_cons_succ])
                        refine wpAnyH_take (i := 7) (oi := { dst := some 52, op := Op.load 72 (Operand.tmp 51), type := 72, pos := "l10_pairs.go:56", after := #[{ on := 6, ground := Ground.data }, { on := 3, ground := Ground.guard }], guard := some (3, true) }) (v := ?v91yx7) rfl (by kernel_rfl) (by kernel_rfl) (by kernel_rfl) (fun _ _ _ h => h) (Or.inl ⟨by rfl, ?hy91yx7⟩) (by with_reducible assumption) ?rest91yx7
                        case hy91yx7 => (intro wS hSw; (try dsimp only at hSw); have z0 := cell_later hSw x0; have z1 := cell_later hSw x1; have z2 := cell_later hSw x2; have z3 := cell_later hSw x3; have z4 := cell_later hSw y0; have z5 := cell_later hSw y1; have z6 := cell_later hSw z0c; have z7 := cell_later hSw z1c; have z8 := cell_later hSw z2c; have z9 := cell_later hSw z3c; clear hSw; go_simp; try with_reducible rfl)
                        case' rest91yx7 => (try simp only [Act.put, List.setIfInBounds_toArray, List.set_cons_zero, List.set_cons_succ])
                        refine wpAnyH_take (i := 8) (oi := { dst := some 53, op := Op.load 26 (Operand.tmp 10), type := 26, pos := "l10_pairs.go:56", after := #[{ on := 3, ground := Ground.guard }], guard := some (3, true) }) (v := ?v92yx8) rfl (by kernel_rfl) (by kernel_rfl) (by kernel_rfl) (fun _ _ _ h => h) (Or.inl ⟨by rfl, ?hy92yx8⟩) (by with_reducible assumption) ?rest92yx8
                        case hy92yx8 => (intro wS hSw; (try dsimp only at hSw); have z0 := cell_later hSw x0; have z1 := cell_later hSw x1; have z2 := cell_later hSw x2; have z3 := cell_later hSw x3; have z4 := cell_later hSw y0; have z5 := cell_later hSw y1; have z6 := cell_later hSw z0c; have z7 := cell_later hSw z1c; have z8 := cell_later hSw z2c; have z9 := cell_later hSw z3c; clear hSw; go_simp; try with_reducible rfl)
                        case' rest92yx8 => (try simp only [Act.put, List.setIfInBounds_toArray, List.set_cons_zero, List.set_cons_succ])
                        refine wpAnyH_ready (rs := [9]) (by kernel_rfl) (by simp) ?_
                        refine AllReadyH.cons (o := { dst := some 54, op := Op.call { callee := Callee.value (Operand.func 60), args := #[Operand.tmp 53], argTypes := #[26] }, type := 26, pos := "l10_pairs.go:56", after := #[{ on := 8, ground := Ground.data }, { on := 3, ground := Ground.chain }, { on := 3, ground := Ground.guard }], guard := some (3, true) }) rfl (fun K hK => ?_) AllReadyH.nil
                        go_simp
                        refine (opposite_q _ _ _ _ _ DD HN.out).mono ?_
                        rintro e u9 ⟨rfl, hbu9⟩
                        go_wp2_with fail
                        refine hK.out _ _ ?_ (fun hHeld => ?_)
                        · exact grew (by with_reducible assumption) hbu9
                        clear hK K
                        try simp only [Act.put, List.setIfInBounds_toArray, List.set_cons_zero, List.set_cons_succ]
                        refine wpAnyH_ready (rs := [10]) (by kernel_rfl) (by simp) ?_
                        refine AllReadyH.cons (o := { dst := some 55, op := Op.call { callee := Callee.value (Operand.func 59), args := #[Operand.tmp 52, Operand.tmp 54], argTypes := #[72, 26] }, type := 4, pos := "l10_pairs.go:56", after := #[{ on := 7, ground := Ground.data }, { on := 9, ground := Ground.data }, { on := 9, ground := Ground.chain }, { on := 3, ground := Ground.guard }], guard := some (3, true) }) rfl (fun K hK => ?_) AllReadyH.nil
                        go_simp
                        refine (holdsI_q _ _ _ _ _ _ _ _ DJ.1 DJ.2 DN HC2.out).mono ?_
                        rintro e u10 ⟨rfl, hbu10⟩
                        go_wp2_with fail
                        refine hK.out _ _ ?_ (fun hHeld => ?_)
                        · exact grew (by with_reducible assumption) hbu10
                        clear hK K
                        try simp only [Act.put, List.setIfInBounds_toArray, List.set_cons_zero, List.set_cons_succ]
                        refine wpAnyH_take (i := 11) (oi := { dst := some 56, op := Op.pick (Operand.tmp 48) (Operand.tmp 55) (Operand.const (Value.bool false)), type := 4, pos := "l10_pairs.go:56", after := #[{ on := 3, ground := Ground.data }, { on := 10, ground := Ground.data }], guard := none }) (v := ?v93yx11) rfl (by kernel_rfl) (by kernel_rfl) (by kernel_rfl) (fun _ _ _ h => h) (Or.inl ⟨by rfl, ?hy93yx11⟩) (by with_reducible assumption) ?rest93yx11
                        case hy93yx11 => (intro wS hSw; (try dsimp only at hSw); have z0 := cell_later hSw x0; have z1 := cell_later hSw x1; have z2 := cell_later hSw x2; have z3 := cell_later hSw x3; have z4 := cell_later hSw y0; have z5 := cell_later hSw y1; have z6 := cell_later hSw z0c; have z7 := cell_later hSw z1c; have z8 := cell_later hSw z2c; have z9 := cell_later hSw z3c; clear hSw; go_simp; try with_reducible rfl)
                        case' rest93yx11 => (try simp only [Act.put, List.setIfInBounds_toArray, List.set_cons_zero, List.set_cons_succ])
                        refine wpAnyH_done (by kernel_rfl) ?_ _
                        have hbn : Below wp.heap.size wp u10 := (by with_reducible assumption)
                        clear x0 x1 x2 x3 y0 y1 z0c z1c z2c z3c
                        go_wp2
                        go_roundw
                        case rel => exact ⟨2 + 1, by omega, rfl, by first | rfl | go_num, fun m hm => (by by_cases e : m = 2; (subst e; rw [HAC.out]; rfl); exact HNO.out m (by omega)), HCr.later hbn, K7.later hbn, grew hbq hbn⟩
                        case measure => simp [intOf]
                      · refine wp_region_held_drew (S := (fun u => Below wp.heap.size wp u)) (by kernel_rfl) ?_ (fun hHeld => ?_)
                        · exact (Below.refl _ _).drew
                        refine wpAnyH_take (i := 0) (oi := { dst := some 45, op := Op.load 72 (Operand.tmp 7), type := 72, pos := "l10_pairs.go:56", after := #[], guard := none }) (v := ?v95yx0) rfl (by kernel_rfl) (by kernel_rfl) (by kernel_rfl) (fun _ _ _ h => h) (Or.inl ⟨by rfl, ?hy95yx0⟩) (by with_reducible assumption) ?rest95yx0
                        case hy95yx0 => (intro wS hSw; (try dsimp only at hSw); have z0 := cell_later hSw x0; have z1 := cell_later hSw x1; have z2 := cell_later hSw x2; have z3 := cell_later hSw x3; have z4 := cell_later hSw y0; have z5 := cell_later hSw y1; have z6 := cell_later hSw z0c; have z7 := cell_later hSw z1c; have z8 := cell_later hSw z2c; have z9 := cell_later hSw z3c; clear hSw; go_simp; try with_reducible rfl)
                        case' rest95yx0 => (try simp only [Act.put, List.setIfInBounds_toArray, List.set_cons_zero, List.set_cons_succ])
                        refine wpAnyH_take (i := 1) (oi := { dst := some 46, op := Op.load 26 (Operand.tmp 10), type := 26, pos := "l10_pairs.go:56", after := #[], guard := none }) (v := ?v96yx1) rfl (by kernel_rfl) (by kernel_rfl) (by kernel_rfl) (fun _ _ _ h => h) (Or.inl ⟨by rfl, ?hy96yx1⟩) (by with_reducible assumption) ?rest96yx1
                        case hy96yx1 => (intro wS hSw; (try dsimp only at hSw); have z0 := cell_later hSw x0; have z1 := cell_later hSw x1; have z2 := cell_later hSw x2; have z3 := cell_later hSw x3; have z4 := cell_later hSw y0; have z5 := cell_later hSw y1; have z6 := cell_later hSw z0c; have z7 := cell_later hSw z1c; have z8 := cell_later hSw z2c; have z9 := cell_later hSw z3c; clear hSw; go_simp; try with_reducible rfl)
                        case' rest96yx1 => (try simp only [Act.put, List.setIfInBounds_toArray, List.set_cons_zero, List.set_cons_succ])
                        refine wpAnyH_ready (rs := [2]) (by kernel_rfl) (by simp) ?_
                        refine AllReadyH.cons (o := { dst := some 47, op := Op.call { callee := Callee.value (Operand.func 59), args := #[Operand.tmp 45, Operand.tmp 46], argTypes := #[72, 26] }, type := 4, pos := "l10_pairs.go:56", after := #[{ on := 0, ground := Ground.data }, { on := 1, ground := Ground.data }], guard := none }) rfl (fun K hK => ?_) AllReadyH.nil
                        go_simp
                        refine (holdsI_q _ _ _ _ _ _ _ _ DI.1 DI.2 DD HC1.out).mono ?_
                        rintro e u2 ⟨rfl, hbu2⟩
                        go_wp2_with fail
                        refine hK.out _ _ ?_ (fun hHeld => ?_)
                        · exact grew (by with_reducible assumption) hbu2
                        clear hK K
                        try simp only [Act.put, List.setIfInBounds_toArray, List.set_cons_zero, List.set_cons_succ]
                        refine wpAnyH_take (i := 3) (oi := { dst := some 48, op := Op.move (Operand.tmp 47), type := 4, pos := "l10_pairs.go:56", after := #[{ on := 2, ground := Ground.data }, { on := 2, ground := Ground.chain }], guard := none }) (v := ?v97yx3) rfl (by kernel_rfl) (by kernel_rfl) (by kernel_rfl) (fun _ _ _ h => h) (Or.inl ⟨by rfl, ?hy97yx3⟩) (by with_reducible assumption) ?rest97yx3
                        case hy97yx3 => (intro wS hSw; (try dsimp only at hSw); have z0 := cell_later hSw x0; have z1 := cell_later hSw x1; have z2 := cell_later hSw x2; have z3 := cell_later hSw x3; have z4 := cell_later hSw y0; have z5 := cell_later hSw y1; have z6 := cell_later hSw z0c; have z7 := cell_later hSw z1c; have z8 := cell_later hSw z2c; have z9 := cell_later hSw z3c; clear hSw; go_simp; try with_reducible rfl)
                        case' rest97yx3 => (try simp only [Act.put, List.setIfInBounds_toArray, List.set_cons_zero, List.set_cons_succ])
                        refine wpAnyH_take (i := 4) (oi := { dst := some 49, op := Op.move (Operand.tmp 4), type := 69, pos := "l10_pairs.go:56", after := #[{ on := 3, ground := Ground.guard }], guard := some (3, true) }) (v := ?v98yx4) rfl (by kernel_rfl) (by kernel_rfl) (by kernel_rfl) (fun _ _ _ h => h) (Or.inl ⟨by rfl, ?hy98yx4⟩) (by with_reducible assumption) ?rest98yx4
                        case hy98yx4 => (intro wS hSw; (try dsimp only at hSw); have z0 := cell_later hSw x0; have z1 := cell_later hSw x1; have z2 := cell_later hSw x2; have z3 := cell_later hSw x3; have z4 := cell_later hSw y0; have z5 := cell_later hSw y1; have z6 := cell_later hSw z0c; have z7 := cell_later hSw z1c; have z8 := cell_later hSw z2c; have z9 := cell_later hSw z3c; clear hSw; go_simp; try with_reducible rfl)
                        case' rest98yx4 => (try simp only [Act.put, List.setIfInBounds_toArray, List.set_cons_zero, List.set_cons_succ])
                        refine wpAnyH_take (i := 5) (oi := { dst := some 50, op := Op.move (Operand.tmp 8), type := 3, pos := "l10_pairs.go:56", after := #[{ on := 3, ground := Ground.guard }], guard := some (3, true) }) (v := ?v99yx5) rfl (by kernel_rfl) (by kernel_rfl) (by kernel_rfl) (fun _ _ _ h => h) (Or.inl ⟨by rfl, ?hy99yx5⟩) (by with_reducible assumption) ?rest99yx5
                        case hy99yx5 => (intro wS hSw; (try dsimp only at hSw); have z0 := cell_later hSw x0; have z1 := cell_later hSw x1; have z2 := cell_later hSw x2; have z3 := cell_later hSw x3; have z4 := cell_later hSw y0; have z5 := cell_later hSw y1; have z6 := cell_later hSw z0c; have z7 := cell_later hSw z1c; have z8 := cell_later hSw z2c; have z9 := cell_later hSw z3c; clear hSw; go_simp; try with_reducible rfl)
                        case' rest99yx5 => (try simp only [Act.put, List.setIfInBounds_toArray, List.set_cons_zero, List.set_cons_succ])
                        refine wpAnyH_take (i := 6) (oi := { dst := some 51, op := Op.indexAddr 69 (Operand.tmp 49) (Operand.tmp 50), type := 0, pos := "l10_pairs.go:56", after := #[{ on := 4, ground := Ground.data }, { on := 5, ground := Ground.data }, { on := 3, ground := Ground.guard }], guard := some (3, true) }) (v := ?v100yx6) rfl (by kernel_rfl) (by kernel_rfl) (by kernel_rfl) (fun _ _ _ h => h) (Or.inl ⟨by rfl, ?hy100yx6⟩) (by with_reducible assumption) ?rest100yx6
                        case hy100yx6 => (intro wS hSw; (try dsimp only at hSw); have z0 := cell_later hSw x0; have z1 := cell_later hSw x1; have z2 := cell_later hSw x2; have z3 := cell_later hSw x3; have z4 := cell_later hSw y0; have z5 := cell_later hSw y1; have z6 := cell_later hSw z0c; have z7 := cell_later hSw z1c; have z8 := cell_later hSw z2c; have z9 := cell_later hSw z3c; clear hSw; go_simp; try with_reducible rfl)
                        case' rest100yx6 => (try simp only [Act.put, List.setIfInBounds_toArray, List.set_cons_zero, List.set_cons_succ])
                        refine wpAnyH_take (i := 7) (oi := { dst := some 52, op := Op.load 72 (Operand.tmp 51), type := 72, pos := "l10_pairs.go:56", after := #[{ on := 6, ground := Ground.data }, { on := 3, ground := Ground.guard }], guard := some (3, true) }) (v := ?v101yx7) rfl (by kernel_rfl) (by kernel_rfl) (by kernel_rfl) (fun _ _ _ h => h) (Or.inl ⟨by rfl, ?hy101yx7⟩) (by with_reducible assumption) ?rest101yx7
                        case hy101yx7 => (intro wS hSw; (try dsimp only at hSw); have z0 := cell_later hSw x0; have z1 := cell_later hSw x1; have z2 := cell_later hSw x2; have z3 := cell_later hSw x3; have z4 := cell_later hSw y0; have z5 := cell_later hSw y1; have z6 := cell_later hSw z0c; have z7 := cell_later hSw z1c; have z8 := cell_later hSw z2c; have z9 := cell_later hSw z3c; clear hSw; go_simp; try with_reducible rfl)
                        case' rest101yx7 => (try simp only [Act.put, List.setIfInBounds_toArray, List.set_cons_zero, List.set_cons_succ])
                        refine wpAnyH_take (i := 8) (oi := { dst := some 53, op := Op.load 26 (Operand.tmp 10), type := 26, pos := "l10_pairs.go:56", after := #[{ on := 3, ground := Ground.guard }], guard := some (3, true) }) (v := ?v102yx8) rfl (by kernel_rfl) (by kernel_rfl) (by kernel_rfl) (fun _ _ _ h => h) (Or.inl ⟨by rfl, ?hy102yx8⟩) (by with_reducible assumption) ?rest102yx8
                        case hy102yx8 => (intro wS hSw; (try dsimp only at hSw); have z0 := cell_later hSw x0; have z1 := cell_later hSw x1; have z2 := cell_later hSw x2; have z3 := cell_later hSw x3; have z4 := cell_later hSw y0; have z5 := cell_later hSw y1; have z6 := cell_later hSw z0c; have z7 := cell_later hSw z1c; have z8 := cell_later hSw z2c; have z9 := cell_later hSw z3c; clear hSw; go_simp; try with_reducible rfl)
                        case' rest102yx8 => (try simp only [Act.put, List.setIfInBounds_toArray, List.set_cons_zero, List.set_cons_succ])
                        refine wpAnyH_ready (rs := [9]) (by kernel_rfl) (by simp) ?_
                        refine AllReadyH.cons (o := { dst := some 54, op := Op.call { callee := Callee.value (Operand.func 60), args := #[Operand.tmp 53], argTypes := #[26] }, type := 26, pos := "l10_pairs.go:56", after := #[{ on := 8, ground := Ground.data }, { on := 3, ground := Ground.chain }, { on := 3, ground := Ground.guard }], guard := some (3, true) }) rfl (fun K hK => ?_) AllReadyH.nil
                        go_simp
                        refine (opposite_q _ _ _ _ _ DD HN.out).mono ?_
                        rintro e u9 ⟨rfl, hbu9⟩
                        go_wp2_with fail
                        refine hK.out _ _ ?_ (fun hHeld => ?_)
                        · exact grew (by with_reducible assumption) hbu9
                        clear hK K
                        try simp only [Act.put, List.setIfInBounds_toArray, List.set_cons_zero, List.set_cons_succ]
                        refine wpAnyH_ready (rs := [10]) (by kernel_rfl) (by simp) ?_
                        refine AllReadyH.cons (o := { dst := some 55, op := Op.call { callee := Callee.value (Operand.func 59), args := #[Operand.tmp 52, Operand.tmp 54], argTypes := #[72, 26] }, type := 4, pos := "l10_pairs.go:56", after := #[{ on := 7, ground := Ground.data }, { on := 9, ground := Ground.data }, { on := 9, ground := Ground.chain }, { on := 3, ground := Ground.guard }], guard := some (3, true) }) rfl (fun K hK => ?_) AllReadyH.nil
                        go_simp
                        refine (holdsI_q _ _ _ _ _ _ _ _ DJ.1 DJ.2 DN HC2.out).mono ?_
                        rintro e u10 ⟨rfl, hbu10⟩
                        go_wp2_with fail
                        refine hK.out _ _ ?_ (fun hHeld => ?_)
                        · exact grew (by with_reducible assumption) hbu10
                        clear hK K
                        try simp only [Act.put, List.setIfInBounds_toArray, List.set_cons_zero, List.set_cons_succ]
                        refine wpAnyH_take (i := 11) (oi := { dst := some 56, op := Op.pick (Operand.tmp 48) (Operand.tmp 55) (Operand.const (Value.bool false)), type := 4, pos := "l10_pairs.go:56", after := #[{ on := 3, ground := Ground.data }, { on := 10, ground := Ground.data }], guard := none }) (v := ?v103yx11) rfl (by kernel_rfl) (by kernel_rfl) (by kernel_rfl) (fun _ _ _ h => h) (Or.inl ⟨by rfl, ?hy103yx11⟩) (by with_reducible assumption) ?rest103yx11
                        case hy103yx11 => (intro wS hSw; (try dsimp only at hSw); have z0 := cell_later hSw x0; have z1 := cell_later hSw x1; have z2 := cell_later hSw x2; have z3 := cell_later hSw x3; have z4 := cell_later hSw y0; have z5 := cell_later hSw y1; have z6 := cell_later hSw z0c; have z7 := cell_later hSw z1c; have z8 := cell_later hSw z2c; have z9 := cell_later hSw z3c; clear hSw; go_simp; try with_reducible rfl)
                        case' rest103yx11 => (try simp only [Act.put, List.setIfInBounds_toArray, List.set_cons_zero, List.set_cons_succ])
                        refine wpAnyH_done (by kernel_rfl) ?_ _
                        have hbn : Below wp.heap.size wp u10 := (by with_reducible assumption)
                        have hbt := grew HBM.out (grew hbq hbn)
                        have HOt := hid (HO.out.later (grew hbq hbn))
                        have hst := hbt.size
                        have hCt := HCr.later hbn
                        have hgt := hCt.lt
                        clear x0 x1 x2 x3 y0 y1 z0c z1c z2c z3c
                        go_wp2_with (at_builtin; refine wpList_append_w rfl (.tmp 57) (.tmp 61) 39 rfl (g + 1) Tryd.underlying39 hsi hs0 hs1 hs2 (by rfl) (.slice a4 L.length c4) (.slice (some ⟨u10.heap.size, 0, none⟩) 2 2) vs2 rfl (by rfl) (HOt.out.out.later (by go_grown)) ⟨u10.heap.size + 1, 0, none⟩ _ rfl (by simp [go_sem]) rfl (by have := HF.out; omega) (by simp; omega) ?_; intro gq cp6 w6 hO6 hg6 hgg6; have HP := hid (HOt.out.push (l := [(i : Int), (j : Int)]) (by go_grown) (by omega) (ownNewI u10 _ _ _ (by go_grown) (Nat.le_refl _)) hO6 hg6 hgg6); have HB6 := hid (((by go_grown : Below u10.heap.size u10 _).mono (show g + 1 ≤ u10.heap.size by omega)).trans ((HOt.out.out.later (by go_grown)).grownBelow hg6 (by simp; omega))); have HK7 := hid (box4_own ((K7.later hbn).later (by go_grown)) (HOt.out.out.later (by go_grown)) hg6); rw [hvl] at HP ⊢; clear hO6 hg6 hgg6)
                        go_roundw
                        case rel => exact ⟨m + 1, _, by have := HJ.out; omega, by have := HJ.out; first | go_num | (congr 1; omega), by rw [HFY.out (acQ_yes HAB.out (q := 2) (by omega) HAC.out), ← List.append_assoc, HL.out]; exact HP.out, hCt.kept (HB6.out.block _ (Nat.lt_succ_self _)), HK7.out, hbt.trans (HB6.out.mono (by have := HGE.out; omega))⟩
                        case measure => simp [intOf]; omega
                  · have hidx := idx3 p0 p1 p2 p3 k0 k1 k2 k3
                    obtain ⟨⟨nn0, nn1⟩, hnn⟩ : ∃ n, ng (k2, k3) = n := ⟨_, rfl⟩
                    have HN := hid hnn
                    have DD : dirB (k2, k3) := HDIR.out.2.2.2
                    have DN : dirB (nn0, nn1) := hnn ▸ DD.ng
                    obtain ⟨c1, hc1⟩ : ∃ c, hldI (p0, p1) (p2, p3) (k2, k3) = c := ⟨_, rfl⟩
                    obtain ⟨c2, hc2⟩ : ∃ c, hldI (p4, p5) (p6, p7) (nn0, nn1) = c := ⟨_, rfl⟩
                    have HC1 := hid hc1
                    have HC2 := hid hc2
                    have HAC : Hid (acQ (p0, p1) (p2, p3) (p4, p5) (p6, p7) 3 = (c1 && c2)) := by
                      show acQ _ _ _ _ _ = _
                      rw [HACQ.out 3]
                      show acI (p0, p1) (p2, p3) (p4, p5) (p6, p7) (k2, k3) = _
                      unfold acI; rw [hnn, hc1, hc2]
                    clear hc1 hc2 hnn
                    have K10 := BoxP.new wr k2 k3
                    have hbx : Below wr.heap.size wr (wr.alloc (.cells #[.int .i64 k2, .int .i64 k3] 26)) := by go_grown
                    go_upto_region 14 with fail
                    replace K7 := K7.later hbx
                    replace HCr := HCr.later hbx
                    replace hbq := grew hbq hbx
                    clear hbx
                    generalize wr.heap.size = B10 at K10 ⊢
                    generalize wr.alloc (.cells #[.int .i64 k2, .int .i64 k3] 26) = wp at K7 K10 HCr hbq ⊢
                    have x0 := K7.c0
                    have x1 := K7.c1
                    have x2 := K7.c2
                    have x3 := K7.c3
                    have y0 := K10.c0
                    have y1 := K10.c1
                    obtain ⟨z0c, z1c, z2c, z3c⟩ := HCr.cells hml
                    rw [HSE.out] at z0c z1c
                    rw [HSB.out] at z2c z3c
                    cases c1
                    · refine wp_region_held_drew (S := (fun u => Below wp.heap.size wp u)) (by kernel_rfl) ?_ (fun hHeld => ?_)
                      · exact (Below.refl _ _).drew
                      refine wpAnyH_take (i := 0) (oi := { dst := some 45, op := Op.load 72 (Operand.tmp 7), type := 72, pos := "l10_pairs.go:56", after := #[], guard := none }) (v := ?v105yx0) rfl (by kernel_rfl) (by kernel_rfl) (by kernel_rfl) (fun _ _ _ h => h) (Or.inl ⟨by rfl, ?hy105yx0⟩) (by with_reducible assumption) ?rest105yx0
                      case hy105yx0 => (intro wS hSw; (try dsimp only at hSw); have z0 := cell_later hSw x0; have z1 := cell_later hSw x1; have z2 := cell_later hSw x2; have z3 := cell_later hSw x3; have z4 := cell_later hSw y0; have z5 := cell_later hSw y1; have z6 := cell_later hSw z0c; have z7 := cell_later hSw z1c; have z8 := cell_later hSw z2c; have z9 := cell_later hSw z3c; clear hSw; go_simp; try with_reducible rfl)
                      case' rest105yx0 => (try simp only [Act.put, List.setIfInBounds_toArray, List.set_cons_zero, List.set_cons_succ])
                      refine wpAnyH_take (i := 1) (oi := { dst := some 46, op := Op.load 26 (Operand.tmp 10), type := 26, pos := "l10_pairs.go:56", after := #[], guard := none }) (v := ?v106yx1) rfl (by kernel_rfl) (by kernel_rfl) (by kernel_rfl) (fun _ _ _ h => h) (Or.inl ⟨by rfl, ?hy106yx1⟩) (by with_reducible assumption) ?rest106yx1
                      case hy106yx1 => (intro wS hSw; (try dsimp only at hSw); have z0 := cell_later hSw x0; have z1 := cell_later hSw x1; have z2 := cell_later hSw x2; have z3 := cell_later hSw x3; have z4 := cell_later hSw y0; have z5 := cell_later hSw y1; have z6 := cell_later hSw z0c; have z7 := cell_later hSw z1c; have z8 := cell_later hSw z2c; have z9 := cell_later hSw z3c; clear hSw; go_simp; try with_reducible rfl)
                      case' rest106yx1 => (try simp only [Act.put, List.setIfInBounds_toArray, List.set_cons_zero, List.set_cons_succ])
                      refine wpAnyH_ready (rs := [2]) (by kernel_rfl) (by simp) ?_
                      refine AllReadyH.cons (o := { dst := some 47, op := Op.call { callee := Callee.value (Operand.func 59), args := #[Operand.tmp 45, Operand.tmp 46], argTypes := #[72, 26] }, type := 4, pos := "l10_pairs.go:56", after := #[{ on := 0, ground := Ground.data }, { on := 1, ground := Ground.data }], guard := none }) rfl (fun K hK => ?_) AllReadyH.nil
                      go_simp
                      refine (holdsI_q _ _ _ _ _ _ _ _ DI.1 DI.2 DD HC1.out).mono ?_
                      rintro e u2 ⟨rfl, hbu2⟩
                      go_wp2_with fail
                      refine hK.out _ _ ?_ (fun hHeld => ?_)
                      · exact grew (by with_reducible assumption) hbu2
                      clear hK K
                      try simp only [Act.put, List.setIfInBounds_toArray, List.set_cons_zero, List.set_cons_succ]
                      refine wpAnyH_take (i := 3) (oi := { dst := some 48, op := Op.move (Operand.tmp 47), type := 4, pos := "l10_pairs.go:56", after := #[{ on := 2, ground := Ground.data }, { on := 2, ground := Ground.chain }], guard := none }) (v := ?v107yx3) rfl (by kernel_rfl) (by kernel_rfl) (by kernel_rfl) (fun _ _ _ h => h) (Or.inl ⟨by rfl, ?hy107yx3⟩) (by with_reducible assumption) ?rest107yx3
                      case hy107yx3 => (intro wS hSw; (try dsimp only at hSw); have z0 := cell_later hSw x0; have z1 := cell_later hSw x1; have z2 := cell_later hSw x2; have z3 := cell_later hSw x3; have z4 := cell_later hSw y0; have z5 := cell_later hSw y1; have z6 := cell_later hSw z0c; have z7 := cell_later hSw z1c; have z8 := cell_later hSw z2c; have z9 := cell_later hSw z3c; clear hSw; go_simp; try with_reducible rfl)
                      case' rest107yx3 => (try simp only [Act.put, List.setIfInBounds_toArray, List.set_cons_zero, List.set_cons_succ])
                      refine wpAnyH_take (i := 4) (oi := { dst := some 49, op := Op.move (Operand.tmp 4), type := 69, pos := "l10_pairs.go:56", after := #[{ on := 3, ground := Ground.guard }], guard := some (3, true) }) (v := undef) rfl (by kernel_rfl) (by kernel_rfl) (by kernel_rfl) (fun _ _ _ h => h) (Or.inr ⟨by rfl, rfl⟩) (by with_reducible assumption) ?rest108sx4
                      case' rest108sx4 => (try simp only [Act.put, List.setIfInBounds_toArray, List.set_cons_zero, List.set_cons_succ])
                      refine wpAnyH_take (i := 5) (oi := { dst := some 50, op := Op.move (Operand.tmp 8), type := 3, pos := "l10_pairs.go:56", after := #[{ on := 3, ground := Ground.guard }], guard := some (3, true) }) (v := undef) rfl (by kernel_rfl) (by kernel_rfl) (by kernel_rfl) (fun _ _ _ h => h) (Or.inr ⟨by rfl, rfl⟩) (by with_reducible assumption) ?rest109sx5
                      case' rest109sx5 => (try simp only [Act.put, List.setIfInBounds_toArray, List.set_cons_zero, List.set_cons_succ])
                      refine wpAnyH_take (i := 6) (oi := { dst := some 51, op := Op.indexAddr 69 (Operand.tmp 49) (Operand.tmp 50), type := 0, pos := "l10_pairs.go:56", after := #[{ on := 4, ground := Ground.data }, { on := 5, ground := Ground.data }, { on := 3, ground := Ground.guard }], guard := some (3, true) }) (v := undef) rfl (by kernel_rfl) (by kernel_rfl) (by kernel_rfl) (fun _ _ _ h => h) (Or.inr ⟨by rfl, rfl⟩) (by with_reducible assumption) ?rest110sx6
                      case' rest110sx6 => (try simp only [Act.put, List.setIfInBounds_toArray, List.set_cons_zero, List.set_cons_succ])
                      refine wpAnyH_take (i := 7) (oi := { dst := some 52, op := Op.load 72 (Operand.tmp 51), type := 72, pos := "l10_pairs.go:56", after := #[{ on := 6, ground := Ground.data }, { on := 3, ground := Ground.guard }], guard := some (3, true) }) (v := undef) rfl (by kernel_rfl) (by kernel_rfl) (by kernel_rfl) (fun _ _ _ h => h) (Or.inr ⟨by rfl, rfl⟩) (by with_reducible assumption) ?rest111sx7
                      case' rest111sx7 => (try simp only [Act.put, List.setIfInBounds_toArray, List.set_cons_zero, List.set_cons_succ])
                      refine wpAnyH_take (i := 8) (oi := { dst := some 53, op := Op.load 26 (Operand.tmp 10), type := 26, pos := "l10_pairs.go:56", after := #[{ on := 3, ground := Ground.guard }], guard := some (3, true) }) (v := undef) rfl (by kernel_rfl) (by kernel_rfl) (by kernel_rfl) (fun _ _ _ h => h) (Or.inr ⟨by rfl, rfl⟩) (by with_reducible assumption) ?rest112sx8
                      case' rest112sx8 => (try simp only [Act.put, List.setIfInBounds_toArray, List.set_cons_zero, List.set_cons_succ])
                      refine wpAnyH_take (i := 9) (oi := { dst := some 54, op := Op.call { callee := Callee.value (Operand.func 60), args := #[Operand.tmp 53], argTypes := #[26] }, type := 26, pos := "l10_pairs.go:56", after := #[{ on := 8, ground := Ground.data }, { on := 3, ground := Ground.chain }, { on := 3, ground := Ground.guard }], guard := some (3, true) }) (v := undef) rfl (by kernel_rfl) (by kernel_rfl) (by kernel_rfl) (fun _ _ _ h => h) (Or.inr ⟨by rfl, rfl⟩) (by with_reducible assumption) ?rest113sx9
                      case' rest113sx9 => (try simp only [Act.put, List.setIfInBounds_toArray, List.set_cons_zero, List.set_cons_succ])
                      refine wpAnyH_take (i := 10) (oi := { dst := some 55, op := Op.call { callee := Callee.value (Operand.func 59), args := #[Operand.tmp 52, Operand.tmp 54], argTypes := #[72, 26] }, type := 4, pos := "l10_pairs.go:56", after := #[{ on := 7, ground := Ground.data }, { on := 9, ground := Ground.data }, { on := 9, ground := Ground.chain }, { on := 3, ground := Ground.guard }], guard := some (3, true) }) (v := undef) rfl (by kernel_rfl) (by kernel_rfl) (by kernel_rfl) (fun _ _ _ h => h) (Or.inr ⟨by rfl, rfl⟩) (by with_reducible assumption) ?rest114sx10
                      case' rest114sx10 => (try simp only [Act.put, List.setIfInBounds_toArray, List.set_cons_zero, List.set_cons_succ])
                      refine wpAnyH_take (i := 11) (oi := { dst := some 56, op := Op.pick (Operand.tmp 48) (Operand.tmp 55) (Operand.const (Value.bool false)), type := 4, pos := "l10_pairs.go:56", after := #[{ on := 3, ground := Ground.data }, { on := 10, ground := Ground.data }], guard := none }) (v := ?v115yx11) rfl (by kernel_rfl) (by kernel_rfl) (by kernel_rfl) (fun _ _ _ h => h) (Or.inl ⟨by rfl, ?hy115yx11⟩) (by with_reducible assumption) ?rest115yx11
                      case hy115yx11 => (intro wS hSw; (try dsimp only at hSw); have z0 := cell_later hSw x0; have z1 := cell_later hSw x1; have z2 := cell_later hSw x2; have z3 := cell_later hSw x3; have z4 := cell_later hSw y0; have z5 := cell_later hSw y1; have z6 := cell_later hSw z0c; have z7 := cell_later hSw z1c; have z8 := cell_later hSw z2c; have z9 := cell_later hSw z3c; clear hSw; go_simp; try with_reducible rfl)
                      case' rest115yx11 => (try simp only [Act.put, List.setIfInBounds_toArray, List.set_cons_zero, List.set_cons_succ])
                      refine wpAnyH_done (by kernel_rfl) ?_ _
                      have hbn : Below wp.heap.size wp u2 := (by with_reducible assumption)
                      clear x0 x1 x2 x3 y0 y1 z0c z1c z2c z3c
                      go_wp2
                      go_roundw
                      case rel => exact ⟨3 + 1, by omega, rfl, by first | rfl | go_num, fun m hm => (by by_cases e : m = 3; (subst e; rw [HAC.out]; rfl); exact HNO.out m (by omega)), HCr.later hbn, K7.later hbn, grew hbq hbn⟩
                      case measure => simp [intOf]
                    · cases c2
                      · refine wp_region_held_drew (S := (fun u => Below wp.heap.size wp u)) (by kernel_rfl) ?_ (fun hHeld => ?_)
                        · exact (Below.refl _ _).drew
                        refine wpAnyH_take (i := 0) (oi := { dst := some 45, op := Op.load 72 (Operand.tmp 7), type := 72, pos := "l10_pairs.go:56", after := #[], guard := none }) (v := ?v117yx0) rfl (by kernel_rfl) (by kernel_rfl) (by kernel_rfl) (fun _ _ _ h => h) (Or.inl ⟨by rfl, ?hy117yx0⟩) (by with_reducible assumption) ?rest117yx0
                        case hy117yx0 => (intro wS hSw; (try dsimp only at hSw); have z0 := cell_later hSw x0; have z1 := cell_later hSw x1; have z2 := cell_later hSw x2; have z3 := cell_later hSw x3; have z4 := cell_later hSw y0; have z5 := cell_later hSw y1; have z6 := cell_later hSw z0c; have z7 := cell_later hSw z1c; have z8 := cell_later hSw z2c; have z9 := cell_later hSw z3c; clear hSw; go_simp; try with_reducible rfl)
                        case' rest117yx0 => (try simp only [Act.put, List.setIfInBounds_toArray, List.set_cons_zero, List.set_cons_succ])
                        refine wpAnyH_take (i := 1) (oi := { dst := some 46, op := Op.load 26 (Operand.tmp 10), type := 26, pos := "l10_pairs.go:56", after := #[], guard := none }) (v := ?v118yx1) rfl (by kernel_rfl) (by kernel_rfl) (by kernel_rfl) (fun _ _ _ h => h) (Or.inl ⟨by rfl, ?hy118yx1⟩) (by with_reducible assumption) ?rest118yx1
                        case hy118yx1 => (intro wS hSw; (try dsimp only at hSw); have z0 := cell_later hSw x0; have z1 := cell_later hSw x1; have z2 := cell_later hSw x2; have z3 := cell_later hSw x3; have z4 := cell_later hSw y0; have z5 := cell_later hSw y1; have z6 := cell_later hSw z0c; have z7 := cell_later hSw z1c; have z8 := cell_later hSw z2c; have z9 := cell_later hSw z3c; clear hSw; go_simp; try with_reducible rfl)
                        case' rest118yx1 => (try simp only [Act.put, List.setIfInBounds_toArray, List.set_cons_zero, List.set_cons_succ])
                        refine wpAnyH_ready (rs := [2]) (by kernel_rfl) (by simp) ?_
                        refine AllReadyH.cons (o := { dst := some 47, op := Op.call { callee := Callee.value (Operand.func 59), args := #[Operand.tmp 45, Operand.tmp 46], argTypes := #[72, 26] }, type := 4, pos := "l10_pairs.go:56", after := #[{ on := 0, ground := Ground.data }, { on := 1, ground := Ground.data }], guard := none }) rfl (fun K hK => ?_) AllReadyH.nil
                        go_simp
                        refine (holdsI_q _ _ _ _ _ _ _ _ DI.1 DI.2 DD HC1.out).mono ?_
                        rintro e u2 ⟨rfl, hbu2⟩
                        go_wp2_with fail
                        refine hK.out _ _ ?_ (fun hHeld => ?_)
                        · exact grew (by with_reducible assumption) hbu2
                        clear hK K
                        try simp only [Act.put, List.setIfInBounds_toArray, List.set_cons_zero, List.set_cons_succ]
                        refine wpAnyH_take (i := 3) (oi := { dst := some 48, op := Op.move (Operand.tmp 47), type := 4, pos := "l10_pairs.go:56", after := #[{ on := 2, ground := Ground.data }, { on := 2, ground := Ground.chain }], guard := none }) (v := ?v119yx3) rfl (by kernel_rfl) (by kernel_rfl) (by kernel_rfl) (fun _ _ _ h => h) (Or.inl ⟨by rfl, ?hy119yx3⟩) (by with_reducible assumption) ?rest119yx3
                        case hy119yx3 => (intro wS hSw; (try dsimp only at hSw); have z0 := cell_later hSw x0; have z1 := cell_later hSw x1; have z2 := cell_later hSw x2; have z3 := cell_later hSw x3; have z4 := cell_later hSw y0; have z5 := cell_later hSw y1; have z6 := cell_later hSw z0c; have z7 := cell_later hSw z1c; have z8 := cell_later hSw z2c; have z9 := cell_later hSw z3c; clear hSw; go_simp; try with_reducible rfl)
                        case' rest119yx3 => (try simp only [Act.put, List.setIfInBounds_toArray, List.set_cons_zero, List.set_cons_succ])
                        refine wpAnyH_take (i := 4) (oi := { dst := some 49, op := Op.move (Operand.tmp 4), type := 69, pos := "l10_pairs.go:56", after := #[{ on := 3, ground := Ground.guard }], guard := some (3, true) }) (v := ?v120yx4) rfl (by kernel_rfl) (by kernel_rfl) (by kernel_rfl) (fun _ _ _ h => h) (Or.inl ⟨by rfl, ?hy120yx4⟩) (by with_reducible assumption) ?rest120yx4
                        case hy120yx4 => (intro wS hSw; (try dsimp only at hSw); have z0 := cell_later hSw x0; have z1 := cell_later hSw x1; have z2 := cell_later hSw x2; have z3 := cell_later hSw x3; have z4 := cell_later hSw y0; have z5 := cell_later hSw y1; have z6 := cell_later hSw z0c; have z7 := cell_later hSw z1c; have z8 := cell_later hSw z2c; have z9 := cell_later hSw z3c; clear hSw; go_simp; try with_reducible rfl)
                        case' rest120yx4 => (try simp only [Act.put, List.setIfInBounds_toArray, List.set_cons_zero, List.set_cons_succ])
                        refine wpAnyH_take (i := 5) (oi := { dst := some 50, op := Op.move (Operand.tmp 8), type := 3, pos := "l10_pairs.go:56", after := #[{ on := 3, ground := Ground.guard }], guard := some (3, true) }) (v := ?v121yx5) rfl (by kernel_rfl) (by kernel_rfl) (by kernel_rfl) (fun _ _ _ h => h) (Or.inl ⟨by rfl, ?hy121yx5⟩) (by with_reducible assumption) ?rest121yx5
                        case hy121yx5 => (intro wS hSw; (try dsimp only at hSw); have z0 := cell_later hSw x0; have z1 := cell_later hSw x1; have z2 := cell_later hSw x2; have z3 := cell_later hSw x3; have z4 := cell_later hSw y0; have z5 := cell_later hSw y1; have z6 := cell_later hSw z0c; have z7 := cell_later hSw z1c; have z8 := cell_later hSw z2c; have z9 := cell_later hSw z3c; clear hSw; go_simp; try with_reducible rfl)
                        case' rest121yx5 => (try simp only [Act.put, List.setIfInBounds_toArray, List.set_cons_zero, List.set_cons_succ])
                        refine wpAnyH_take (i := 6) (oi := { dst := some 51, op := Op.indexAddr 69 (Operand.tmp 49) (Operand.tmp 50), type := 0, pos := "l10_pairs.go:56", after := #[{ on := 4, ground := Ground.data }, { on := 5, ground := Ground.data }, { on := 3, ground := Ground.guard }], guard := some (3, true) }) (v := ?v122yx6) rfl (by kernel_rfl) (by kernel_rfl) (by kernel_rfl) (fun _ _ _ h => h) (Or.inl ⟨by rfl, ?hy122yx6⟩) (by with_reducible assumption) ?rest122yx6
                        case hy122yx6 => (intro wS hSw; (try dsimp only at hSw); have z0 := cell_later hSw x0; have z1 := cell_later hSw x1; have z2 := cell_later hSw x2; have z3 := cell_later hSw x3; have z4 := cell_later hSw y0; have z5 := cell_later hSw y1; have z6 := cell_later hSw z0c; have z7 := cell_later hSw z1c; have z8 := cell_later hSw z2c; have z9 := cell_later hSw z3c; clear hSw; go_simp; try with_reducible rfl)
                        case' rest122yx6 => (try simp only [Act.put, List.setIfInBounds_toArray, List.set_cons_zero, List.set_cons_succ])
                        refine wpAnyH_take (i := 7) (oi := { dst := some 52, op := Op.load 72 (Operand.tmp 51), type := 72, pos := "l10_pairs.go:56", after := #[{ on := 6, ground := Ground.data }, { on := 3, ground := Ground.guard }], guard := some (3, true) }) (v := ?v123yx7) rfl (by kernel_rfl) (by kernel_rfl) (by kernel_rfl) (fun _ _ _ h => h) (Or.inl ⟨by rfl, ?hy123yx7⟩) (by with_reducible assumption) ?rest123yx7
                        case hy123yx7 => (intro wS hSw; (try dsimp only at hSw); have z0 := cell_later hSw x0; have z1 := cell_later hSw x1; have z2 := cell_later hSw x2; have z3 := cell_later hSw x3; have z4 := cell_later hSw y0; have z5 := cell_later hSw y1; have z6 := cell_later hSw z0c; have z7 := cell_later hSw z1c; have z8 := cell_later hSw z2c; have z9 := cell_later hSw z3c; clear hSw; go_simp; try with_reducible rfl)
                        case' rest123yx7 => (try simp only [Act.put, List.setIfInBounds_toArray, List.set_cons_zero, List.set_cons_succ])
                        refine wpAnyH_take (i := 8) (oi := { dst := some 53, op := Op.load 26 (Operand.tmp 10), type := 26, pos := "l10_pairs.go:56", after := #[{ on := 3, ground := Ground.guard }], guard := some (3, true) }) (v := ?v124yx8) rfl (by kernel_rfl) (by kernel_rfl) (by kernel_rfl) (fun _ _ _ h => h) (Or.inl ⟨by rfl, ?hy124yx8⟩) (by with_reducible assumption) ?rest124yx8
                        case hy124yx8 => (intro wS hSw; (try dsimp only at hSw); have z0 := cell_later hSw x0; have z1 := cell_later hSw x1; have z2 := cell_later hSw x2; have z3 := cell_later hSw x3; have z4 := cell_later hSw y0; have z5 := cell_later hSw y1; have z6 := cell_later hSw z0c; have z7 := cell_later hSw z1c; have z8 := cell_later hSw z2c; have z9 := cell_later hSw z3c; clear hSw; go_simp; try with_reducible rfl)
                        case' rest124yx8 => (try simp only [Act.put, List.setIfInBounds_toArray, List.set_cons_zero, List.set_cons_succ])
                        refine wpAnyH_ready (rs := [9]) (by kernel_rfl) (by simp) ?_
                        refine AllReadyH.cons (o := { dst := some 54, op := Op.call { callee := Callee.value (Operand.func 60), args := #[Operand.tmp 53], argTypes := #[26] }, type := 26, pos := "l10_pairs.go:56", after := #[{ on := 8, ground := Ground.data }, { on := 3, ground := Ground.chain }, { on := 3, ground := Ground.guard }], guard := some (3, true) }) rfl (fun K hK => ?_) AllReadyH.nil
                        go_simp
                        refine (opposite_q _ _ _ _ _ DD HN.out).mono ?_
                        rintro e u9 ⟨rfl, hbu9⟩
                        go_wp2_with fail
                        refine hK.out _ _ ?_ (fun hHeld => ?_)
                        · exact grew (by with_reducible assumption) hbu9
                        clear hK K
                        try simp only [Act.put, List.setIfInBounds_toArray, List.set_cons_zero, List.set_cons_succ]
                        refine wpAnyH_ready (rs := [10]) (by kernel_rfl) (by simp) ?_
                        refine AllReadyH.cons (o := { dst := some 55, op := Op.call { callee := Callee.value (Operand.func 59), args := #[Operand.tmp 52, Operand.tmp 54], argTypes := #[72, 26] }, type := 4, pos := "l10_pairs.go:56", after := #[{ on := 7, ground := Ground.data }, { on := 9, ground := Ground.data }, { on := 9, ground := Ground.chain }, { on := 3, ground := Ground.guard }], guard := some (3, true) }) rfl (fun K hK => ?_) AllReadyH.nil
                        go_simp
                        refine (holdsI_q _ _ _ _ _ _ _ _ DJ.1 DJ.2 DN HC2.out).mono ?_
                        rintro e u10 ⟨rfl, hbu10⟩
                        go_wp2_with fail
                        refine hK.out _ _ ?_ (fun hHeld => ?_)
                        · exact grew (by with_reducible assumption) hbu10
                        clear hK K
                        try simp only [Act.put, List.setIfInBounds_toArray, List.set_cons_zero, List.set_cons_succ]
                        refine wpAnyH_take (i := 11) (oi := { dst := some 56, op := Op.pick (Operand.tmp 48) (Operand.tmp 55) (Operand.const (Value.bool false)), type := 4, pos := "l10_pairs.go:56", after := #[{ on := 3, ground := Ground.data }, { on := 10, ground := Ground.data }], guard := none }) (v := ?v125yx11) rfl (by kernel_rfl) (by kernel_rfl) (by kernel_rfl) (fun _ _ _ h => h) (Or.inl ⟨by rfl, ?hy125yx11⟩) (by with_reducible assumption) ?rest125yx11
                        case hy125yx11 => (intro wS hSw; (try dsimp only at hSw); have z0 := cell_later hSw x0; have z1 := cell_later hSw x1; have z2 := cell_later hSw x2; have z3 := cell_later hSw x3; have z4 := cell_later hSw y0; have z5 := cell_later hSw y1; have z6 := cell_later hSw z0c; have z7 := cell_later hSw z1c; have z8 := cell_later hSw z2c; have z9 := cell_later hSw z3c; clear hSw; go_simp; try with_reducible rfl)
                        case' rest125yx11 => (try simp only [Act.put, List.setIfInBounds_toArray, List.set_cons_zero, List.set_cons_succ])
                        refine wpAnyH_done (by kernel_rfl) ?_ _
                        have hbn : Below wp.heap.size wp u10 := (by with_reducible assumption)
                        clear x0 x1 x2 x3 y0 y1 z0c z1c z2c z3c
                        go_wp2
                        go_roundw
                        case rel => exact ⟨3 + 1, by omega, rfl, by first | rfl | go_num, fun m hm => (by by_cases e : m = 3; (subst e; rw [HAC.out]; rfl); exact HNO.out m (by omega)), HCr.later hbn, K7.later hbn, grew hbq hbn⟩
                        case measure => simp [intOf]
                      · refine wp_region_held_drew (S := (fun u => Below wp.heap.size wp u)) (by kernel_rfl) ?_ (fun hHeld => ?_)
                        · exact (Below.refl _ _).drew
                        refine wpAnyH_take (i := 0) (oi := { dst := some 45, op := Op.load 72 (Operand.tmp 7), type := 72, pos := "l10_pairs.go:56", after := #[], guard := none }) (v := ?v127yx0) rfl (by kernel_rfl) (by kernel_rfl) (by kernel_rfl) (fun _ _ _ h => h) (Or.inl ⟨by rfl, ?hy127yx0⟩) (by with_reducible assumption) ?rest127yx0
                        case hy127yx0 => (intro wS hSw; (try dsimp only at hSw); have z0 := cell_later hSw x0; have z1 := cell_later hSw x1; have z2 := cell_later hSw x2; have z3 := cell_later hSw x3; have z4 := cell_later hSw y0; have z5 := cell_later hSw y1; have z6 := cell_later hSw z0c; have z7 := cell_later hSw z1c; have z8 := cell_later hSw z2c; have z9 := cell_later hSw z3c; clear hSw; go_simp; try with_reducible rfl)
                        case' rest127yx0 => (try simp only [Act.put, List.setIfInBounds_toArray, List.set_cons_zero, List.set_cons_succ])
                        refine wpAnyH_take (i := 1) (oi := { dst := some 46, op := Op.load 26 (Operand.tmp 10), type := 26, pos := "l10_pairs.go:56", after := #[], guard := none }) (v := ?v128yx1) rfl (by kernel_rfl) (by kernel_rfl) (by kernel_rfl) (fun _ _ _ h => h) (Or.inl ⟨by rfl, ?hy128yx1⟩) (by with_reducible assumption) ?rest128yx1
                        case hy128yx1 => (intro wS hSw; (try dsimp only at hSw); have z0 := cell_later hSw x0; have z1 := cell_later hSw x1; have z2 := cell_later hSw x2; have z3 := cell_later hSw x3; have z4 := cell_later hSw y0; have z5 := cell_later hSw y1; have z6 := cell_later hSw z0c; have z7 := cell_later hSw z1c; have z8 := cell_later hSw z2c; have z9 := cell_later hSw z3c; clear hSw; go_simp; try with_reducible rfl)
                        case' rest128yx1 => (try simp only [Act.put, List.setIfInBounds_toArray, List.set_cons_zero, List.set_cons_succ])
                        refine wpAnyH_ready (rs := [2]) (by kernel_rfl) (by simp) ?_
                        refine AllReadyH.cons (o := { dst := some 47, op := Op.call { callee := Callee.value (Operand.func 59), args := #[Operand.tmp 45, Operand.tmp 46], argTypes := #[72, 26] }, type := 4, pos := "l10_pairs.go:56", after := #[{ on := 0, ground := Ground.data }, { on := 1, ground := Ground.data }], guard := none }) rfl (fun K hK => ?_) AllReadyH.nil
                        go_simp
                        refine (holdsI_q _ _ _ _ _ _ _ _ DI.1 DI.2 DD HC1.out).mono ?_
                        rintro e u2 ⟨rfl, hbu2⟩
                        go_wp2_with fail
                        refine hK.out _ _ ?_ (fun hHeld => ?_)
                        · exact grew (by with_reducible assumption) hbu2
                        clear hK K
                        try simp only [Act.put, List.setIfInBounds_toArray, List.set_cons_zero, List.set_cons_succ]
                        refine wpAnyH_take (i := 3) (oi := { dst := some 48, op := Op.move (Operand.tmp 47), type := 4, pos := "l10_pairs.go:56", after := #[{ on := 2, ground := Ground.data }, { on := 2, ground := Ground.chain }], guard := none }) (v := ?v129yx3) rfl (by kernel_rfl) (by kernel_rfl) (by kernel_rfl) (fun _ _ _ h => h) (Or.inl ⟨by rfl, ?hy129yx3⟩) (by with_reducible assumption) ?rest129yx3
                        case hy129yx3 => (intro wS hSw; (try dsimp only at hSw); have z0 := cell_later hSw x0; have z1 := cell_later hSw x1; have z2 := cell_later hSw x2; have z3 := cell_later hSw x3; have z4 := cell_later hSw y0; have z5 := cell_later hSw y1; have z6 := cell_later hSw z0c; have z7 := cell_later hSw z1c; have z8 := cell_later hSw z2c; have z9 := cell_later hSw z3c; clear hSw; go_simp; try with_reducible rfl)
                        case' rest129yx3 => (try simp only [Act.put, List.setIfInBounds_toArray, List.set_cons_zero, List.set_cons_succ])
                        refine wpAnyH_take (i := 4) (oi := { dst := some 49, op := Op.move (Operand.tmp 4), type := 69, pos := "l10_pairs.go:56", after := #[{ on := 3, ground := Ground.guard }], guard := some (3, true) }) (v := ?v130yx4) rfl (by kernel_rfl) (by kernel_rfl) (by kernel_rfl) (fun _ _ _ h => h) (Or.inl ⟨by rfl, ?hy130yx4⟩) (by with_reducible assumption) ?rest130yx4
                        case hy130yx4 => (intro wS hSw; (try dsimp only at hSw); have z0 := cell_later hSw x0; have z1 := cell_later hSw x1; have z2 := cell_later hSw x2; have z3 := cell_later hSw x3; have z4 := cell_later hSw y0; have z5 := cell_later hSw y1; have z6 := cell_later hSw z0c; have z7 := cell_later hSw z1c; have z8 := cell_later hSw z2c; have z9 := cell_later hSw z3c; clear hSw; go_simp; try with_reducible rfl)
                        case' rest130yx4 => (try simp only [Act.put, List.setIfInBounds_toArray, List.set_cons_zero, List.set_cons_succ])
                        refine wpAnyH_take (i := 5) (oi := { dst := some 50, op := Op.move (Operand.tmp 8), type := 3, pos := "l10_pairs.go:56", after := #[{ on := 3, ground := Ground.guard }], guard := some (3, true) }) (v := ?v131yx5) rfl (by kernel_rfl) (by kernel_rfl) (by kernel_rfl) (fun _ _ _ h => h) (Or.inl ⟨by rfl, ?hy131yx5⟩) (by with_reducible assumption) ?rest131yx5
                        case hy131yx5 => (intro wS hSw; (try dsimp only at hSw); have z0 := cell_later hSw x0; have z1 := cell_later hSw x1; have z2 := cell_later hSw x2; have z3 := cell_later hSw x3; have z4 := cell_later hSw y0; have z5 := cell_later hSw y1; have z6 := cell_later hSw z0c; have z7 := cell_later hSw z1c; have z8 := cell_later hSw z2c; have z9 := cell_later hSw z3c; clear hSw; go_simp; try with_reducible rfl)
                        case' rest131yx5 => (try simp only [Act.put, List.setIfInBounds_toArray, List.set_cons_zero, List.set_cons_succ])
                        refine wpAnyH_take (i := 6) (oi := { dst := some 51, op := Op.indexAddr 69 (Operand.tmp 49) (Operand.tmp 50), type := 0, pos := "l10_pairs.go:56", after := #[{ on := 4, ground := Ground.data }, { on := 5, ground := Ground.data }, { on := 3, ground := Ground.guard }], guard := some (3, true) }) (v := ?v132yx6) rfl (by kernel_rfl) (by kernel_rfl) (by kernel_rfl) (fun _ _ _ h => h) (Or.inl ⟨by rfl, ?hy132yx6⟩) (by with_reducible assumption) ?rest132yx6
                        case hy132yx6 => (intro wS hSw; (try dsimp only at hSw); have z0 := cell_later hSw x0; have z1 := cell_later hSw x1; have z2 := cell_later hSw x2; have z3 := cell_later hSw x3; have z4 := cell_later hSw y0; have z5 := cell_later hSw y1; have z6 := cell_later hSw z0c; have z7 := cell_later hSw z1c; have z8 := cell_later hSw z2c; have z9 := cell_later hSw z3c; clear hSw; go_simp; try with_reducible rfl)
                        case' rest132yx6 => (try simp only [Act.put, List.setIfInBounds_toArray, List.set_cons_zero, List.set_cons_succ])
                        refine wpAnyH_take (i := 7) (oi := { dst := some 52, op := Op.load 72 (Operand.tmp 51), type := 72, pos := "l10_pairs.go:56", after := #[{ on := 6, ground := Ground.data }, { on := 3, ground := Ground.guard }], guard := some (3, true) }) (v := ?v133yx7) rfl (by kernel_rfl) (by kernel_rfl) (by kernel_rfl) (fun _ _ _ h => h) (Or.inl ⟨by rfl, ?hy133yx7⟩) (by with_reducible assumption) ?rest133yx7
                        case hy133yx7 => (intro wS hSw; (try dsimp only at hSw); have z0 := cell_later hSw x0; have z1 := cell_later hSw x1; have z2 := cell_later hSw x2; have z3 := cell_later hSw x3; have z4 := cell_later hSw y0; have z5 := cell_later hSw y1; have z6 := cell_later hSw z0c; have z7 := cell_later hSw z1c; have z8 := cell_later hSw z2c; have z9 := cell_later hSw z3c; clear hSw; go_simp; try with_reducible rfl)
                        case' rest133yx7 => (try simp only [Act.put, List.setIfInBounds_toArray, List.set_cons_zero, List.set_cons_succ])
                        refine wpAnyH_take (i := 8) (oi := { dst := some 53, op := Op.load 26 (Operand.tmp 10), type := 26, pos := "l10_pairs.go:56", after := #[{ on := 3, ground := Ground.guard }], guard := some (3, true) }) (v := ?v134yx8) rfl (by kernel_rfl) (by kernel_rfl) (by kernel_rfl) (fun _ _ _ h => h) (Or.inl ⟨by rfl, ?hy134yx8⟩) (by with_reducible assumption) ?rest134yx8
                        case hy134yx8 => (intro wS hSw; (try dsimp only at hSw); have z0 := cell_later hSw x0; have z1 := cell_later hSw x1; have z2 := cell_later hSw x2; have z3 := cell_later hSw x3; have z4 := cell_later hSw y0; have z5 := cell_later hSw y1; have z6 := cell_later hSw z0c; have z7 := cell_later hSw z1c; have z8 := cell_later hSw z2c; have z9 := cell_later hSw z3c; clear hSw; go_simp; try with_reducible rfl)
                        case' rest134yx8 => (try simp only [Act.put, List.setIfInBounds_toArray, List.set_cons_zero, List.set_cons_succ])
                        refine wpAnyH_ready (rs := [9]) (by kernel_rfl) (by simp) ?_
                        refine AllReadyH.cons (o := { dst := some 54, op := Op.call { callee := Callee.value (Operand.func 60), args := #[Operand.tmp 53], argTypes := #[26] }, type := 26, pos := "l10_pairs.go:56", after := #[{ on := 8, ground := Ground.data }, { on := 3, ground := Ground.chain }, { on := 3, ground := Ground.guard }], guard := some (3, true) }) rfl (fun K hK => ?_) AllReadyH.nil
                        go_simp
                        refine (opposite_q _ _ _ _ _ DD HN.out).mono ?_
                        rintro e u9 ⟨rfl, hbu9⟩
                        go_wp2_with fail
                        refine hK.out _ _ ?_ (fun hHeld => ?_)
                        · exact grew (by with_reducible assumption) hbu9
                        clear hK K
                        try simp only [Act.put, List.setIfInBounds_toArray, List.set_cons_zero, List.set_cons_succ]
                        refine wpAnyH_ready (rs := [10]) (by kernel_rfl) (by simp) ?_
                        refine AllReadyH.cons (o := { dst := some 55, op := Op.call { callee := Callee.value (Operand.func 59), args := #[Operand.tmp 52, Operand.tmp 54], argTypes := #[72, 26] }, type := 4, pos := "l10_pairs.go:56", after := #[{ on := 7, ground := Ground.data }, { on := 9, ground := Ground.data }, { on := 9, ground := Ground.chain }, { on := 3, ground := Ground.guard }], guard := some (3, true) }) rfl (fun K hK => ?_) AllReadyH.nil
                        go_simp
                        refine (holdsI_q _ _ _ _ _ _ _ _ DJ.1 DJ.2 DN HC2.out).mono ?_
                        rintro e u10 ⟨rfl, hbu10⟩
                        go_wp2_with fail
                        refine hK.out _ _ ?_ (fun hHeld => ?_)
                        · exact grew (by with_reducible assumption) hbu10
                        clear hK K
                        try simp only [Act.put, List.setIfInBounds_toArray, List.set_cons_zero, List.set_cons_succ]
                        refine wpAnyH_take (i := 11) (oi := { dst := some 56, op := Op.pick (Operand.tmp 48) (Operand.tmp 55) (Operand.const (Value.bool false)), type := 4, pos := "l10_pairs.go:56", after := #[{ on := 3, ground := Ground.data }, { on := 10, ground := Ground.data }], guard := none }) (v := ?v135yx11) rfl (by kernel_rfl) (by kernel_rfl) (by kernel_rfl) (fun _ _ _ h => h) (Or.inl ⟨by rfl, ?hy135yx11⟩) (by with_reducible assumption) ?rest135yx11
                        case hy135yx11 => (intro wS hSw; (try dsimp only at hSw); have z0 := cell_later hSw x0; have z1 := cell_later hSw x1; have z2 := cell_later hSw x2; have z3 := cell_later hSw x3; have z4 := cell_later hSw y0; have z5 := cell_later hSw y1; have z6 := cell_later hSw z0c; have z7 := cell_later hSw z1c; have z8 := cell_later hSw z2c; have z9 := cell_later hSw z3c; clear hSw; go_simp; try with_reducible rfl)
                        case' rest135yx11 => (try simp only [Act.put, List.setIfInBounds_toArray, List.set_cons_zero, List.set_cons_succ])
                        refine wpAnyH_done (by kernel_rfl) ?_ _
                        have hbn : Below wp.heap.size wp u10 := (by with_reducible assumption)
                        have hbt := grew HBM.out (grew hbq hbn)
                        have HOt := hid (HO.out.later (grew hbq hbn))
                        have hst := hbt.size
                        have hCt := HCr.later hbn
                        have hgt := hCt.lt
                        clear x0 x1 x2 x3 y0 y1 z0c z1c z2c z3c
                        go_wp2_with (at_builtin; refine wpList_append_w rfl (.tmp 57) (.tmp 61) 39 rfl (g + 1) Tryd.underlying39 hsi hs0 hs1 hs2 (by rfl) (.slice a4 L.length c4) (.slice (some ⟨u10.heap.size, 0, none⟩) 2 2) vs2 rfl (by rfl) (HOt.out.out.later (by go_grown)) ⟨u10.heap.size + 1, 0, none⟩ _ rfl (by simp [go_sem]) rfl (by have := HF.out; omega) (by simp; omega) ?_; intro gq cp6 w6 hO6 hg6 hgg6; have HP := hid (HOt.out.push (l := [(i : Int), (j : Int)]) (by go_grown) (by omega) (ownNewI u10 _ _ _ (by go_grown) (Nat.le_refl _)) hO6 hg6 hgg6); have HB6 := hid (((by go_grown : Below u10.heap.size u10 _).mono (show g + 1 ≤ u10.heap.size by omega)).trans ((HOt.out.out.later (by go_grown)).grownBelow hg6 (by simp; omega))); have HK7 := hid (box4_own ((K7.later hbn).later (by go_grown)) (HOt.out.out.later (by go_grown)) hg6); rw [hvl] at HP ⊢; clear hO6 hg6 hgg6)
                        go_roundw
                        case rel => exact ⟨m + 1, _, by have := HJ.out; omega, by have := HJ.out; first | go_num | (congr 1; omega), by rw [HFY.out (acQ_yes HAB.out (q := 3) (by omega) HAC.out), ← List.append_assoc, HL.out]; exact HP.out, hCt.kept (HB6.out.block _ (Nat.lt_succ_self _)), HK7.out, hbt.trans (HB6.out.mono (by have := HGE.out; omega))⟩
                        case measure => simp [intOf]; omega
                · obtain rfl : k = 4 := by omega
                  have hfalse := acQ_no HAB.out HNO.out
                  go_wp2
                  go_roundw
                  case rel => exact ⟨m + 1, vs2, by have := HJ.out; omega, by have := HJ.out; first | go_num | (congr 1; omega), by rw [HFN.out hfalse, HL.out]; exact HO.out.later hbq, HCr, K7, grew HBM.out hbq⟩
                  case measure => simp [intOf]; omega
            · have hjn : j = l.length := by omega
              have hd : decide ((j : Int) < (l.length : Int)) = false := decide_eq_false (by omega)
              have HJ := hid hj
              clear hj
              go_wp2
              rw [Exit.noGoto_normal]
              go_wp2
              go_roundw
              case rel => exact ⟨i + 1, vs2, by omega, by go_num, by rw [acTo, show l.length - (i + 1) = m by have := HJ.out; omega]; exact HO.out, hC, hbw⟩
              case measure => simp [intOf]; omega
        · obtain rfl : i = l.length := by omega
          go_wp2
          go_ret2
          exact ⟨_, vs, ret_vbI HK.out.symm, by unfold acV; rw [HK.out, if_pos rfl]; exact hO.mono (by have := HGE.out; omega), hbw⟩
    · have HK := hid (show acOk l = false by unfold acOk; rw [hG, decide_eq_false h3]; rfl)
      have hd3 : decide ((l.length : Int) < 3) = true := decide_eq_true (by omega)
      have hd4 : l.length < 3 := by omega
      go_enter Tryd.func26, Tryd.ntmps26
      go_wp2_with (go_at_call 56; refine (goodHullImpl_c l _ _ _ _ rfl h1 HA.out C0.out).mono ?_; rw [hG]; rintro e w1 ⟨rfl, hb1⟩)
      go_ret2
      exact ⟨_, [], ret_vbI HK.out.symm, by unfold acV; rw [HK.out]; exact OwnIS.nil _ _, hb1⟩
end Go.Proofs.YtipiamhnngmjmaaDoor
