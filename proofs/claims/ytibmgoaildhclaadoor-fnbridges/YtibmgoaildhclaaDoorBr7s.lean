/-
  Lower chains: the specification's test (contracts for the walks).
  Conditions: as each theorem states them.
-/
import Derived.Test.YtibmgoaildhclaaDoorBr7
namespace Go.Proofs.YtibmgoaildhclaaDoor
open Go.RowKit Go.Shelf
set_option linter.unusedVariables false
set_option maxRecDepth 8000
theorem chI_end {l : List (Int × Int)} (hC : GoodTo l l.length) (hR : RisesTo l (l.length - 1)) (hT : TrTo slB l l.length) : chI l = decide (1 ≤ l.length ∧ l.length ≤ 60) := by
  have hG : allG l := allG_of hC
  have h3 : aT (trT tlB l) (l.length - 2) = true := aT_iff.2 fun i hi => by
    have := hT i (by omega)
    unfold trT at this ⊢
    rw [tl_sl8 (gpt8 hG (by omega)) (gpt8 hG (by omega)) (gpt8 hG (by omega))]
    exact this
  unfold chI
  rw [goodL_len hC hR, h3, Bool.and_true]
  rw [Bool.eq_iff_iff]
  simp only [Bool.and_eq_true, decide_eq_true_eq]
  omega
theorem chI_bad {l : List (Int × Int)} {k : Nat} (hk : k < l.length) (e : goodB (px l k) (py l k) = false) : chI l = false := by
  unfold chI; rw [goodL_bad hk e]; rfl
theorem chI_fall {l : List (Int × Int)} {k : Nat} (hk : k + 1 < l.length) (e : lessB (px l k) (py l k) (px l (k + 1)) (py l (k + 1)) = false) : chI l = false := by
  unfold chI; rw [goodL_fall hk e]; rfl
theorem chI_turnless {l : List (Int × Int)} {k : Nat} (hk : k + 2 < l.length) (hC : GoodTo l (k + 3)) (e : slB (pt l k) (pt l (k + 1)) (pt l (k + 2)) = false) : chI l = false := by
  refine chI_no hk ?_
  unfold trT
  rw [tl_sl8 (a := pt l k) (b := pt l (k + 1)) (q := pt l (k + 2)) (hC k (by omega)) (hC (k + 1) (by omega)) (hC (k + 2) (by omega))]
  exact e
set_option maxHeartbeats 4000000 in
theorem l7Chain_c (l : List (Int × Int)) (a : Option Addr) (len cap : Nat) (w : World) (hl : l.length = len) (h1 : len ≤ 1048576) (hA : At w.heap.size a l w) :
    Calls Tryd.prog 41 #[.slice a len cap] w fun e w' => e = .returned (.bool (chI l)) ∧ Below w.heap.size w w' := by
  subst hl
  have HA := hid hA
  clear hA
  go_enter Tryd.func41, Tryd.ntmps41
  go_wp2
  go_loopw [7] (fun i wr => ∃ k : Nat, k ≤ l.length ∧ i = .int .i64 (k : Int) ∧ GoodTo l k ∧ RisesTo l (k - 1) ∧ TrTo slB l k ∧ Below w.heap.size w wr) (fun i _ => l.length - (intOf i).toNat)
  case atStart => exact ⟨0, Nat.zero_le _, rfl, GoodTo.zero l, RisesTo.zero l, fun i hi => absurd hi (by omega), by go_grown⟩
  case round =>
    obtain ⟨k, hk, rfl, hC, hR, hT, hbw⟩ := hrel
    have HC := hid hC
    have HR := hid hR
    have HT := hid hT
    clear hC hR hT
    by_cases hkl : k < l.length
    · obtain ⟨b, off, rfl, hbN, g0, g1⟩ := HA.out k hkl
      have q0 := cell_later hbw g0
      have q1 := cell_later hbw g1
      clear g0 g1
      have nk : (0 : Int) ≤ (k : Int) := by omega
      have nk1 : (k : Int) < (l.length : Int) := by omega
      obtain ⟨x, hx⟩ : ∃ x, px l k = x := ⟨_, rfl⟩
      obtain ⟨y, hy⟩ : ∃ y, py l k = y := ⟨_, rfl⟩
      rw [hx] at q0
      rw [hy] at q1
      cases hg : goodB x y
      · have E := hid (chI_bad hkl (by rw [hx, hy]; exact hg))
        clear hx hy
        go_upto_region 4 with fail
        have hb8 : Below wr.heap.size wr (wr.alloc (.cells #[.int .i64 x, .int .i64 y] 44)) := by go_grown
        have k0 := box0 wr x y 44
        have k1 := box1 wr x y 44
        have hbx := grew hbw hb8
        replace q0 := cell_later hb8 q0
        replace q1 := cell_later hb8 q1
        clear hb8 hbw
        generalize wr.alloc (.cells #[.int .i64 x, .int .i64 y] 44) = wp at *
        generalize wr.heap.size = B8 at *
        refine wp_region_held_drew (S := (fun u => Below wp.heap.size wp u)) (by kernel_rfl) ?_ (fun hHeld => ?_)
        · exact (Below.refl _ _).drew
        refine wpAnyH_take (i := 0) (oi := { dst := some 12, op := Op.load 44 (Operand.tmp 4), type := 44, pos := "l7_tree.go:7", after := #[], guard := none }) (v := ?v2yx0) rfl (by kernel_rfl) (by kernel_rfl) (by kernel_rfl) (fun _ _ _ h => h) (Or.inl ⟨by rfl, ?hy2yx0⟩) (by with_reducible assumption) ?rest2yx0
        case hy2yx0 => (intro wS hSw; (try dsimp only at hSw); have z0 := cell_later hSw k0; have z1 := cell_later hSw k1; clear hSw; go_simp; try with_reducible rfl)
        case' rest2yx0 => (try simp only [Act.put, List.setIfInBounds_toArray, List.set_cons_zero, List.set_cons_succ])
        refine wpAnyH_ready (rs := [1]) (by kernel_rfl) (by simp) ?_
        refine AllReadyH.cons (o := { dst := some 13, op := Op.call { callee := Callee.value (Operand.func 60), args := #[Operand.tmp 12], argTypes := #[44] }, type := 4, pos := "l7_tree.go:7", after := #[{ on := 0, ground := Ground.data }], guard := none }) rfl (fun K hK => ?_) AllReadyH.nil
        go_simp
        refine (goodSpec_e _ _ _).mono ?_
        rw [hg]
        rintro e w2 ⟨rfl, hb2⟩
        go_wp2_with fail
        refine hK.out _ _ ?_ (fun hHeld => ?_)
        · exact grew (by with_reducible assumption) hb2
        clear hK K
        try simp only [Act.put, List.setIfInBounds_toArray, List.set_cons_zero, List.set_cons_succ]
        refine wpAnyH_take (i := 2) (oi := { dst := some 14, op := Op.unOp UnOp.not 4 (Operand.tmp 13), type := 4, pos := "l7_tree.go:7", after := #[{ on := 1, ground := Ground.data }], guard := none }) (v := ?v3yx2) rfl (by kernel_rfl) (by kernel_rfl) (by kernel_rfl) (fun _ _ _ h => h) (Or.inl ⟨by rfl, ?hy3yx2⟩) (by with_reducible assumption) ?rest3yx2
        case hy3yx2 => (intro wS hSw; (try dsimp only at hSw); have z0 := cell_later hSw k0; have z1 := cell_later hSw k1; clear hSw; go_simp; try with_reducible rfl)
        case' rest3yx2 => (try simp only [Act.put, List.setIfInBounds_toArray, List.set_cons_zero, List.set_cons_succ])
        refine wpAnyH_take (i := 3) (oi := { dst := some 15, op := Op.move (Operand.tmp 14), type := 4, pos := "l7_tree.go:7", after := #[{ on := 2, ground := Ground.data }, { on := 1, ground := Ground.chain }], guard := none }) (v := ?v4yx3) rfl (by kernel_rfl) (by kernel_rfl) (by kernel_rfl) (fun _ _ _ h => h) (Or.inl ⟨by rfl, ?hy4yx3⟩) (by with_reducible assumption) ?rest4yx3
        case hy4yx3 => (intro wS hSw; (try dsimp only at hSw); have z0 := cell_later hSw k0; have z1 := cell_later hSw k1; clear hSw; go_simp; try with_reducible rfl)
        case' rest4yx3 => (try simp only [Act.put, List.setIfInBounds_toArray, List.set_cons_zero, List.set_cons_succ])
        refine wpAnyH_take (i := 4) (oi := { dst := some 16, op := Op.move (Operand.tmp 3), type := 3, pos := "l7_tree.go:7", after := #[{ on := 3, ground := Ground.guard }], guard := some (3, false) }) (v := undef) rfl (by kernel_rfl) (by kernel_rfl) (by kernel_rfl) (fun _ _ _ h => h) (Or.inr ⟨by rfl, rfl⟩) (by with_reducible assumption) ?rest5sx4
        case' rest5sx4 => (try simp only [Act.put, List.setIfInBounds_toArray, List.set_cons_zero, List.set_cons_succ])
        refine wpAnyH_take (i := 5) (oi := { dst := some 17, op := Op.binOp BinOp.gtr 3 (Operand.tmp 16) (Operand.const (Value.int IntKind.i64 0)) 3, type := 4, pos := "l7_tree.go:7", after := #[{ on := 4, ground := Ground.data }, { on := 3, ground := Ground.guard }], guard := some (3, false) }) (v := undef) rfl (by kernel_rfl) (by kernel_rfl) (by kernel_rfl) (fun _ _ _ h => h) (Or.inr ⟨by rfl, rfl⟩) (by with_reducible assumption) ?rest6sx5
        case' rest6sx5 => (try simp only [Act.put, List.setIfInBounds_toArray, List.set_cons_zero, List.set_cons_succ])
        refine wpAnyH_take (i := 6) (oi := { dst := some 18, op := Op.move (Operand.tmp 17), type := 4, pos := "l7_tree.go:7", after := #[{ on := 5, ground := Ground.data }, { on := 3, ground := Ground.chain }, { on := 3, ground := Ground.guard }], guard := some (3, false) }) (v := undef) rfl (by kernel_rfl) (by kernel_rfl) (by kernel_rfl) (fun _ _ _ h => h) (Or.inr ⟨by rfl, rfl⟩) (by with_reducible assumption) ?rest7sx6
        case' rest7sx6 => (try simp only [Act.put, List.setIfInBounds_toArray, List.set_cons_zero, List.set_cons_succ])
        refine wpAnyH_take (i := 7) (oi := { dst := some 19, op := Op.move (Operand.tmp 0), type := 24, pos := "l7_tree.go:7", after := #[{ on := 6, ground := Ground.guard }], guard := some (6, true) }) (v := undef) rfl (by kernel_rfl) (by kernel_rfl) (by kernel_rfl) (fun _ _ _ h => h) (Or.inr ⟨by rfl, rfl⟩) (by with_reducible assumption) ?rest8sx7
        case' rest8sx7 => (try simp only [Act.put, List.setIfInBounds_toArray, List.set_cons_zero, List.set_cons_succ])
        refine wpAnyH_take (i := 8) (oi := { dst := some 20, op := Op.move (Operand.tmp 3), type := 3, pos := "l7_tree.go:7", after := #[{ on := 6, ground := Ground.guard }], guard := some (6, true) }) (v := undef) rfl (by kernel_rfl) (by kernel_rfl) (by kernel_rfl) (fun _ _ _ h => h) (Or.inr ⟨by rfl, rfl⟩) (by with_reducible assumption) ?rest9sx8
        case' rest9sx8 => (try simp only [Act.put, List.setIfInBounds_toArray, List.set_cons_zero, List.set_cons_succ])
        refine wpAnyH_take (i := 9) (oi := { dst := some 21, op := Op.binOp BinOp.sub 3 (Operand.tmp 20) (Operand.const (Value.int IntKind.i64 1)) 3, type := 3, pos := "l7_tree.go:7", after := #[{ on := 8, ground := Ground.data }, { on := 6, ground := Ground.guard }], guard := some (6, true) }) (v := undef) rfl (by kernel_rfl) (by kernel_rfl) (by kernel_rfl) (fun _ _ _ h => h) (Or.inr ⟨by rfl, rfl⟩) (by with_reducible assumption) ?rest10sx9
        case' rest10sx9 => (try simp only [Act.put, List.setIfInBounds_toArray, List.set_cons_zero, List.set_cons_succ])
        refine wpAnyH_take (i := 10) (oi := { dst := some 22, op := Op.indexAddr 24 (Operand.tmp 19) (Operand.tmp 21), type := 0, pos := "l7_tree.go:7", after := #[{ on := 7, ground := Ground.data }, { on := 9, ground := Ground.data }, { on := 6, ground := Ground.guard }], guard := some (6, true) }) (v := undef) rfl (by kernel_rfl) (by kernel_rfl) (by kernel_rfl) (fun _ _ _ h => h) (Or.inr ⟨by rfl, rfl⟩) (by with_reducible assumption) ?rest11sx10
        case' rest11sx10 => (try simp only [Act.put, List.setIfInBounds_toArray, List.set_cons_zero, List.set_cons_succ])
        refine wpAnyH_take (i := 11) (oi := { dst := some 23, op := Op.load 44 (Operand.tmp 22), type := 44, pos := "l7_tree.go:7", after := #[{ on := 10, ground := Ground.data }, { on := 6, ground := Ground.guard }], guard := some (6, true) }) (v := undef) rfl (by kernel_rfl) (by kernel_rfl) (by kernel_rfl) (fun _ _ _ h => h) (Or.inr ⟨by rfl, rfl⟩) (by with_reducible assumption) ?rest12sx11
        case' rest12sx11 => (try simp only [Act.put, List.setIfInBounds_toArray, List.set_cons_zero, List.set_cons_succ])
        refine wpAnyH_take (i := 12) (oi := { dst := some 24, op := Op.load 44 (Operand.tmp 4), type := 44, pos := "l7_tree.go:7", after := #[{ on := 6, ground := Ground.guard }], guard := some (6, true) }) (v := undef) rfl (by kernel_rfl) (by kernel_rfl) (by kernel_rfl) (fun _ _ _ h => h) (Or.inr ⟨by rfl, rfl⟩) (by with_reducible assumption) ?rest13sx12
        case' rest13sx12 => (try simp only [Act.put, List.setIfInBounds_toArray, List.set_cons_zero, List.set_cons_succ])
        refine wpAnyH_take (i := 13) (oi := { dst := some 25, op := Op.call { callee := Callee.value (Operand.func 42), args := #[Operand.tmp 23, Operand.tmp 24], argTypes := #[44, 44] }, type := 4, pos := "l7_tree.go:7", after := #[{ on := 11, ground := Ground.data }, { on := 12, ground := Ground.data }, { on := 6, ground := Ground.chain }, { on := 6, ground := Ground.guard }], guard := some (6, true) }) (v := undef) rfl (by kernel_rfl) (by kernel_rfl) (by kernel_rfl) (fun _ _ _ h => h) (Or.inr ⟨by rfl, rfl⟩) (by with_reducible assumption) ?rest14sx13
        case' rest14sx13 => (try simp only [Act.put, List.setIfInBounds_toArray, List.set_cons_zero, List.set_cons_succ])
        refine wpAnyH_take (i := 14) (oi := { dst := some 26, op := Op.unOp UnOp.not 4 (Operand.tmp 25), type := 4, pos := "l7_tree.go:7", after := #[{ on := 13, ground := Ground.data }, { on := 6, ground := Ground.guard }], guard := some (6, true) }) (v := undef) rfl (by kernel_rfl) (by kernel_rfl) (by kernel_rfl) (fun _ _ _ h => h) (Or.inr ⟨by rfl, rfl⟩) (by with_reducible assumption) ?rest15sx14
        case' rest15sx14 => (try simp only [Act.put, List.setIfInBounds_toArray, List.set_cons_zero, List.set_cons_succ])
        refine wpAnyH_take (i := 15) (oi := { dst := some 27, op := Op.pick (Operand.tmp 18) (Operand.tmp 26) (Operand.const (Value.bool false)), type := 4, pos := "l7_tree.go:7", after := #[{ on := 6, ground := Ground.data }, { on := 14, ground := Ground.data }, { on := 3, ground := Ground.guard }], guard := some (3, false) }) (v := undef) rfl (by kernel_rfl) (by kernel_rfl) (by kernel_rfl) (fun _ _ _ h => h) (Or.inr ⟨by rfl, rfl⟩) (by with_reducible assumption) ?rest16sx15
        case' rest16sx15 => (try simp only [Act.put, List.setIfInBounds_toArray, List.set_cons_zero, List.set_cons_succ])
        refine wpAnyH_take (i := 16) (oi := { dst := some 28, op := Op.pick (Operand.tmp 15) (Operand.const (Value.bool true)) (Operand.tmp 27), type := 4, pos := "l7_tree.go:7", after := #[{ on := 3, ground := Ground.data }, { on := 15, ground := Ground.data }], guard := none }) (v := ?v17yx16) rfl (by kernel_rfl) (by kernel_rfl) (by kernel_rfl) (fun _ _ _ h => h) (Or.inl ⟨by rfl, ?hy17yx16⟩) (by with_reducible assumption) ?rest17yx16
        case hy17yx16 => (intro wS hSw; (try dsimp only at hSw); have z0 := cell_later hSw k0; have z1 := cell_later hSw k1; clear hSw; go_simp; try with_reducible rfl)
        case' rest17yx16 => (try simp only [Act.put, List.setIfInBounds_toArray, List.set_cons_zero, List.set_cons_succ])
        refine wpAnyH_take (i := 17) (oi := { dst := some 29, op := Op.move (Operand.tmp 28), type := 4, pos := "l7_tree.go:7", after := #[{ on := 16, ground := Ground.data }, { on := 13, ground := Ground.chain }], guard := none }) (v := ?v18yx17) rfl (by kernel_rfl) (by kernel_rfl) (by kernel_rfl) (fun _ _ _ h => h) (Or.inl ⟨by rfl, ?hy18yx17⟩) (by with_reducible assumption) ?rest18yx17
        case hy18yx17 => (intro wS hSw; (try dsimp only at hSw); have z0 := cell_later hSw k0; have z1 := cell_later hSw k1; clear hSw; go_simp; try with_reducible rfl)
        case' rest18yx17 => (try simp only [Act.put, List.setIfInBounds_toArray, List.set_cons_zero, List.set_cons_succ])
        refine wpAnyH_take (i := 18) (oi := { dst := some 30, op := Op.move (Operand.tmp 3), type := 3, pos := "l7_tree.go:7", after := #[{ on := 17, ground := Ground.guard }], guard := some (17, false) }) (v := undef) rfl (by kernel_rfl) (by kernel_rfl) (by kernel_rfl) (fun _ _ _ h => h) (Or.inr ⟨by rfl, rfl⟩) (by with_reducible assumption) ?rest19sx18
        case' rest19sx18 => (try simp only [Act.put, List.setIfInBounds_toArray, List.set_cons_zero, List.set_cons_succ])
        refine wpAnyH_take (i := 19) (oi := { dst := some 31, op := Op.binOp BinOp.gtr 3 (Operand.tmp 30) (Operand.const (Value.int IntKind.i64 1)) 3, type := 4, pos := "l7_tree.go:7", after := #[{ on := 18, ground := Ground.data }, { on := 17, ground := Ground.guard }], guard := some (17, false) }) (v := undef) rfl (by kernel_rfl) (by kernel_rfl) (by kernel_rfl) (fun _ _ _ h => h) (Or.inr ⟨by rfl, rfl⟩) (by with_reducible assumption) ?rest20sx19
        case' rest20sx19 => (try simp only [Act.put, List.setIfInBounds_toArray, List.set_cons_zero, List.set_cons_succ])
        refine wpAnyH_take (i := 20) (oi := { dst := some 32, op := Op.move (Operand.tmp 31), type := 4, pos := "l7_tree.go:7", after := #[{ on := 19, ground := Ground.data }, { on := 17, ground := Ground.chain }, { on := 17, ground := Ground.guard }], guard := some (17, false) }) (v := undef) rfl (by kernel_rfl) (by kernel_rfl) (by kernel_rfl) (fun _ _ _ h => h) (Or.inr ⟨by rfl, rfl⟩) (by with_reducible assumption) ?rest21sx20
        case' rest21sx20 => (try simp only [Act.put, List.setIfInBounds_toArray, List.set_cons_zero, List.set_cons_succ])
        refine wpAnyH_take (i := 21) (oi := { dst := some 33, op := Op.move (Operand.tmp 0), type := 24, pos := "l7_tree.go:7", after := #[{ on := 20, ground := Ground.guard }], guard := some (20, true) }) (v := undef) rfl (by kernel_rfl) (by kernel_rfl) (by kernel_rfl) (fun _ _ _ h => h) (Or.inr ⟨by rfl, rfl⟩) (by with_reducible assumption) ?rest22sx21
        case' rest22sx21 => (try simp only [Act.put, List.setIfInBounds_toArray, List.set_cons_zero, List.set_cons_succ])
        refine wpAnyH_take (i := 22) (oi := { dst := some 34, op := Op.move (Operand.tmp 3), type := 3, pos := "l7_tree.go:7", after := #[{ on := 20, ground := Ground.guard }], guard := some (20, true) }) (v := undef) rfl (by kernel_rfl) (by kernel_rfl) (by kernel_rfl) (fun _ _ _ h => h) (Or.inr ⟨by rfl, rfl⟩) (by with_reducible assumption) ?rest23sx22
        case' rest23sx22 => (try simp only [Act.put, List.setIfInBounds_toArray, List.set_cons_zero, List.set_cons_succ])
        refine wpAnyH_take (i := 23) (oi := { dst := some 35, op := Op.binOp BinOp.sub 3 (Operand.tmp 34) (Operand.const (Value.int IntKind.i64 2)) 3, type := 3, pos := "l7_tree.go:7", after := #[{ on := 22, ground := Ground.data }, { on := 20, ground := Ground.guard }], guard := some (20, true) }) (v := undef) rfl (by kernel_rfl) (by kernel_rfl) (by kernel_rfl) (fun _ _ _ h => h) (Or.inr ⟨by rfl, rfl⟩) (by with_reducible assumption) ?rest24sx23
        case' rest24sx23 => (try simp only [Act.put, List.setIfInBounds_toArray, List.set_cons_zero, List.set_cons_succ])
        refine wpAnyH_take (i := 24) (oi := { dst := some 36, op := Op.indexAddr 24 (Operand.tmp 33) (Operand.tmp 35), type := 0, pos := "l7_tree.go:7", after := #[{ on := 21, ground := Ground.data }, { on := 23, ground := Ground.data }, { on := 20, ground := Ground.guard }], guard := some (20, true) }) (v := undef) rfl (by kernel_rfl) (by kernel_rfl) (by kernel_rfl) (fun _ _ _ h => h) (Or.inr ⟨by rfl, rfl⟩) (by with_reducible assumption) ?rest25sx24
        case' rest25sx24 => (try simp only [Act.put, List.setIfInBounds_toArray, List.set_cons_zero, List.set_cons_succ])
        refine wpAnyH_take (i := 25) (oi := { dst := some 37, op := Op.load 44 (Operand.tmp 36), type := 44, pos := "l7_tree.go:7", after := #[{ on := 24, ground := Ground.data }, { on := 20, ground := Ground.guard }], guard := some (20, true) }) (v := undef) rfl (by kernel_rfl) (by kernel_rfl) (by kernel_rfl) (fun _ _ _ h => h) (Or.inr ⟨by rfl, rfl⟩) (by with_reducible assumption) ?rest26sx25
        case' rest26sx25 => (try simp only [Act.put, List.setIfInBounds_toArray, List.set_cons_zero, List.set_cons_succ])
        refine wpAnyH_take (i := 26) (oi := { dst := some 38, op := Op.move (Operand.tmp 0), type := 24, pos := "l7_tree.go:7", after := #[{ on := 20, ground := Ground.guard }], guard := some (20, true) }) (v := undef) rfl (by kernel_rfl) (by kernel_rfl) (by kernel_rfl) (fun _ _ _ h => h) (Or.inr ⟨by rfl, rfl⟩) (by with_reducible assumption) ?rest27sx26
        case' rest27sx26 => (try simp only [Act.put, List.setIfInBounds_toArray, List.set_cons_zero, List.set_cons_succ])
        refine wpAnyH_take (i := 27) (oi := { dst := some 39, op := Op.move (Operand.tmp 3), type := 3, pos := "l7_tree.go:7", after := #[{ on := 20, ground := Ground.guard }], guard := some (20, true) }) (v := undef) rfl (by kernel_rfl) (by kernel_rfl) (by kernel_rfl) (fun _ _ _ h => h) (Or.inr ⟨by rfl, rfl⟩) (by with_reducible assumption) ?rest28sx27
        case' rest28sx27 => (try simp only [Act.put, List.setIfInBounds_toArray, List.set_cons_zero, List.set_cons_succ])
        refine wpAnyH_take (i := 28) (oi := { dst := some 40, op := Op.binOp BinOp.sub 3 (Operand.tmp 39) (Operand.const (Value.int IntKind.i64 1)) 3, type := 3, pos := "l7_tree.go:7", after := #[{ on := 27, ground := Ground.data }, { on := 20, ground := Ground.guard }], guard := some (20, true) }) (v := undef) rfl (by kernel_rfl) (by kernel_rfl) (by kernel_rfl) (fun _ _ _ h => h) (Or.inr ⟨by rfl, rfl⟩) (by with_reducible assumption) ?rest29sx28
        case' rest29sx28 => (try simp only [Act.put, List.setIfInBounds_toArray, List.set_cons_zero, List.set_cons_succ])
        refine wpAnyH_take (i := 29) (oi := { dst := some 41, op := Op.indexAddr 24 (Operand.tmp 38) (Operand.tmp 40), type := 0, pos := "l7_tree.go:7", after := #[{ on := 26, ground := Ground.data }, { on := 28, ground := Ground.data }, { on := 20, ground := Ground.guard }], guard := some (20, true) }) (v := undef) rfl (by kernel_rfl) (by kernel_rfl) (by kernel_rfl) (fun _ _ _ h => h) (Or.inr ⟨by rfl, rfl⟩) (by with_reducible assumption) ?rest30sx29
        case' rest30sx29 => (try simp only [Act.put, List.setIfInBounds_toArray, List.set_cons_zero, List.set_cons_succ])
        refine wpAnyH_take (i := 30) (oi := { dst := some 42, op := Op.load 44 (Operand.tmp 41), type := 44, pos := "l7_tree.go:7", after := #[{ on := 29, ground := Ground.data }, { on := 20, ground := Ground.guard }], guard := some (20, true) }) (v := undef) rfl (by kernel_rfl) (by kernel_rfl) (by kernel_rfl) (fun _ _ _ h => h) (Or.inr ⟨by rfl, rfl⟩) (by with_reducible assumption) ?rest31sx30
        case' rest31sx30 => (try simp only [Act.put, List.setIfInBounds_toArray, List.set_cons_zero, List.set_cons_succ])
        refine wpAnyH_take (i := 31) (oi := { dst := some 43, op := Op.load 44 (Operand.tmp 4), type := 44, pos := "l7_tree.go:7", after := #[{ on := 20, ground := Ground.guard }], guard := some (20, true) }) (v := undef) rfl (by kernel_rfl) (by kernel_rfl) (by kernel_rfl) (fun _ _ _ h => h) (Or.inr ⟨by rfl, rfl⟩) (by with_reducible assumption) ?rest32sx31
        case' rest32sx31 => (try simp only [Act.put, List.setIfInBounds_toArray, List.set_cons_zero, List.set_cons_succ])
        refine wpAnyH_take (i := 32) (oi := { dst := some 44, op := Op.call { callee := Callee.value (Operand.func 59), args := #[Operand.tmp 37, Operand.tmp 42, Operand.tmp 43], argTypes := #[44, 44, 44] }, type := 3, pos := "l7_tree.go:7", after := #[{ on := 25, ground := Ground.data }, { on := 30, ground := Ground.data }, { on := 31, ground := Ground.data }, { on := 20, ground := Ground.chain }, { on := 20, ground := Ground.guard }], guard := some (20, true) }) (v := undef) rfl (by kernel_rfl) (by kernel_rfl) (by kernel_rfl) (fun _ _ _ h => h) (Or.inr ⟨by rfl, rfl⟩) (by with_reducible assumption) ?rest33sx32
        case' rest33sx32 => (try simp only [Act.put, List.setIfInBounds_toArray, List.set_cons_zero, List.set_cons_succ])
        refine wpAnyH_take (i := 33) (oi := { dst := some 45, op := Op.binOp BinOp.leq 3 (Operand.tmp 44) (Operand.const (Value.int IntKind.i64 0)) 3, type := 4, pos := "l7_tree.go:7", after := #[{ on := 32, ground := Ground.data }, { on := 20, ground := Ground.guard }], guard := some (20, true) }) (v := undef) rfl (by kernel_rfl) (by kernel_rfl) (by kernel_rfl) (fun _ _ _ h => h) (Or.inr ⟨by rfl, rfl⟩) (by with_reducible assumption) ?rest34sx33
        case' rest34sx33 => (try simp only [Act.put, List.setIfInBounds_toArray, List.set_cons_zero, List.set_cons_succ])
        refine wpAnyH_take (i := 34) (oi := { dst := some 46, op := Op.pick (Operand.tmp 32) (Operand.tmp 45) (Operand.const (Value.bool false)), type := 4, pos := "l7_tree.go:7", after := #[{ on := 20, ground := Ground.data }, { on := 33, ground := Ground.data }, { on := 17, ground := Ground.guard }], guard := some (17, false) }) (v := undef) rfl (by kernel_rfl) (by kernel_rfl) (by kernel_rfl) (fun _ _ _ h => h) (Or.inr ⟨by rfl, rfl⟩) (by with_reducible assumption) ?rest35sx34
        case' rest35sx34 => (try simp only [Act.put, List.setIfInBounds_toArray, List.set_cons_zero, List.set_cons_succ])
        refine wpAnyH_take (i := 35) (oi := { dst := some 47, op := Op.pick (Operand.tmp 29) (Operand.const (Value.bool true)) (Operand.tmp 46), type := 4, pos := "l7_tree.go:7", after := #[{ on := 17, ground := Ground.data }, { on := 34, ground := Ground.data }], guard := none }) (v := ?v36yx35) rfl (by kernel_rfl) (by kernel_rfl) (by kernel_rfl) (fun _ _ _ h => h) (Or.inl ⟨by rfl, ?hy36yx35⟩) (by with_reducible assumption) ?rest36yx35
        case hy36yx35 => (intro wS hSw; (try dsimp only at hSw); have z0 := cell_later hSw k0; have z1 := cell_later hSw k1; clear hSw; go_simp; try with_reducible rfl)
        case' rest36yx35 => (try simp only [Act.put, List.setIfInBounds_toArray, List.set_cons_zero, List.set_cons_succ])
        refine wpAnyH_done (by kernel_rfl) ?_ _
        replace hbx := grew hbx (by with_reducible assumption)
        go_wp2
        go_ret
        exact ⟨ret_bool E.out.symm, hbx⟩
      have HCS := hid (HC.out.succ (by rw [hx, hy]; exact hg))
      rcases Nat.lt_or_ge k 1 with hk0 | hk1
      · obtain rfl : k = 0 := by omega
        simp only [Nat.zero_mul, Nat.add_zero] at q0 q1
        clear hx hy
        go_upto_region 4 with fail
        have hb8 : Below wr.heap.size wr (wr.alloc (.cells #[.int .i64 x, .int .i64 y] 44)) := by go_grown
        have k0 := box0 wr x y 44
        have k1 := box1 wr x y 44
        have hbx := grew hbw hb8
        replace q0 := cell_later hb8 q0
        replace q1 := cell_later hb8 q1
        clear hb8 hbw
        generalize wr.alloc (.cells #[.int .i64 x, .int .i64 y] 44) = wp at *
        generalize wr.heap.size = B8 at *
        refine wp_region_held_drew (S := (fun u => Below wp.heap.size wp u)) (by kernel_rfl) ?_ (fun hHeld => ?_)
        · exact (Below.refl _ _).drew
        refine wpAnyH_take (i := 0) (oi := { dst := some 12, op := Op.load 44 (Operand.tmp 4), type := 44, pos := "l7_tree.go:7", after := #[], guard := none }) (v := ?v38yx0) rfl (by kernel_rfl) (by kernel_rfl) (by kernel_rfl) (fun _ _ _ h => h) (Or.inl ⟨by rfl, ?hy38yx0⟩) (by with_reducible assumption) ?rest38yx0
        case hy38yx0 => (intro wS hSw; (try dsimp only at hSw); have z0 := cell_later hSw k0; have z1 := cell_later hSw k1; clear hSw; go_simp; try with_reducible rfl)
        case' rest38yx0 => (try simp only [Act.put, List.setIfInBounds_toArray, List.set_cons_zero, List.set_cons_succ])
        refine wpAnyH_ready (rs := [1]) (by kernel_rfl) (by simp) ?_
        refine AllReadyH.cons (o := { dst := some 13, op := Op.call { callee := Callee.value (Operand.func 60), args := #[Operand.tmp 12], argTypes := #[44] }, type := 4, pos := "l7_tree.go:7", after := #[{ on := 0, ground := Ground.data }], guard := none }) rfl (fun K hK => ?_) AllReadyH.nil
        go_simp
        refine (goodSpec_e _ _ _).mono ?_
        rw [hg]
        rintro e w2 ⟨rfl, hb2⟩
        go_wp2_with fail
        refine hK.out _ _ ?_ (fun hHeld => ?_)
        · exact grew (by with_reducible assumption) hb2
        clear hK K
        try simp only [Act.put, List.setIfInBounds_toArray, List.set_cons_zero, List.set_cons_succ]
        refine wpAnyH_take (i := 2) (oi := { dst := some 14, op := Op.unOp UnOp.not 4 (Operand.tmp 13), type := 4, pos := "l7_tree.go:7", after := #[{ on := 1, ground := Ground.data }], guard := none }) (v := ?v39yx2) rfl (by kernel_rfl) (by kernel_rfl) (by kernel_rfl) (fun _ _ _ h => h) (Or.inl ⟨by rfl, ?hy39yx2⟩) (by with_reducible assumption) ?rest39yx2
        case hy39yx2 => (intro wS hSw; (try dsimp only at hSw); have z0 := cell_later hSw k0; have z1 := cell_later hSw k1; clear hSw; go_simp; try with_reducible rfl)
        case' rest39yx2 => (try simp only [Act.put, List.setIfInBounds_toArray, List.set_cons_zero, List.set_cons_succ])
        refine wpAnyH_take (i := 3) (oi := { dst := some 15, op := Op.move (Operand.tmp 14), type := 4, pos := "l7_tree.go:7", after := #[{ on := 2, ground := Ground.data }, { on := 1, ground := Ground.chain }], guard := none }) (v := ?v40yx3) rfl (by kernel_rfl) (by kernel_rfl) (by kernel_rfl) (fun _ _ _ h => h) (Or.inl ⟨by rfl, ?hy40yx3⟩) (by with_reducible assumption) ?rest40yx3
        case hy40yx3 => (intro wS hSw; (try dsimp only at hSw); have z0 := cell_later hSw k0; have z1 := cell_later hSw k1; clear hSw; go_simp; try with_reducible rfl)
        case' rest40yx3 => (try simp only [Act.put, List.setIfInBounds_toArray, List.set_cons_zero, List.set_cons_succ])
        refine wpAnyH_take (i := 4) (oi := { dst := some 16, op := Op.move (Operand.tmp 3), type := 3, pos := "l7_tree.go:7", after := #[{ on := 3, ground := Ground.guard }], guard := some (3, false) }) (v := ?v41yx4) rfl (by kernel_rfl) (by kernel_rfl) (by kernel_rfl) (fun _ _ _ h => h) (Or.inl ⟨by rfl, ?hy41yx4⟩) (by with_reducible assumption) ?rest41yx4
        case hy41yx4 => (intro wS hSw; (try dsimp only at hSw); have z0 := cell_later hSw k0; have z1 := cell_later hSw k1; clear hSw; go_simp; try with_reducible rfl)
        case' rest41yx4 => (try simp only [Act.put, List.setIfInBounds_toArray, List.set_cons_zero, List.set_cons_succ])
        refine wpAnyH_take (i := 5) (oi := { dst := some 17, op := Op.binOp BinOp.gtr 3 (Operand.tmp 16) (Operand.const (Value.int IntKind.i64 0)) 3, type := 4, pos := "l7_tree.go:7", after := #[{ on := 4, ground := Ground.data }, { on := 3, ground := Ground.guard }], guard := some (3, false) }) (v := ?v42yx5) rfl (by kernel_rfl) (by kernel_rfl) (by kernel_rfl) (fun _ _ _ h => h) (Or.inl ⟨by rfl, ?hy42yx5⟩) (by with_reducible assumption) ?rest42yx5
        case hy42yx5 => (intro wS hSw; (try dsimp only at hSw); have z0 := cell_later hSw k0; have z1 := cell_later hSw k1; clear hSw; go_simp; try with_reducible rfl)
        case' rest42yx5 => (try simp only [Act.put, List.setIfInBounds_toArray, List.set_cons_zero, List.set_cons_succ])
        refine wpAnyH_take (i := 6) (oi := { dst := some 18, op := Op.move (Operand.tmp 17), type := 4, pos := "l7_tree.go:7", after := #[{ on := 5, ground := Ground.data }, { on := 3, ground := Ground.chain }, { on := 3, ground := Ground.guard }], guard := some (3, false) }) (v := ?v43yx6) rfl (by kernel_rfl) (by kernel_rfl) (by kernel_rfl) (fun _ _ _ h => h) (Or.inl ⟨by rfl, ?hy43yx6⟩) (by with_reducible assumption) ?rest43yx6
        case hy43yx6 => (intro wS hSw; (try dsimp only at hSw); have z0 := cell_later hSw k0; have z1 := cell_later hSw k1; clear hSw; go_simp; try with_reducible rfl)
        case' rest43yx6 => (try simp only [Act.put, List.setIfInBounds_toArray, List.set_cons_zero, List.set_cons_succ])
        refine wpAnyH_take (i := 7) (oi := { dst := some 19, op := Op.move (Operand.tmp 0), type := 24, pos := "l7_tree.go:7", after := #[{ on := 6, ground := Ground.guard }], guard := some (6, true) }) (v := undef) rfl (by kernel_rfl) (by kernel_rfl) (by kernel_rfl) (fun _ _ _ h => h) (Or.inr ⟨by rfl, rfl⟩) (by with_reducible assumption) ?rest44sx7
        case' rest44sx7 => (try simp only [Act.put, List.setIfInBounds_toArray, List.set_cons_zero, List.set_cons_succ])
        refine wpAnyH_take (i := 8) (oi := { dst := some 20, op := Op.move (Operand.tmp 3), type := 3, pos := "l7_tree.go:7", after := #[{ on := 6, ground := Ground.guard }], guard := some (6, true) }) (v := undef) rfl (by kernel_rfl) (by kernel_rfl) (by kernel_rfl) (fun _ _ _ h => h) (Or.inr ⟨by rfl, rfl⟩) (by with_reducible assumption) ?rest45sx8
        case' rest45sx8 => (try simp only [Act.put, List.setIfInBounds_toArray, List.set_cons_zero, List.set_cons_succ])
        refine wpAnyH_take (i := 9) (oi := { dst := some 21, op := Op.binOp BinOp.sub 3 (Operand.tmp 20) (Operand.const (Value.int IntKind.i64 1)) 3, type := 3, pos := "l7_tree.go:7", after := #[{ on := 8, ground := Ground.data }, { on := 6, ground := Ground.guard }], guard := some (6, true) }) (v := undef) rfl (by kernel_rfl) (by kernel_rfl) (by kernel_rfl) (fun _ _ _ h => h) (Or.inr ⟨by rfl, rfl⟩) (by with_reducible assumption) ?rest46sx9
        case' rest46sx9 => (try simp only [Act.put, List.setIfInBounds_toArray, List.set_cons_zero, List.set_cons_succ])
        refine wpAnyH_take (i := 10) (oi := { dst := some 22, op := Op.indexAddr 24 (Operand.tmp 19) (Operand.tmp 21), type := 0, pos := "l7_tree.go:7", after := #[{ on := 7, ground := Ground.data }, { on := 9, ground := Ground.data }, { on := 6, ground := Ground.guard }], guard := some (6, true) }) (v := undef) rfl (by kernel_rfl) (by kernel_rfl) (by kernel_rfl) (fun _ _ _ h => h) (Or.inr ⟨by rfl, rfl⟩) (by with_reducible assumption) ?rest47sx10
        case' rest47sx10 => (try simp only [Act.put, List.setIfInBounds_toArray, List.set_cons_zero, List.set_cons_succ])
        refine wpAnyH_take (i := 11) (oi := { dst := some 23, op := Op.load 44 (Operand.tmp 22), type := 44, pos := "l7_tree.go:7", after := #[{ on := 10, ground := Ground.data }, { on := 6, ground := Ground.guard }], guard := some (6, true) }) (v := undef) rfl (by kernel_rfl) (by kernel_rfl) (by kernel_rfl) (fun _ _ _ h => h) (Or.inr ⟨by rfl, rfl⟩) (by with_reducible assumption) ?rest48sx11
        case' rest48sx11 => (try simp only [Act.put, List.setIfInBounds_toArray, List.set_cons_zero, List.set_cons_succ])
        refine wpAnyH_take (i := 12) (oi := { dst := some 24, op := Op.load 44 (Operand.tmp 4), type := 44, pos := "l7_tree.go:7", after := #[{ on := 6, ground := Ground.guard }], guard := some (6, true) }) (v := undef) rfl (by kernel_rfl) (by kernel_rfl) (by kernel_rfl) (fun _ _ _ h => h) (Or.inr ⟨by rfl, rfl⟩) (by with_reducible assumption) ?rest49sx12
        case' rest49sx12 => (try simp only [Act.put, List.setIfInBounds_toArray, List.set_cons_zero, List.set_cons_succ])
        refine wpAnyH_take (i := 13) (oi := { dst := some 25, op := Op.call { callee := Callee.value (Operand.func 42), args := #[Operand.tmp 23, Operand.tmp 24], argTypes := #[44, 44] }, type := 4, pos := "l7_tree.go:7", after := #[{ on := 11, ground := Ground.data }, { on := 12, ground := Ground.data }, { on := 6, ground := Ground.chain }, { on := 6, ground := Ground.guard }], guard := some (6, true) }) (v := undef) rfl (by kernel_rfl) (by kernel_rfl) (by kernel_rfl) (fun _ _ _ h => h) (Or.inr ⟨by rfl, rfl⟩) (by with_reducible assumption) ?rest50sx13
        case' rest50sx13 => (try simp only [Act.put, List.setIfInBounds_toArray, List.set_cons_zero, List.set_cons_succ])
        refine wpAnyH_take (i := 14) (oi := { dst := some 26, op := Op.unOp UnOp.not 4 (Operand.tmp 25), type := 4, pos := "l7_tree.go:7", after := #[{ on := 13, ground := Ground.data }, { on := 6, ground := Ground.guard }], guard := some (6, true) }) (v := undef) rfl (by kernel_rfl) (by kernel_rfl) (by kernel_rfl) (fun _ _ _ h => h) (Or.inr ⟨by rfl, rfl⟩) (by with_reducible assumption) ?rest51sx14
        case' rest51sx14 => (try simp only [Act.put, List.setIfInBounds_toArray, List.set_cons_zero, List.set_cons_succ])
        refine wpAnyH_take (i := 15) (oi := { dst := some 27, op := Op.pick (Operand.tmp 18) (Operand.tmp 26) (Operand.const (Value.bool false)), type := 4, pos := "l7_tree.go:7", after := #[{ on := 6, ground := Ground.data }, { on := 14, ground := Ground.data }, { on := 3, ground := Ground.guard }], guard := some (3, false) }) (v := ?v52yx15) rfl (by kernel_rfl) (by kernel_rfl) (by kernel_rfl) (fun _ _ _ h => h) (Or.inl ⟨by rfl, ?hy52yx15⟩) (by with_reducible assumption) ?rest52yx15
        case hy52yx15 => (intro wS hSw; (try dsimp only at hSw); have z0 := cell_later hSw k0; have z1 := cell_later hSw k1; clear hSw; go_simp; try with_reducible rfl)
        case' rest52yx15 => (try simp only [Act.put, List.setIfInBounds_toArray, List.set_cons_zero, List.set_cons_succ])
        refine wpAnyH_take (i := 16) (oi := { dst := some 28, op := Op.pick (Operand.tmp 15) (Operand.const (Value.bool true)) (Operand.tmp 27), type := 4, pos := "l7_tree.go:7", after := #[{ on := 3, ground := Ground.data }, { on := 15, ground := Ground.data }], guard := none }) (v := ?v53yx16) rfl (by kernel_rfl) (by kernel_rfl) (by kernel_rfl) (fun _ _ _ h => h) (Or.inl ⟨by rfl, ?hy53yx16⟩) (by with_reducible assumption) ?rest53yx16
        case hy53yx16 => (intro wS hSw; (try dsimp only at hSw); have z0 := cell_later hSw k0; have z1 := cell_later hSw k1; clear hSw; go_simp; try with_reducible rfl)
        case' rest53yx16 => (try simp only [Act.put, List.setIfInBounds_toArray, List.set_cons_zero, List.set_cons_succ])
        refine wpAnyH_take (i := 17) (oi := { dst := some 29, op := Op.move (Operand.tmp 28), type := 4, pos := "l7_tree.go:7", after := #[{ on := 16, ground := Ground.data }, { on := 13, ground := Ground.chain }], guard := none }) (v := ?v54yx17) rfl (by kernel_rfl) (by kernel_rfl) (by kernel_rfl) (fun _ _ _ h => h) (Or.inl ⟨by rfl, ?hy54yx17⟩) (by with_reducible assumption) ?rest54yx17
        case hy54yx17 => (intro wS hSw; (try dsimp only at hSw); have z0 := cell_later hSw k0; have z1 := cell_later hSw k1; clear hSw; go_simp; try with_reducible rfl)
        case' rest54yx17 => (try simp only [Act.put, List.setIfInBounds_toArray, List.set_cons_zero, List.set_cons_succ])
        refine wpAnyH_take (i := 18) (oi := { dst := some 30, op := Op.move (Operand.tmp 3), type := 3, pos := "l7_tree.go:7", after := #[{ on := 17, ground := Ground.guard }], guard := some (17, false) }) (v := ?v55yx18) rfl (by kernel_rfl) (by kernel_rfl) (by kernel_rfl) (fun _ _ _ h => h) (Or.inl ⟨by rfl, ?hy55yx18⟩) (by with_reducible assumption) ?rest55yx18
        case hy55yx18 => (intro wS hSw; (try dsimp only at hSw); have z0 := cell_later hSw k0; have z1 := cell_later hSw k1; clear hSw; go_simp; try with_reducible rfl)
        case' rest55yx18 => (try simp only [Act.put, List.setIfInBounds_toArray, List.set_cons_zero, List.set_cons_succ])
        refine wpAnyH_take (i := 19) (oi := { dst := some 31, op := Op.binOp BinOp.gtr 3 (Operand.tmp 30) (Operand.const (Value.int IntKind.i64 1)) 3, type := 4, pos := "l7_tree.go:7", after := #[{ on := 18, ground := Ground.data }, { on := 17, ground := Ground.guard }], guard := some (17, false) }) (v := ?v56yx19) rfl (by kernel_rfl) (by kernel_rfl) (by kernel_rfl) (fun _ _ _ h => h) (Or.inl ⟨by rfl, ?hy56yx19⟩) (by with_reducible assumption) ?rest56yx19
        case hy56yx19 => (intro wS hSw; (try dsimp only at hSw); have z0 := cell_later hSw k0; have z1 := cell_later hSw k1; clear hSw; go_simp; try with_reducible rfl)
        case' rest56yx19 => (try simp only [Act.put, List.setIfInBounds_toArray, List.set_cons_zero, List.set_cons_succ])
        refine wpAnyH_take (i := 20) (oi := { dst := some 32, op := Op.move (Operand.tmp 31), type := 4, pos := "l7_tree.go:7", after := #[{ on := 19, ground := Ground.data }, { on := 17, ground := Ground.chain }, { on := 17, ground := Ground.guard }], guard := some (17, false) }) (v := ?v57yx20) rfl (by kernel_rfl) (by kernel_rfl) (by kernel_rfl) (fun _ _ _ h => h) (Or.inl ⟨by rfl, ?hy57yx20⟩) (by with_reducible assumption) ?rest57yx20
        case hy57yx20 => (intro wS hSw; (try dsimp only at hSw); have z0 := cell_later hSw k0; have z1 := cell_later hSw k1; clear hSw; go_simp; try with_reducible rfl)
        case' rest57yx20 => (try simp only [Act.put, List.setIfInBounds_toArray, List.set_cons_zero, List.set_cons_succ])
        refine wpAnyH_take (i := 21) (oi := { dst := some 33, op := Op.move (Operand.tmp 0), type := 24, pos := "l7_tree.go:7", after := #[{ on := 20, ground := Ground.guard }], guard := some (20, true) }) (v := undef) rfl (by kernel_rfl) (by kernel_rfl) (by kernel_rfl) (fun _ _ _ h => h) (Or.inr ⟨by rfl, rfl⟩) (by with_reducible assumption) ?rest58sx21
        case' rest58sx21 => (try simp only [Act.put, List.setIfInBounds_toArray, List.set_cons_zero, List.set_cons_succ])
        refine wpAnyH_take (i := 22) (oi := { dst := some 34, op := Op.move (Operand.tmp 3), type := 3, pos := "l7_tree.go:7", after := #[{ on := 20, ground := Ground.guard }], guard := some (20, true) }) (v := undef) rfl (by kernel_rfl) (by kernel_rfl) (by kernel_rfl) (fun _ _ _ h => h) (Or.inr ⟨by rfl, rfl⟩) (by with_reducible assumption) ?rest59sx22
        case' rest59sx22 => (try simp only [Act.put, List.setIfInBounds_toArray, List.set_cons_zero, List.set_cons_succ])
        refine wpAnyH_take (i := 23) (oi := { dst := some 35, op := Op.binOp BinOp.sub 3 (Operand.tmp 34) (Operand.const (Value.int IntKind.i64 2)) 3, type := 3, pos := "l7_tree.go:7", after := #[{ on := 22, ground := Ground.data }, { on := 20, ground := Ground.guard }], guard := some (20, true) }) (v := undef) rfl (by kernel_rfl) (by kernel_rfl) (by kernel_rfl) (fun _ _ _ h => h) (Or.inr ⟨by rfl, rfl⟩) (by with_reducible assumption) ?rest60sx23
        case' rest60sx23 => (try simp only [Act.put, List.setIfInBounds_toArray, List.set_cons_zero, List.set_cons_succ])
        refine wpAnyH_take (i := 24) (oi := { dst := some 36, op := Op.indexAddr 24 (Operand.tmp 33) (Operand.tmp 35), type := 0, pos := "l7_tree.go:7", after := #[{ on := 21, ground := Ground.data }, { on := 23, ground := Ground.data }, { on := 20, ground := Ground.guard }], guard := some (20, true) }) (v := undef) rfl (by kernel_rfl) (by kernel_rfl) (by kernel_rfl) (fun _ _ _ h => h) (Or.inr ⟨by rfl, rfl⟩) (by with_reducible assumption) ?rest61sx24
        case' rest61sx24 => (try simp only [Act.put, List.setIfInBounds_toArray, List.set_cons_zero, List.set_cons_succ])
        refine wpAnyH_take (i := 25) (oi := { dst := some 37, op := Op.load 44 (Operand.tmp 36), type := 44, pos := "l7_tree.go:7", after := #[{ on := 24, ground := Ground.data }, { on := 20, ground := Ground.guard }], guard := some (20, true) }) (v := undef) rfl (by kernel_rfl) (by kernel_rfl) (by kernel_rfl) (fun _ _ _ h => h) (Or.inr ⟨by rfl, rfl⟩) (by with_reducible assumption) ?rest62sx25
        case' rest62sx25 => (try simp only [Act.put, List.setIfInBounds_toArray, List.set_cons_zero, List.set_cons_succ])
        refine wpAnyH_take (i := 26) (oi := { dst := some 38, op := Op.move (Operand.tmp 0), type := 24, pos := "l7_tree.go:7", after := #[{ on := 20, ground := Ground.guard }], guard := some (20, true) }) (v := undef) rfl (by kernel_rfl) (by kernel_rfl) (by kernel_rfl) (fun _ _ _ h => h) (Or.inr ⟨by rfl, rfl⟩) (by with_reducible assumption) ?rest63sx26
        case' rest63sx26 => (try simp only [Act.put, List.setIfInBounds_toArray, List.set_cons_zero, List.set_cons_succ])
        refine wpAnyH_take (i := 27) (oi := { dst := some 39, op := Op.move (Operand.tmp 3), type := 3, pos := "l7_tree.go:7", after := #[{ on := 20, ground := Ground.guard }], guard := some (20, true) }) (v := undef) rfl (by kernel_rfl) (by kernel_rfl) (by kernel_rfl) (fun _ _ _ h => h) (Or.inr ⟨by rfl, rfl⟩) (by with_reducible assumption) ?rest64sx27
        case' rest64sx27 => (try simp only [Act.put, List.setIfInBounds_toArray, List.set_cons_zero, List.set_cons_succ])
        refine wpAnyH_take (i := 28) (oi := { dst := some 40, op := Op.binOp BinOp.sub 3 (Operand.tmp 39) (Operand.const (Value.int IntKind.i64 1)) 3, type := 3, pos := "l7_tree.go:7", after := #[{ on := 27, ground := Ground.data }, { on := 20, ground := Ground.guard }], guard := some (20, true) }) (v := undef) rfl (by kernel_rfl) (by kernel_rfl) (by kernel_rfl) (fun _ _ _ h => h) (Or.inr ⟨by rfl, rfl⟩) (by with_reducible assumption) ?rest65sx28
        case' rest65sx28 => (try simp only [Act.put, List.setIfInBounds_toArray, List.set_cons_zero, List.set_cons_succ])
        refine wpAnyH_take (i := 29) (oi := { dst := some 41, op := Op.indexAddr 24 (Operand.tmp 38) (Operand.tmp 40), type := 0, pos := "l7_tree.go:7", after := #[{ on := 26, ground := Ground.data }, { on := 28, ground := Ground.data }, { on := 20, ground := Ground.guard }], guard := some (20, true) }) (v := undef) rfl (by kernel_rfl) (by kernel_rfl) (by kernel_rfl) (fun _ _ _ h => h) (Or.inr ⟨by rfl, rfl⟩) (by with_reducible assumption) ?rest66sx29
        case' rest66sx29 => (try simp only [Act.put, List.setIfInBounds_toArray, List.set_cons_zero, List.set_cons_succ])
        refine wpAnyH_take (i := 30) (oi := { dst := some 42, op := Op.load 44 (Operand.tmp 41), type := 44, pos := "l7_tree.go:7", after := #[{ on := 29, ground := Ground.data }, { on := 20, ground := Ground.guard }], guard := some (20, true) }) (v := undef) rfl (by kernel_rfl) (by kernel_rfl) (by kernel_rfl) (fun _ _ _ h => h) (Or.inr ⟨by rfl, rfl⟩) (by with_reducible assumption) ?rest67sx30
        case' rest67sx30 => (try simp only [Act.put, List.setIfInBounds_toArray, List.set_cons_zero, List.set_cons_succ])
        refine wpAnyH_take (i := 31) (oi := { dst := some 43, op := Op.load 44 (Operand.tmp 4), type := 44, pos := "l7_tree.go:7", after := #[{ on := 20, ground := Ground.guard }], guard := some (20, true) }) (v := undef) rfl (by kernel_rfl) (by kernel_rfl) (by kernel_rfl) (fun _ _ _ h => h) (Or.inr ⟨by rfl, rfl⟩) (by with_reducible assumption) ?rest68sx31
        case' rest68sx31 => (try simp only [Act.put, List.setIfInBounds_toArray, List.set_cons_zero, List.set_cons_succ])
        refine wpAnyH_take (i := 32) (oi := { dst := some 44, op := Op.call { callee := Callee.value (Operand.func 59), args := #[Operand.tmp 37, Operand.tmp 42, Operand.tmp 43], argTypes := #[44, 44, 44] }, type := 3, pos := "l7_tree.go:7", after := #[{ on := 25, ground := Ground.data }, { on := 30, ground := Ground.data }, { on := 31, ground := Ground.data }, { on := 20, ground := Ground.chain }, { on := 20, ground := Ground.guard }], guard := some (20, true) }) (v := undef) rfl (by kernel_rfl) (by kernel_rfl) (by kernel_rfl) (fun _ _ _ h => h) (Or.inr ⟨by rfl, rfl⟩) (by with_reducible assumption) ?rest69sx32
        case' rest69sx32 => (try simp only [Act.put, List.setIfInBounds_toArray, List.set_cons_zero, List.set_cons_succ])
        refine wpAnyH_take (i := 33) (oi := { dst := some 45, op := Op.binOp BinOp.leq 3 (Operand.tmp 44) (Operand.const (Value.int IntKind.i64 0)) 3, type := 4, pos := "l7_tree.go:7", after := #[{ on := 32, ground := Ground.data }, { on := 20, ground := Ground.guard }], guard := some (20, true) }) (v := undef) rfl (by kernel_rfl) (by kernel_rfl) (by kernel_rfl) (fun _ _ _ h => h) (Or.inr ⟨by rfl, rfl⟩) (by with_reducible assumption) ?rest70sx33
        case' rest70sx33 => (try simp only [Act.put, List.setIfInBounds_toArray, List.set_cons_zero, List.set_cons_succ])
        refine wpAnyH_take (i := 34) (oi := { dst := some 46, op := Op.pick (Operand.tmp 32) (Operand.tmp 45) (Operand.const (Value.bool false)), type := 4, pos := "l7_tree.go:7", after := #[{ on := 20, ground := Ground.data }, { on := 33, ground := Ground.data }, { on := 17, ground := Ground.guard }], guard := some (17, false) }) (v := ?v71yx34) rfl (by kernel_rfl) (by kernel_rfl) (by kernel_rfl) (fun _ _ _ h => h) (Or.inl ⟨by rfl, ?hy71yx34⟩) (by with_reducible assumption) ?rest71yx34
        case hy71yx34 => (intro wS hSw; (try dsimp only at hSw); have z0 := cell_later hSw k0; have z1 := cell_later hSw k1; clear hSw; go_simp; try with_reducible rfl)
        case' rest71yx34 => (try simp only [Act.put, List.setIfInBounds_toArray, List.set_cons_zero, List.set_cons_succ])
        refine wpAnyH_take (i := 35) (oi := { dst := some 47, op := Op.pick (Operand.tmp 29) (Operand.const (Value.bool true)) (Operand.tmp 46), type := 4, pos := "l7_tree.go:7", after := #[{ on := 17, ground := Ground.data }, { on := 34, ground := Ground.data }], guard := none }) (v := ?v72yx35) rfl (by kernel_rfl) (by kernel_rfl) (by kernel_rfl) (fun _ _ _ h => h) (Or.inl ⟨by rfl, ?hy72yx35⟩) (by with_reducible assumption) ?rest72yx35
        case hy72yx35 => (intro wS hSw; (try dsimp only at hSw); have z0 := cell_later hSw k0; have z1 := cell_later hSw k1; clear hSw; go_simp; try with_reducible rfl)
        case' rest72yx35 => (try simp only [Act.put, List.setIfInBounds_toArray, List.set_cons_zero, List.set_cons_succ])
        refine wpAnyH_done (by kernel_rfl) ?_ _
        replace hbx := grew hbx (by with_reducible assumption)
        go_wp2
        go_roundw
        case rel => exact ⟨1, by omega, by first | rfl | go_num, HCS.out, RisesTo.zero l, fun i hi => absurd hi (by omega), hbx⟩
        case measure => simp [intOf]; omega
      obtain ⟨m, rfl⟩ : ∃ m, k = m + 1 := ⟨k - 1, by omega⟩
      obtain ⟨b1, off1, e1, _, g2, g3⟩ := HA.out m (by omega)
      obtain ⟨rfl, rfl⟩ : b = b1 ∧ off = off1 := by simpa using e1
      have q2 := cell_later hbw g2
      have q3 := cell_later hbw g3
      obtain ⟨x1, hx1⟩ : ∃ x, px l m = x := ⟨_, rfl⟩
      obtain ⟨y1, hy1⟩ : ∃ y, py l m = y := ⟨_, rfl⟩
      rw [hx1] at q2
      rw [hy1] at q3
      clear g2 g3 e1
      obtain ⟨K, hK⟩ : ∃ K, m + 1 = K := ⟨_, rfl⟩
      have HK := hid hK
      rw [hK] at q0 q1 nk nk1
      rw [hK]
      have hw1 : IntKind.i64.wrap ((K : Int) - 1) = (m : Int) := by rw [IntKind.wrap_i64]; omega
      have pK : (0 : Int) < (K : Int) := by omega
      have pKn : 0 < K := by omega
      have nm : (0 : Int) ≤ (m : Int) := by omega
      have nm1 : (m : Int) < (l.length : Int) := by omega
      cases hle : lessB x1 y1 x y
      · have E := hid (chI_fall (l := l) (k := m) hkl (by rw [hx, hy, hx1, hy1]; exact hle))
        clear hx hy hx1 hy1 hK
        go_upto_region 4 with fail
        have hb8 : Below wr.heap.size wr (wr.alloc (.cells #[.int .i64 x, .int .i64 y] 44)) := by go_grown
        have k0 := box0 wr x y 44
        have k1 := box1 wr x y 44
        have hbx := grew hbw hb8
        replace q0 := cell_later hb8 q0
        replace q1 := cell_later hb8 q1
        replace q2 := cell_later hb8 q2
        replace q3 := cell_later hb8 q3
        clear hb8 hbw
        generalize wr.alloc (.cells #[.int .i64 x, .int .i64 y] 44) = wp at *
        generalize wr.heap.size = B8 at *
        refine wp_region_held_drew (S := (fun u => Below wp.heap.size wp u)) (by kernel_rfl) ?_ (fun hHeld => ?_)
        · exact (Below.refl _ _).drew
        refine wpAnyH_take (i := 0) (oi := { dst := some 12, op := Op.load 44 (Operand.tmp 4), type := 44, pos := "l7_tree.go:7", after := #[], guard := none }) (v := ?v74yx0) rfl (by kernel_rfl) (by kernel_rfl) (by kernel_rfl) (fun _ _ _ h => h) (Or.inl ⟨by rfl, ?hy74yx0⟩) (by with_reducible assumption) ?rest74yx0
        case hy74yx0 => (intro wS hSw; (try dsimp only at hSw); have z0 := cell_later hSw k0; have z1 := cell_later hSw k1; have z2 := cell_later hSw q2; have z3 := cell_later hSw q3; clear hSw; go_simp; try with_reducible rfl)
        case' rest74yx0 => (try simp only [Act.put, List.setIfInBounds_toArray, List.set_cons_zero, List.set_cons_succ])
        refine wpAnyH_ready (rs := [1]) (by kernel_rfl) (by simp) ?_
        refine AllReadyH.cons (o := { dst := some 13, op := Op.call { callee := Callee.value (Operand.func 60), args := #[Operand.tmp 12], argTypes := #[44] }, type := 4, pos := "l7_tree.go:7", after := #[{ on := 0, ground := Ground.data }], guard := none }) rfl (fun K hK => ?_) AllReadyH.nil
        go_simp
        refine (goodSpec_e _ _ _).mono ?_
        rw [hg]
        rintro e w2 ⟨rfl, hb2⟩
        go_wp2_with fail
        refine hK.out _ _ ?_ (fun hHeld => ?_)
        · exact grew (by with_reducible assumption) hb2
        clear hK K
        try simp only [Act.put, List.setIfInBounds_toArray, List.set_cons_zero, List.set_cons_succ]
        refine wpAnyH_take (i := 2) (oi := { dst := some 14, op := Op.unOp UnOp.not 4 (Operand.tmp 13), type := 4, pos := "l7_tree.go:7", after := #[{ on := 1, ground := Ground.data }], guard := none }) (v := ?v75yx2) rfl (by kernel_rfl) (by kernel_rfl) (by kernel_rfl) (fun _ _ _ h => h) (Or.inl ⟨by rfl, ?hy75yx2⟩) (by with_reducible assumption) ?rest75yx2
        case hy75yx2 => (intro wS hSw; (try dsimp only at hSw); have z0 := cell_later hSw k0; have z1 := cell_later hSw k1; have z2 := cell_later hSw q2; have z3 := cell_later hSw q3; clear hSw; go_simp; try with_reducible rfl)
        case' rest75yx2 => (try simp only [Act.put, List.setIfInBounds_toArray, List.set_cons_zero, List.set_cons_succ])
        refine wpAnyH_take (i := 3) (oi := { dst := some 15, op := Op.move (Operand.tmp 14), type := 4, pos := "l7_tree.go:7", after := #[{ on := 2, ground := Ground.data }, { on := 1, ground := Ground.chain }], guard := none }) (v := ?v76yx3) rfl (by kernel_rfl) (by kernel_rfl) (by kernel_rfl) (fun _ _ _ h => h) (Or.inl ⟨by rfl, ?hy76yx3⟩) (by with_reducible assumption) ?rest76yx3
        case hy76yx3 => (intro wS hSw; (try dsimp only at hSw); have z0 := cell_later hSw k0; have z1 := cell_later hSw k1; have z2 := cell_later hSw q2; have z3 := cell_later hSw q3; clear hSw; go_simp; try with_reducible rfl)
        case' rest76yx3 => (try simp only [Act.put, List.setIfInBounds_toArray, List.set_cons_zero, List.set_cons_succ])
        refine wpAnyH_take (i := 4) (oi := { dst := some 16, op := Op.move (Operand.tmp 3), type := 3, pos := "l7_tree.go:7", after := #[{ on := 3, ground := Ground.guard }], guard := some (3, false) }) (v := ?v77yx4) rfl (by kernel_rfl) (by kernel_rfl) (by kernel_rfl) (fun _ _ _ h => h) (Or.inl ⟨by rfl, ?hy77yx4⟩) (by with_reducible assumption) ?rest77yx4
        case hy77yx4 => (intro wS hSw; (try dsimp only at hSw); have z0 := cell_later hSw k0; have z1 := cell_later hSw k1; have z2 := cell_later hSw q2; have z3 := cell_later hSw q3; clear hSw; go_simp; try with_reducible rfl)
        case' rest77yx4 => (try simp only [Act.put, List.setIfInBounds_toArray, List.set_cons_zero, List.set_cons_succ])
        refine wpAnyH_take (i := 5) (oi := { dst := some 17, op := Op.binOp BinOp.gtr 3 (Operand.tmp 16) (Operand.const (Value.int IntKind.i64 0)) 3, type := 4, pos := "l7_tree.go:7", after := #[{ on := 4, ground := Ground.data }, { on := 3, ground := Ground.guard }], guard := some (3, false) }) (v := ?v78yx5) rfl (by kernel_rfl) (by kernel_rfl) (by kernel_rfl) (fun _ _ _ h => h) (Or.inl ⟨by rfl, ?hy78yx5⟩) (by with_reducible assumption) ?rest78yx5
        case hy78yx5 => (intro wS hSw; (try dsimp only at hSw); have z0 := cell_later hSw k0; have z1 := cell_later hSw k1; have z2 := cell_later hSw q2; have z3 := cell_later hSw q3; clear hSw; go_simp; try with_reducible rfl)
        case' rest78yx5 => (try simp only [Act.put, List.setIfInBounds_toArray, List.set_cons_zero, List.set_cons_succ])
        refine wpAnyH_take (i := 6) (oi := { dst := some 18, op := Op.move (Operand.tmp 17), type := 4, pos := "l7_tree.go:7", after := #[{ on := 5, ground := Ground.data }, { on := 3, ground := Ground.chain }, { on := 3, ground := Ground.guard }], guard := some (3, false) }) (v := ?v79yx6) rfl (by kernel_rfl) (by kernel_rfl) (by kernel_rfl) (fun _ _ _ h => h) (Or.inl ⟨by rfl, ?hy79yx6⟩) (by with_reducible assumption) ?rest79yx6
        case hy79yx6 => (intro wS hSw; (try dsimp only at hSw); have z0 := cell_later hSw k0; have z1 := cell_later hSw k1; have z2 := cell_later hSw q2; have z3 := cell_later hSw q3; clear hSw; go_simp; try with_reducible rfl)
        case' rest79yx6 => (try simp only [Act.put, List.setIfInBounds_toArray, List.set_cons_zero, List.set_cons_succ])
        refine wpAnyH_take (i := 7) (oi := { dst := some 19, op := Op.move (Operand.tmp 0), type := 24, pos := "l7_tree.go:7", after := #[{ on := 6, ground := Ground.guard }], guard := some (6, true) }) (v := ?v80yx7) rfl (by kernel_rfl) (by kernel_rfl) (by kernel_rfl) (fun _ _ _ h => h) (Or.inl ⟨by rfl, ?hy80yx7⟩) (by with_reducible assumption) ?rest80yx7
        case hy80yx7 => (intro wS hSw; (try dsimp only at hSw); have z0 := cell_later hSw k0; have z1 := cell_later hSw k1; have z2 := cell_later hSw q2; have z3 := cell_later hSw q3; clear hSw; go_simp; try with_reducible rfl)
        case' rest80yx7 => (try simp only [Act.put, List.setIfInBounds_toArray, List.set_cons_zero, List.set_cons_succ])
        refine wpAnyH_take (i := 8) (oi := { dst := some 20, op := Op.move (Operand.tmp 3), type := 3, pos := "l7_tree.go:7", after := #[{ on := 6, ground := Ground.guard }], guard := some (6, true) }) (v := ?v81yx8) rfl (by kernel_rfl) (by kernel_rfl) (by kernel_rfl) (fun _ _ _ h => h) (Or.inl ⟨by rfl, ?hy81yx8⟩) (by with_reducible assumption) ?rest81yx8
        case hy81yx8 => (intro wS hSw; (try dsimp only at hSw); have z0 := cell_later hSw k0; have z1 := cell_later hSw k1; have z2 := cell_later hSw q2; have z3 := cell_later hSw q3; clear hSw; go_simp; try with_reducible rfl)
        case' rest81yx8 => (try simp only [Act.put, List.setIfInBounds_toArray, List.set_cons_zero, List.set_cons_succ])
        refine wpAnyH_take (i := 9) (oi := { dst := some 21, op := Op.binOp BinOp.sub 3 (Operand.tmp 20) (Operand.const (Value.int IntKind.i64 1)) 3, type := 3, pos := "l7_tree.go:7", after := #[{ on := 8, ground := Ground.data }, { on := 6, ground := Ground.guard }], guard := some (6, true) }) (v := ?v82yx9) rfl (by kernel_rfl) (by kernel_rfl) (by kernel_rfl) (fun _ _ _ h => h) (Or.inl ⟨by rfl, ?hy82yx9⟩) (by with_reducible assumption) ?rest82yx9
        case hy82yx9 => (intro wS hSw; (try dsimp only at hSw); have z0 := cell_later hSw k0; have z1 := cell_later hSw k1; have z2 := cell_later hSw q2; have z3 := cell_later hSw q3; clear hSw; go_simp; try with_reducible rfl)
        case' rest82yx9 => (try simp only [Act.put, List.setIfInBounds_toArray, List.set_cons_zero, List.set_cons_succ])
        refine wpAnyH_take (i := 10) (oi := { dst := some 22, op := Op.indexAddr 24 (Operand.tmp 19) (Operand.tmp 21), type := 0, pos := "l7_tree.go:7", after := #[{ on := 7, ground := Ground.data }, { on := 9, ground := Ground.data }, { on := 6, ground := Ground.guard }], guard := some (6, true) }) (v := ?v83yx10) rfl (by kernel_rfl) (by kernel_rfl) (by kernel_rfl) (fun _ _ _ h => h) (Or.inl ⟨by rfl, ?hy83yx10⟩) (by with_reducible assumption) ?rest83yx10
        case hy83yx10 => (intro wS hSw; (try dsimp only at hSw); have z0 := cell_later hSw k0; have z1 := cell_later hSw k1; have z2 := cell_later hSw q2; have z3 := cell_later hSw q3; clear hSw; go_simp; try with_reducible rfl)
        case' rest83yx10 => (try simp only [Act.put, List.setIfInBounds_toArray, List.set_cons_zero, List.set_cons_succ])
        refine wpAnyH_take (i := 11) (oi := { dst := some 23, op := Op.load 44 (Operand.tmp 22), type := 44, pos := "l7_tree.go:7", after := #[{ on := 10, ground := Ground.data }, { on := 6, ground := Ground.guard }], guard := some (6, true) }) (v := ?v84yx11) rfl (by kernel_rfl) (by kernel_rfl) (by kernel_rfl) (fun _ _ _ h => h) (Or.inl ⟨by rfl, ?hy84yx11⟩) (by with_reducible assumption) ?rest84yx11
        case hy84yx11 => (intro wS hSw; (try dsimp only at hSw); have z0 := cell_later hSw k0; have z1 := cell_later hSw k1; have z2 := cell_later hSw q2; have z3 := cell_later hSw q3; clear hSw; go_simp; try with_reducible rfl)
        case' rest84yx11 => (try simp only [Act.put, List.setIfInBounds_toArray, List.set_cons_zero, List.set_cons_succ])
        refine wpAnyH_take (i := 12) (oi := { dst := some 24, op := Op.load 44 (Operand.tmp 4), type := 44, pos := "l7_tree.go:7", after := #[{ on := 6, ground := Ground.guard }], guard := some (6, true) }) (v := ?v85yx12) rfl (by kernel_rfl) (by kernel_rfl) (by kernel_rfl) (fun _ _ _ h => h) (Or.inl ⟨by rfl, ?hy85yx12⟩) (by with_reducible assumption) ?rest85yx12
        case hy85yx12 => (intro wS hSw; (try dsimp only at hSw); have z0 := cell_later hSw k0; have z1 := cell_later hSw k1; have z2 := cell_later hSw q2; have z3 := cell_later hSw q3; clear hSw; go_simp; try with_reducible rfl)
        case' rest85yx12 => (try simp only [Act.put, List.setIfInBounds_toArray, List.set_cons_zero, List.set_cons_succ])
        refine wpAnyH_ready (rs := [13]) (by kernel_rfl) (by simp) ?_
        refine AllReadyH.cons (o := { dst := some 25, op := Op.call { callee := Callee.value (Operand.func 42), args := #[Operand.tmp 23, Operand.tmp 24], argTypes := #[44, 44] }, type := 4, pos := "l7_tree.go:7", after := #[{ on := 11, ground := Ground.data }, { on := 12, ground := Ground.data }, { on := 6, ground := Ground.chain }, { on := 6, ground := Ground.guard }], guard := some (6, true) }) rfl (fun K hK => ?_) AllReadyH.nil
        go_simp
        refine (lessSpec_c _ _ _ _ _).mono ?_
        rw [hle]
        rintro e w3 ⟨rfl, hb2⟩
        go_wp2_with fail
        refine hK.out _ _ ?_ (fun hHeld => ?_)
        · exact grew (by with_reducible assumption) hb2
        clear hK K
        try simp only [Act.put, List.setIfInBounds_toArray, List.set_cons_zero, List.set_cons_succ]
        refine wpAnyH_take (i := 14) (oi := { dst := some 26, op := Op.unOp UnOp.not 4 (Operand.tmp 25), type := 4, pos := "l7_tree.go:7", after := #[{ on := 13, ground := Ground.data }, { on := 6, ground := Ground.guard }], guard := some (6, true) }) (v := ?v86yx14) rfl (by kernel_rfl) (by kernel_rfl) (by kernel_rfl) (fun _ _ _ h => h) (Or.inl ⟨by rfl, ?hy86yx14⟩) (by with_reducible assumption) ?rest86yx14
        case hy86yx14 => (intro wS hSw; (try dsimp only at hSw); have z0 := cell_later hSw k0; have z1 := cell_later hSw k1; have z2 := cell_later hSw q2; have z3 := cell_later hSw q3; clear hSw; go_simp; try with_reducible rfl)
        case' rest86yx14 => (try simp only [Act.put, List.setIfInBounds_toArray, List.set_cons_zero, List.set_cons_succ])
        refine wpAnyH_take (i := 15) (oi := { dst := some 27, op := Op.pick (Operand.tmp 18) (Operand.tmp 26) (Operand.const (Value.bool false)), type := 4, pos := "l7_tree.go:7", after := #[{ on := 6, ground := Ground.data }, { on := 14, ground := Ground.data }, { on := 3, ground := Ground.guard }], guard := some (3, false) }) (v := ?v87yx15) rfl (by kernel_rfl) (by kernel_rfl) (by kernel_rfl) (fun _ _ _ h => h) (Or.inl ⟨by rfl, ?hy87yx15⟩) (by with_reducible assumption) ?rest87yx15
        case hy87yx15 => (intro wS hSw; (try dsimp only at hSw); have z0 := cell_later hSw k0; have z1 := cell_later hSw k1; have z2 := cell_later hSw q2; have z3 := cell_later hSw q3; clear hSw; go_simp; try with_reducible rfl)
        case' rest87yx15 => (try simp only [Act.put, List.setIfInBounds_toArray, List.set_cons_zero, List.set_cons_succ])
        refine wpAnyH_take (i := 16) (oi := { dst := some 28, op := Op.pick (Operand.tmp 15) (Operand.const (Value.bool true)) (Operand.tmp 27), type := 4, pos := "l7_tree.go:7", after := #[{ on := 3, ground := Ground.data }, { on := 15, ground := Ground.data }], guard := none }) (v := ?v88yx16) rfl (by kernel_rfl) (by kernel_rfl) (by kernel_rfl) (fun _ _ _ h => h) (Or.inl ⟨by rfl, ?hy88yx16⟩) (by with_reducible assumption) ?rest88yx16
        case hy88yx16 => (intro wS hSw; (try dsimp only at hSw); have z0 := cell_later hSw k0; have z1 := cell_later hSw k1; have z2 := cell_later hSw q2; have z3 := cell_later hSw q3; clear hSw; go_simp; try with_reducible rfl)
        case' rest88yx16 => (try simp only [Act.put, List.setIfInBounds_toArray, List.set_cons_zero, List.set_cons_succ])
        refine wpAnyH_take (i := 17) (oi := { dst := some 29, op := Op.move (Operand.tmp 28), type := 4, pos := "l7_tree.go:7", after := #[{ on := 16, ground := Ground.data }, { on := 13, ground := Ground.chain }], guard := none }) (v := ?v89yx17) rfl (by kernel_rfl) (by kernel_rfl) (by kernel_rfl) (fun _ _ _ h => h) (Or.inl ⟨by rfl, ?hy89yx17⟩) (by with_reducible assumption) ?rest89yx17
        case hy89yx17 => (intro wS hSw; (try dsimp only at hSw); have z0 := cell_later hSw k0; have z1 := cell_later hSw k1; have z2 := cell_later hSw q2; have z3 := cell_later hSw q3; clear hSw; go_simp; try with_reducible rfl)
        case' rest89yx17 => (try simp only [Act.put, List.setIfInBounds_toArray, List.set_cons_zero, List.set_cons_succ])
        refine wpAnyH_take (i := 18) (oi := { dst := some 30, op := Op.move (Operand.tmp 3), type := 3, pos := "l7_tree.go:7", after := #[{ on := 17, ground := Ground.guard }], guard := some (17, false) }) (v := undef) rfl (by kernel_rfl) (by kernel_rfl) (by kernel_rfl) (fun _ _ _ h => h) (Or.inr ⟨by rfl, rfl⟩) (by with_reducible assumption) ?rest90sx18
        case' rest90sx18 => (try simp only [Act.put, List.setIfInBounds_toArray, List.set_cons_zero, List.set_cons_succ])
        refine wpAnyH_take (i := 19) (oi := { dst := some 31, op := Op.binOp BinOp.gtr 3 (Operand.tmp 30) (Operand.const (Value.int IntKind.i64 1)) 3, type := 4, pos := "l7_tree.go:7", after := #[{ on := 18, ground := Ground.data }, { on := 17, ground := Ground.guard }], guard := some (17, false) }) (v := undef) rfl (by kernel_rfl) (by kernel_rfl) (by kernel_rfl) (fun _ _ _ h => h) (Or.inr ⟨by rfl, rfl⟩) (by with_reducible assumption) ?rest91sx19
        case' rest91sx19 => (try simp only [Act.put, List.setIfInBounds_toArray, List.set_cons_zero, List.set_cons_succ])
        refine wpAnyH_take (i := 20) (oi := { dst := some 32, op := Op.move (Operand.tmp 31), type := 4, pos := "l7_tree.go:7", after := #[{ on := 19, ground := Ground.data }, { on := 17, ground := Ground.chain }, { on := 17, ground := Ground.guard }], guard := some (17, false) }) (v := undef) rfl (by kernel_rfl) (by kernel_rfl) (by kernel_rfl) (fun _ _ _ h => h) (Or.inr ⟨by rfl, rfl⟩) (by with_reducible assumption) ?rest92sx20
        case' rest92sx20 => (try simp only [Act.put, List.setIfInBounds_toArray, List.set_cons_zero, List.set_cons_succ])
        refine wpAnyH_take (i := 21) (oi := { dst := some 33, op := Op.move (Operand.tmp 0), type := 24, pos := "l7_tree.go:7", after := #[{ on := 20, ground := Ground.guard }], guard := some (20, true) }) (v := undef) rfl (by kernel_rfl) (by kernel_rfl) (by kernel_rfl) (fun _ _ _ h => h) (Or.inr ⟨by rfl, rfl⟩) (by with_reducible assumption) ?rest93sx21
        case' rest93sx21 => (try simp only [Act.put, List.setIfInBounds_toArray, List.set_cons_zero, List.set_cons_succ])
        refine wpAnyH_take (i := 22) (oi := { dst := some 34, op := Op.move (Operand.tmp 3), type := 3, pos := "l7_tree.go:7", after := #[{ on := 20, ground := Ground.guard }], guard := some (20, true) }) (v := undef) rfl (by kernel_rfl) (by kernel_rfl) (by kernel_rfl) (fun _ _ _ h => h) (Or.inr ⟨by rfl, rfl⟩) (by with_reducible assumption) ?rest94sx22
        case' rest94sx22 => (try simp only [Act.put, List.setIfInBounds_toArray, List.set_cons_zero, List.set_cons_succ])
        refine wpAnyH_take (i := 23) (oi := { dst := some 35, op := Op.binOp BinOp.sub 3 (Operand.tmp 34) (Operand.const (Value.int IntKind.i64 2)) 3, type := 3, pos := "l7_tree.go:7", after := #[{ on := 22, ground := Ground.data }, { on := 20, ground := Ground.guard }], guard := some (20, true) }) (v := undef) rfl (by kernel_rfl) (by kernel_rfl) (by kernel_rfl) (fun _ _ _ h => h) (Or.inr ⟨by rfl, rfl⟩) (by with_reducible assumption) ?rest95sx23
        case' rest95sx23 => (try simp only [Act.put, List.setIfInBounds_toArray, List.set_cons_zero, List.set_cons_succ])
        refine wpAnyH_take (i := 24) (oi := { dst := some 36, op := Op.indexAddr 24 (Operand.tmp 33) (Operand.tmp 35), type := 0, pos := "l7_tree.go:7", after := #[{ on := 21, ground := Ground.data }, { on := 23, ground := Ground.data }, { on := 20, ground := Ground.guard }], guard := some (20, true) }) (v := undef) rfl (by kernel_rfl) (by kernel_rfl) (by kernel_rfl) (fun _ _ _ h => h) (Or.inr ⟨by rfl, rfl⟩) (by with_reducible assumption) ?rest96sx24
        case' rest96sx24 => (try simp only [Act.put, List.setIfInBounds_toArray, List.set_cons_zero, List.set_cons_succ])
        refine wpAnyH_take (i := 25) (oi := { dst := some 37, op := Op.load 44 (Operand.tmp 36), type := 44, pos := "l7_tree.go:7", after := #[{ on := 24, ground := Ground.data }, { on := 20, ground := Ground.guard }], guard := some (20, true) }) (v := undef) rfl (by kernel_rfl) (by kernel_rfl) (by kernel_rfl) (fun _ _ _ h => h) (Or.inr ⟨by rfl, rfl⟩) (by with_reducible assumption) ?rest97sx25
        case' rest97sx25 => (try simp only [Act.put, List.setIfInBounds_toArray, List.set_cons_zero, List.set_cons_succ])
        refine wpAnyH_take (i := 26) (oi := { dst := some 38, op := Op.move (Operand.tmp 0), type := 24, pos := "l7_tree.go:7", after := #[{ on := 20, ground := Ground.guard }], guard := some (20, true) }) (v := undef) rfl (by kernel_rfl) (by kernel_rfl) (by kernel_rfl) (fun _ _ _ h => h) (Or.inr ⟨by rfl, rfl⟩) (by with_reducible assumption) ?rest98sx26
        case' rest98sx26 => (try simp only [Act.put, List.setIfInBounds_toArray, List.set_cons_zero, List.set_cons_succ])
        refine wpAnyH_take (i := 27) (oi := { dst := some 39, op := Op.move (Operand.tmp 3), type := 3, pos := "l7_tree.go:7", after := #[{ on := 20, ground := Ground.guard }], guard := some (20, true) }) (v := undef) rfl (by kernel_rfl) (by kernel_rfl) (by kernel_rfl) (fun _ _ _ h => h) (Or.inr ⟨by rfl, rfl⟩) (by with_reducible assumption) ?rest99sx27
        case' rest99sx27 => (try simp only [Act.put, List.setIfInBounds_toArray, List.set_cons_zero, List.set_cons_succ])
        refine wpAnyH_take (i := 28) (oi := { dst := some 40, op := Op.binOp BinOp.sub 3 (Operand.tmp 39) (Operand.const (Value.int IntKind.i64 1)) 3, type := 3, pos := "l7_tree.go:7", after := #[{ on := 27, ground := Ground.data }, { on := 20, ground := Ground.guard }], guard := some (20, true) }) (v := undef) rfl (by kernel_rfl) (by kernel_rfl) (by kernel_rfl) (fun _ _ _ h => h) (Or.inr ⟨by rfl, rfl⟩) (by with_reducible assumption) ?rest100sx28
        case' rest100sx28 => (try simp only [Act.put, List.setIfInBounds_toArray, List.set_cons_zero, List.set_cons_succ])
        refine wpAnyH_take (i := 29) (oi := { dst := some 41, op := Op.indexAddr 24 (Operand.tmp 38) (Operand.tmp 40), type := 0, pos := "l7_tree.go:7", after := #[{ on := 26, ground := Ground.data }, { on := 28, ground := Ground.data }, { on := 20, ground := Ground.guard }], guard := some (20, true) }) (v := undef) rfl (by kernel_rfl) (by kernel_rfl) (by kernel_rfl) (fun _ _ _ h => h) (Or.inr ⟨by rfl, rfl⟩) (by with_reducible assumption) ?rest101sx29
        case' rest101sx29 => (try simp only [Act.put, List.setIfInBounds_toArray, List.set_cons_zero, List.set_cons_succ])
        refine wpAnyH_take (i := 30) (oi := { dst := some 42, op := Op.load 44 (Operand.tmp 41), type := 44, pos := "l7_tree.go:7", after := #[{ on := 29, ground := Ground.data }, { on := 20, ground := Ground.guard }], guard := some (20, true) }) (v := undef) rfl (by kernel_rfl) (by kernel_rfl) (by kernel_rfl) (fun _ _ _ h => h) (Or.inr ⟨by rfl, rfl⟩) (by with_reducible assumption) ?rest102sx30
        case' rest102sx30 => (try simp only [Act.put, List.setIfInBounds_toArray, List.set_cons_zero, List.set_cons_succ])
        refine wpAnyH_take (i := 31) (oi := { dst := some 43, op := Op.load 44 (Operand.tmp 4), type := 44, pos := "l7_tree.go:7", after := #[{ on := 20, ground := Ground.guard }], guard := some (20, true) }) (v := undef) rfl (by kernel_rfl) (by kernel_rfl) (by kernel_rfl) (fun _ _ _ h => h) (Or.inr ⟨by rfl, rfl⟩) (by with_reducible assumption) ?rest103sx31
        case' rest103sx31 => (try simp only [Act.put, List.setIfInBounds_toArray, List.set_cons_zero, List.set_cons_succ])
        refine wpAnyH_take (i := 32) (oi := { dst := some 44, op := Op.call { callee := Callee.value (Operand.func 59), args := #[Operand.tmp 37, Operand.tmp 42, Operand.tmp 43], argTypes := #[44, 44, 44] }, type := 3, pos := "l7_tree.go:7", after := #[{ on := 25, ground := Ground.data }, { on := 30, ground := Ground.data }, { on := 31, ground := Ground.data }, { on := 20, ground := Ground.chain }, { on := 20, ground := Ground.guard }], guard := some (20, true) }) (v := undef) rfl (by kernel_rfl) (by kernel_rfl) (by kernel_rfl) (fun _ _ _ h => h) (Or.inr ⟨by rfl, rfl⟩) (by with_reducible assumption) ?rest104sx32
        case' rest104sx32 => (try simp only [Act.put, List.setIfInBounds_toArray, List.set_cons_zero, List.set_cons_succ])
        refine wpAnyH_take (i := 33) (oi := { dst := some 45, op := Op.binOp BinOp.leq 3 (Operand.tmp 44) (Operand.const (Value.int IntKind.i64 0)) 3, type := 4, pos := "l7_tree.go:7", after := #[{ on := 32, ground := Ground.data }, { on := 20, ground := Ground.guard }], guard := some (20, true) }) (v := undef) rfl (by kernel_rfl) (by kernel_rfl) (by kernel_rfl) (fun _ _ _ h => h) (Or.inr ⟨by rfl, rfl⟩) (by with_reducible assumption) ?rest105sx33
        case' rest105sx33 => (try simp only [Act.put, List.setIfInBounds_toArray, List.set_cons_zero, List.set_cons_succ])
        refine wpAnyH_take (i := 34) (oi := { dst := some 46, op := Op.pick (Operand.tmp 32) (Operand.tmp 45) (Operand.const (Value.bool false)), type := 4, pos := "l7_tree.go:7", after := #[{ on := 20, ground := Ground.data }, { on := 33, ground := Ground.data }, { on := 17, ground := Ground.guard }], guard := some (17, false) }) (v := undef) rfl (by kernel_rfl) (by kernel_rfl) (by kernel_rfl) (fun _ _ _ h => h) (Or.inr ⟨by rfl, rfl⟩) (by with_reducible assumption) ?rest106sx34
        case' rest106sx34 => (try simp only [Act.put, List.setIfInBounds_toArray, List.set_cons_zero, List.set_cons_succ])
        refine wpAnyH_take (i := 35) (oi := { dst := some 47, op := Op.pick (Operand.tmp 29) (Operand.const (Value.bool true)) (Operand.tmp 46), type := 4, pos := "l7_tree.go:7", after := #[{ on := 17, ground := Ground.data }, { on := 34, ground := Ground.data }], guard := none }) (v := ?v107yx35) rfl (by kernel_rfl) (by kernel_rfl) (by kernel_rfl) (fun _ _ _ h => h) (Or.inl ⟨by rfl, ?hy107yx35⟩) (by with_reducible assumption) ?rest107yx35
        case hy107yx35 => (intro wS hSw; (try dsimp only at hSw); have z0 := cell_later hSw k0; have z1 := cell_later hSw k1; have z2 := cell_later hSw q2; have z3 := cell_later hSw q3; clear hSw; go_simp; try with_reducible rfl)
        case' rest107yx35 => (try simp only [Act.put, List.setIfInBounds_toArray, List.set_cons_zero, List.set_cons_succ])
        refine wpAnyH_done (by kernel_rfl) ?_ _
        replace hbx := grew hbx (by with_reducible assumption)
        go_wp2
        go_ret
        exact ⟨ret_bool E.out.symm, hbx⟩
      have HRS := hid (HR.out.succ (k := m) (by rw [hx, hy, hx1, hy1]; exact hle))
      rcases Nat.lt_or_ge m 1 with hm0 | hm1
      · obtain rfl : m = 0 := by omega
        simp only [Nat.zero_mul, Nat.add_zero] at q2 q3
        have n0 : 0 < l.length := by omega
        have pB : decide ((1 : Int) < (K : Int)) = false := decide_eq_false (by omega)
        have pBn : decide (1 < K) = false := decide_eq_false (by omega)
        clear hx hy hx1 hy1 hK
        go_upto_region 4 with fail
        have hb8 : Below wr.heap.size wr (wr.alloc (.cells #[.int .i64 x, .int .i64 y] 44)) := by go_grown
        have k0 := box0 wr x y 44
        have k1 := box1 wr x y 44
        have hbx := grew hbw hb8
        replace q0 := cell_later hb8 q0
        replace q1 := cell_later hb8 q1
        replace q2 := cell_later hb8 q2
        replace q3 := cell_later hb8 q3
        clear hb8 hbw
        generalize wr.alloc (.cells #[.int .i64 x, .int .i64 y] 44) = wp at *
        generalize wr.heap.size = B8 at *
        refine wp_region_held_drew (S := (fun u => Below wp.heap.size wp u)) (by kernel_rfl) ?_ (fun hHeld => ?_)
        · exact (Below.refl _ _).drew
        refine wpAnyH_take (i := 0) (oi := { dst := some 12, op := Op.load 44 (Operand.tmp 4), type := 44, pos := "l7_tree.go:7", after := #[], guard := none }) (v := ?v109yx0) rfl (by kernel_rfl) (by kernel_rfl) (by kernel_rfl) (fun _ _ _ h => h) (Or.inl ⟨by rfl, ?hy109yx0⟩) (by with_reducible assumption) ?rest109yx0
        case hy109yx0 => (intro wS hSw; (try dsimp only at hSw); have z0 := cell_later hSw k0; have z1 := cell_later hSw k1; have z2 := cell_later hSw q2; have z3 := cell_later hSw q3; clear hSw; go_simp; try with_reducible rfl)
        case' rest109yx0 => (try simp only [Act.put, List.setIfInBounds_toArray, List.set_cons_zero, List.set_cons_succ])
        refine wpAnyH_ready (rs := [1]) (by kernel_rfl) (by simp) ?_
        refine AllReadyH.cons (o := { dst := some 13, op := Op.call { callee := Callee.value (Operand.func 60), args := #[Operand.tmp 12], argTypes := #[44] }, type := 4, pos := "l7_tree.go:7", after := #[{ on := 0, ground := Ground.data }], guard := none }) rfl (fun K hK => ?_) AllReadyH.nil
        go_simp
        refine (goodSpec_e _ _ _).mono ?_
        rw [hg]
        rintro e w2 ⟨rfl, hb2⟩
        go_wp2_with fail
        refine hK.out _ _ ?_ (fun hHeld => ?_)
        · exact grew (by with_reducible assumption) hb2
        clear hK K
        try simp only [Act.put, List.setIfInBounds_toArray, List.set_cons_zero, List.set_cons_succ]
        refine wpAnyH_take (i := 2) (oi := { dst := some 14, op := Op.unOp UnOp.not 4 (Operand.tmp 13), type := 4, pos := "l7_tree.go:7", after := #[{ on := 1, ground := Ground.data }], guard := none }) (v := ?v110yx2) rfl (by kernel_rfl) (by kernel_rfl) (by kernel_rfl) (fun _ _ _ h => h) (Or.inl ⟨by rfl, ?hy110yx2⟩) (by with_reducible assumption) ?rest110yx2
        case hy110yx2 => (intro wS hSw; (try dsimp only at hSw); have z0 := cell_later hSw k0; have z1 := cell_later hSw k1; have z2 := cell_later hSw q2; have z3 := cell_later hSw q3; clear hSw; go_simp; try with_reducible rfl)
        case' rest110yx2 => (try simp only [Act.put, List.setIfInBounds_toArray, List.set_cons_zero, List.set_cons_succ])
        refine wpAnyH_take (i := 3) (oi := { dst := some 15, op := Op.move (Operand.tmp 14), type := 4, pos := "l7_tree.go:7", after := #[{ on := 2, ground := Ground.data }, { on := 1, ground := Ground.chain }], guard := none }) (v := ?v111yx3) rfl (by kernel_rfl) (by kernel_rfl) (by kernel_rfl) (fun _ _ _ h => h) (Or.inl ⟨by rfl, ?hy111yx3⟩) (by with_reducible assumption) ?rest111yx3
        case hy111yx3 => (intro wS hSw; (try dsimp only at hSw); have z0 := cell_later hSw k0; have z1 := cell_later hSw k1; have z2 := cell_later hSw q2; have z3 := cell_later hSw q3; clear hSw; go_simp; try with_reducible rfl)
        case' rest111yx3 => (try simp only [Act.put, List.setIfInBounds_toArray, List.set_cons_zero, List.set_cons_succ])
        refine wpAnyH_take (i := 4) (oi := { dst := some 16, op := Op.move (Operand.tmp 3), type := 3, pos := "l7_tree.go:7", after := #[{ on := 3, ground := Ground.guard }], guard := some (3, false) }) (v := ?v112yx4) rfl (by kernel_rfl) (by kernel_rfl) (by kernel_rfl) (fun _ _ _ h => h) (Or.inl ⟨by rfl, ?hy112yx4⟩) (by with_reducible assumption) ?rest112yx4
        case hy112yx4 => (intro wS hSw; (try dsimp only at hSw); have z0 := cell_later hSw k0; have z1 := cell_later hSw k1; have z2 := cell_later hSw q2; have z3 := cell_later hSw q3; clear hSw; go_simp; try with_reducible rfl)
        case' rest112yx4 => (try simp only [Act.put, List.setIfInBounds_toArray, List.set_cons_zero, List.set_cons_succ])
        refine wpAnyH_take (i := 5) (oi := { dst := some 17, op := Op.binOp BinOp.gtr 3 (Operand.tmp 16) (Operand.const (Value.int IntKind.i64 0)) 3, type := 4, pos := "l7_tree.go:7", after := #[{ on := 4, ground := Ground.data }, { on := 3, ground := Ground.guard }], guard := some (3, false) }) (v := ?v113yx5) rfl (by kernel_rfl) (by kernel_rfl) (by kernel_rfl) (fun _ _ _ h => h) (Or.inl ⟨by rfl, ?hy113yx5⟩) (by with_reducible assumption) ?rest113yx5
        case hy113yx5 => (intro wS hSw; (try dsimp only at hSw); have z0 := cell_later hSw k0; have z1 := cell_later hSw k1; have z2 := cell_later hSw q2; have z3 := cell_later hSw q3; clear hSw; go_simp; try with_reducible rfl)
        case' rest113yx5 => (try simp only [Act.put, List.setIfInBounds_toArray, List.set_cons_zero, List.set_cons_succ])
        refine wpAnyH_take (i := 6) (oi := { dst := some 18, op := Op.move (Operand.tmp 17), type := 4, pos := "l7_tree.go:7", after := #[{ on := 5, ground := Ground.data }, { on := 3, ground := Ground.chain }, { on := 3, ground := Ground.guard }], guard := some (3, false) }) (v := ?v114yx6) rfl (by kernel_rfl) (by kernel_rfl) (by kernel_rfl) (fun _ _ _ h => h) (Or.inl ⟨by rfl, ?hy114yx6⟩) (by with_reducible assumption) ?rest114yx6
        case hy114yx6 => (intro wS hSw; (try dsimp only at hSw); have z0 := cell_later hSw k0; have z1 := cell_later hSw k1; have z2 := cell_later hSw q2; have z3 := cell_later hSw q3; clear hSw; go_simp; try with_reducible rfl)
        case' rest114yx6 => (try simp only [Act.put, List.setIfInBounds_toArray, List.set_cons_zero, List.set_cons_succ])
        refine wpAnyH_take (i := 7) (oi := { dst := some 19, op := Op.move (Operand.tmp 0), type := 24, pos := "l7_tree.go:7", after := #[{ on := 6, ground := Ground.guard }], guard := some (6, true) }) (v := ?v115yx7) rfl (by kernel_rfl) (by kernel_rfl) (by kernel_rfl) (fun _ _ _ h => h) (Or.inl ⟨by rfl, ?hy115yx7⟩) (by with_reducible assumption) ?rest115yx7
        case hy115yx7 => (intro wS hSw; (try dsimp only at hSw); have z0 := cell_later hSw k0; have z1 := cell_later hSw k1; have z2 := cell_later hSw q2; have z3 := cell_later hSw q3; clear hSw; go_simp; try with_reducible rfl)
        case' rest115yx7 => (try simp only [Act.put, List.setIfInBounds_toArray, List.set_cons_zero, List.set_cons_succ])
        refine wpAnyH_take (i := 8) (oi := { dst := some 20, op := Op.move (Operand.tmp 3), type := 3, pos := "l7_tree.go:7", after := #[{ on := 6, ground := Ground.guard }], guard := some (6, true) }) (v := ?v116yx8) rfl (by kernel_rfl) (by kernel_rfl) (by kernel_rfl) (fun _ _ _ h => h) (Or.inl ⟨by rfl, ?hy116yx8⟩) (by with_reducible assumption) ?rest116yx8
        case hy116yx8 => (intro wS hSw; (try dsimp only at hSw); have z0 := cell_later hSw k0; have z1 := cell_later hSw k1; have z2 := cell_later hSw q2; have z3 := cell_later hSw q3; clear hSw; go_simp; try with_reducible rfl)
        case' rest116yx8 => (try simp only [Act.put, List.setIfInBounds_toArray, List.set_cons_zero, List.set_cons_succ])
        refine wpAnyH_take (i := 9) (oi := { dst := some 21, op := Op.binOp BinOp.sub 3 (Operand.tmp 20) (Operand.const (Value.int IntKind.i64 1)) 3, type := 3, pos := "l7_tree.go:7", after := #[{ on := 8, ground := Ground.data }, { on := 6, ground := Ground.guard }], guard := some (6, true) }) (v := ?v117yx9) rfl (by kernel_rfl) (by kernel_rfl) (by kernel_rfl) (fun _ _ _ h => h) (Or.inl ⟨by rfl, ?hy117yx9⟩) (by with_reducible assumption) ?rest117yx9
        case hy117yx9 => (intro wS hSw; (try dsimp only at hSw); have z0 := cell_later hSw k0; have z1 := cell_later hSw k1; have z2 := cell_later hSw q2; have z3 := cell_later hSw q3; clear hSw; go_simp; try with_reducible rfl)
        case' rest117yx9 => (try simp only [Act.put, List.setIfInBounds_toArray, List.set_cons_zero, List.set_cons_succ])
        refine wpAnyH_take (i := 10) (oi := { dst := some 22, op := Op.indexAddr 24 (Operand.tmp 19) (Operand.tmp 21), type := 0, pos := "l7_tree.go:7", after := #[{ on := 7, ground := Ground.data }, { on := 9, ground := Ground.data }, { on := 6, ground := Ground.guard }], guard := some (6, true) }) (v := ?v118yx10) rfl (by kernel_rfl) (by kernel_rfl) (by kernel_rfl) (fun _ _ _ h => h) (Or.inl ⟨by rfl, ?hy118yx10⟩) (by with_reducible assumption) ?rest118yx10
        case hy118yx10 => (intro wS hSw; (try dsimp only at hSw); have z0 := cell_later hSw k0; have z1 := cell_later hSw k1; have z2 := cell_later hSw q2; have z3 := cell_later hSw q3; clear hSw; go_simp; try with_reducible rfl)
        case' rest118yx10 => (try simp only [Act.put, List.setIfInBounds_toArray, List.set_cons_zero, List.set_cons_succ])
        refine wpAnyH_take (i := 11) (oi := { dst := some 23, op := Op.load 44 (Operand.tmp 22), type := 44, pos := "l7_tree.go:7", after := #[{ on := 10, ground := Ground.data }, { on := 6, ground := Ground.guard }], guard := some (6, true) }) (v := ?v119yx11) rfl (by kernel_rfl) (by kernel_rfl) (by kernel_rfl) (fun _ _ _ h => h) (Or.inl ⟨by rfl, ?hy119yx11⟩) (by with_reducible assumption) ?rest119yx11
        case hy119yx11 => (intro wS hSw; (try dsimp only at hSw); have z0 := cell_later hSw k0; have z1 := cell_later hSw k1; have z2 := cell_later hSw q2; have z3 := cell_later hSw q3; clear hSw; go_simp; try with_reducible rfl)
        case' rest119yx11 => (try simp only [Act.put, List.setIfInBounds_toArray, List.set_cons_zero, List.set_cons_succ])
        refine wpAnyH_take (i := 12) (oi := { dst := some 24, op := Op.load 44 (Operand.tmp 4), type := 44, pos := "l7_tree.go:7", after := #[{ on := 6, ground := Ground.guard }], guard := some (6, true) }) (v := ?v120yx12) rfl (by kernel_rfl) (by kernel_rfl) (by kernel_rfl) (fun _ _ _ h => h) (Or.inl ⟨by rfl, ?hy120yx12⟩) (by with_reducible assumption) ?rest120yx12
        case hy120yx12 => (intro wS hSw; (try dsimp only at hSw); have z0 := cell_later hSw k0; have z1 := cell_later hSw k1; have z2 := cell_later hSw q2; have z3 := cell_later hSw q3; clear hSw; go_simp; try with_reducible rfl)
        case' rest120yx12 => (try simp only [Act.put, List.setIfInBounds_toArray, List.set_cons_zero, List.set_cons_succ])
        refine wpAnyH_ready (rs := [13]) (by kernel_rfl) (by simp) ?_
        refine AllReadyH.cons (o := { dst := some 25, op := Op.call { callee := Callee.value (Operand.func 42), args := #[Operand.tmp 23, Operand.tmp 24], argTypes := #[44, 44] }, type := 4, pos := "l7_tree.go:7", after := #[{ on := 11, ground := Ground.data }, { on := 12, ground := Ground.data }, { on := 6, ground := Ground.chain }, { on := 6, ground := Ground.guard }], guard := some (6, true) }) rfl (fun K hK => ?_) AllReadyH.nil
        go_simp
        refine (lessSpec_c _ _ _ _ _).mono ?_
        rw [hle]
        rintro e w3 ⟨rfl, hb2⟩
        go_wp2_with fail
        refine hK.out _ _ ?_ (fun hHeld => ?_)
        · exact grew (by with_reducible assumption) hb2
        clear hK K
        try simp only [Act.put, List.setIfInBounds_toArray, List.set_cons_zero, List.set_cons_succ]
        refine wpAnyH_take (i := 14) (oi := { dst := some 26, op := Op.unOp UnOp.not 4 (Operand.tmp 25), type := 4, pos := "l7_tree.go:7", after := #[{ on := 13, ground := Ground.data }, { on := 6, ground := Ground.guard }], guard := some (6, true) }) (v := ?v121yx14) rfl (by kernel_rfl) (by kernel_rfl) (by kernel_rfl) (fun _ _ _ h => h) (Or.inl ⟨by rfl, ?hy121yx14⟩) (by with_reducible assumption) ?rest121yx14
        case hy121yx14 => (intro wS hSw; (try dsimp only at hSw); have z0 := cell_later hSw k0; have z1 := cell_later hSw k1; have z2 := cell_later hSw q2; have z3 := cell_later hSw q3; clear hSw; go_simp; try with_reducible rfl)
        case' rest121yx14 => (try simp only [Act.put, List.setIfInBounds_toArray, List.set_cons_zero, List.set_cons_succ])
        refine wpAnyH_take (i := 15) (oi := { dst := some 27, op := Op.pick (Operand.tmp 18) (Operand.tmp 26) (Operand.const (Value.bool false)), type := 4, pos := "l7_tree.go:7", after := #[{ on := 6, ground := Ground.data }, { on := 14, ground := Ground.data }, { on := 3, ground := Ground.guard }], guard := some (3, false) }) (v := ?v122yx15) rfl (by kernel_rfl) (by kernel_rfl) (by kernel_rfl) (fun _ _ _ h => h) (Or.inl ⟨by rfl, ?hy122yx15⟩) (by with_reducible assumption) ?rest122yx15
        case hy122yx15 => (intro wS hSw; (try dsimp only at hSw); have z0 := cell_later hSw k0; have z1 := cell_later hSw k1; have z2 := cell_later hSw q2; have z3 := cell_later hSw q3; clear hSw; go_simp; try with_reducible rfl)
        case' rest122yx15 => (try simp only [Act.put, List.setIfInBounds_toArray, List.set_cons_zero, List.set_cons_succ])
        refine wpAnyH_take (i := 16) (oi := { dst := some 28, op := Op.pick (Operand.tmp 15) (Operand.const (Value.bool true)) (Operand.tmp 27), type := 4, pos := "l7_tree.go:7", after := #[{ on := 3, ground := Ground.data }, { on := 15, ground := Ground.data }], guard := none }) (v := ?v123yx16) rfl (by kernel_rfl) (by kernel_rfl) (by kernel_rfl) (fun _ _ _ h => h) (Or.inl ⟨by rfl, ?hy123yx16⟩) (by with_reducible assumption) ?rest123yx16
        case hy123yx16 => (intro wS hSw; (try dsimp only at hSw); have z0 := cell_later hSw k0; have z1 := cell_later hSw k1; have z2 := cell_later hSw q2; have z3 := cell_later hSw q3; clear hSw; go_simp; try with_reducible rfl)
        case' rest123yx16 => (try simp only [Act.put, List.setIfInBounds_toArray, List.set_cons_zero, List.set_cons_succ])
        refine wpAnyH_take (i := 17) (oi := { dst := some 29, op := Op.move (Operand.tmp 28), type := 4, pos := "l7_tree.go:7", after := #[{ on := 16, ground := Ground.data }, { on := 13, ground := Ground.chain }], guard := none }) (v := ?v124yx17) rfl (by kernel_rfl) (by kernel_rfl) (by kernel_rfl) (fun _ _ _ h => h) (Or.inl ⟨by rfl, ?hy124yx17⟩) (by with_reducible assumption) ?rest124yx17
        case hy124yx17 => (intro wS hSw; (try dsimp only at hSw); have z0 := cell_later hSw k0; have z1 := cell_later hSw k1; have z2 := cell_later hSw q2; have z3 := cell_later hSw q3; clear hSw; go_simp; try with_reducible rfl)
        case' rest124yx17 => (try simp only [Act.put, List.setIfInBounds_toArray, List.set_cons_zero, List.set_cons_succ])
        refine wpAnyH_take (i := 18) (oi := { dst := some 30, op := Op.move (Operand.tmp 3), type := 3, pos := "l7_tree.go:7", after := #[{ on := 17, ground := Ground.guard }], guard := some (17, false) }) (v := ?v125yx18) rfl (by kernel_rfl) (by kernel_rfl) (by kernel_rfl) (fun _ _ _ h => h) (Or.inl ⟨by rfl, ?hy125yx18⟩) (by with_reducible assumption) ?rest125yx18
        case hy125yx18 => (intro wS hSw; (try dsimp only at hSw); have z0 := cell_later hSw k0; have z1 := cell_later hSw k1; have z2 := cell_later hSw q2; have z3 := cell_later hSw q3; clear hSw; go_simp; try with_reducible rfl)
        case' rest125yx18 => (try simp only [Act.put, List.setIfInBounds_toArray, List.set_cons_zero, List.set_cons_succ])
        refine wpAnyH_take (i := 19) (oi := { dst := some 31, op := Op.binOp BinOp.gtr 3 (Operand.tmp 30) (Operand.const (Value.int IntKind.i64 1)) 3, type := 4, pos := "l7_tree.go:7", after := #[{ on := 18, ground := Ground.data }, { on := 17, ground := Ground.guard }], guard := some (17, false) }) (v := ?v126yx19) rfl (by kernel_rfl) (by kernel_rfl) (by kernel_rfl) (fun _ _ _ h => h) (Or.inl ⟨by rfl, ?hy126yx19⟩) (by with_reducible assumption) ?rest126yx19
        case hy126yx19 => (intro wS hSw; (try dsimp only at hSw); have z0 := cell_later hSw k0; have z1 := cell_later hSw k1; have z2 := cell_later hSw q2; have z3 := cell_later hSw q3; clear hSw; go_simp; try with_reducible rfl)
        case' rest126yx19 => (try simp only [Act.put, List.setIfInBounds_toArray, List.set_cons_zero, List.set_cons_succ])
        refine wpAnyH_take (i := 20) (oi := { dst := some 32, op := Op.move (Operand.tmp 31), type := 4, pos := "l7_tree.go:7", after := #[{ on := 19, ground := Ground.data }, { on := 17, ground := Ground.chain }, { on := 17, ground := Ground.guard }], guard := some (17, false) }) (v := ?v127yx20) rfl (by kernel_rfl) (by kernel_rfl) (by kernel_rfl) (fun _ _ _ h => h) (Or.inl ⟨by rfl, ?hy127yx20⟩) (by with_reducible assumption) ?rest127yx20
        case hy127yx20 => (intro wS hSw; (try dsimp only at hSw); have z0 := cell_later hSw k0; have z1 := cell_later hSw k1; have z2 := cell_later hSw q2; have z3 := cell_later hSw q3; clear hSw; go_simp; try with_reducible rfl)
        case' rest127yx20 => (try simp only [Act.put, List.setIfInBounds_toArray, List.set_cons_zero, List.set_cons_succ])
        refine wpAnyH_take (i := 21) (oi := { dst := some 33, op := Op.move (Operand.tmp 0), type := 24, pos := "l7_tree.go:7", after := #[{ on := 20, ground := Ground.guard }], guard := some (20, true) }) (v := undef) rfl (by kernel_rfl) (by kernel_rfl) (by kernel_rfl) (fun _ _ _ h => h) (Or.inr ⟨by rfl, rfl⟩) (by with_reducible assumption) ?rest128sx21
        case' rest128sx21 => (try simp only [Act.put, List.setIfInBounds_toArray, List.set_cons_zero, List.set_cons_succ])
        refine wpAnyH_take (i := 22) (oi := { dst := some 34, op := Op.move (Operand.tmp 3), type := 3, pos := "l7_tree.go:7", after := #[{ on := 20, ground := Ground.guard }], guard := some (20, true) }) (v := undef) rfl (by kernel_rfl) (by kernel_rfl) (by kernel_rfl) (fun _ _ _ h => h) (Or.inr ⟨by rfl, rfl⟩) (by with_reducible assumption) ?rest129sx22
        case' rest129sx22 => (try simp only [Act.put, List.setIfInBounds_toArray, List.set_cons_zero, List.set_cons_succ])
        refine wpAnyH_take (i := 23) (oi := { dst := some 35, op := Op.binOp BinOp.sub 3 (Operand.tmp 34) (Operand.const (Value.int IntKind.i64 2)) 3, type := 3, pos := "l7_tree.go:7", after := #[{ on := 22, ground := Ground.data }, { on := 20, ground := Ground.guard }], guard := some (20, true) }) (v := undef) rfl (by kernel_rfl) (by kernel_rfl) (by kernel_rfl) (fun _ _ _ h => h) (Or.inr ⟨by rfl, rfl⟩) (by with_reducible assumption) ?rest130sx23
        case' rest130sx23 => (try simp only [Act.put, List.setIfInBounds_toArray, List.set_cons_zero, List.set_cons_succ])
        refine wpAnyH_take (i := 24) (oi := { dst := some 36, op := Op.indexAddr 24 (Operand.tmp 33) (Operand.tmp 35), type := 0, pos := "l7_tree.go:7", after := #[{ on := 21, ground := Ground.data }, { on := 23, ground := Ground.data }, { on := 20, ground := Ground.guard }], guard := some (20, true) }) (v := undef) rfl (by kernel_rfl) (by kernel_rfl) (by kernel_rfl) (fun _ _ _ h => h) (Or.inr ⟨by rfl, rfl⟩) (by with_reducible assumption) ?rest131sx24
        case' rest131sx24 => (try simp only [Act.put, List.setIfInBounds_toArray, List.set_cons_zero, List.set_cons_succ])
        refine wpAnyH_take (i := 25) (oi := { dst := some 37, op := Op.load 44 (Operand.tmp 36), type := 44, pos := "l7_tree.go:7", after := #[{ on := 24, ground := Ground.data }, { on := 20, ground := Ground.guard }], guard := some (20, true) }) (v := undef) rfl (by kernel_rfl) (by kernel_rfl) (by kernel_rfl) (fun _ _ _ h => h) (Or.inr ⟨by rfl, rfl⟩) (by with_reducible assumption) ?rest132sx25
        case' rest132sx25 => (try simp only [Act.put, List.setIfInBounds_toArray, List.set_cons_zero, List.set_cons_succ])
        refine wpAnyH_take (i := 26) (oi := { dst := some 38, op := Op.move (Operand.tmp 0), type := 24, pos := "l7_tree.go:7", after := #[{ on := 20, ground := Ground.guard }], guard := some (20, true) }) (v := undef) rfl (by kernel_rfl) (by kernel_rfl) (by kernel_rfl) (fun _ _ _ h => h) (Or.inr ⟨by rfl, rfl⟩) (by with_reducible assumption) ?rest133sx26
        case' rest133sx26 => (try simp only [Act.put, List.setIfInBounds_toArray, List.set_cons_zero, List.set_cons_succ])
        refine wpAnyH_take (i := 27) (oi := { dst := some 39, op := Op.move (Operand.tmp 3), type := 3, pos := "l7_tree.go:7", after := #[{ on := 20, ground := Ground.guard }], guard := some (20, true) }) (v := undef) rfl (by kernel_rfl) (by kernel_rfl) (by kernel_rfl) (fun _ _ _ h => h) (Or.inr ⟨by rfl, rfl⟩) (by with_reducible assumption) ?rest134sx27
        case' rest134sx27 => (try simp only [Act.put, List.setIfInBounds_toArray, List.set_cons_zero, List.set_cons_succ])
        refine wpAnyH_take (i := 28) (oi := { dst := some 40, op := Op.binOp BinOp.sub 3 (Operand.tmp 39) (Operand.const (Value.int IntKind.i64 1)) 3, type := 3, pos := "l7_tree.go:7", after := #[{ on := 27, ground := Ground.data }, { on := 20, ground := Ground.guard }], guard := some (20, true) }) (v := undef) rfl (by kernel_rfl) (by kernel_rfl) (by kernel_rfl) (fun _ _ _ h => h) (Or.inr ⟨by rfl, rfl⟩) (by with_reducible assumption) ?rest135sx28
        case' rest135sx28 => (try simp only [Act.put, List.setIfInBounds_toArray, List.set_cons_zero, List.set_cons_succ])
        refine wpAnyH_take (i := 29) (oi := { dst := some 41, op := Op.indexAddr 24 (Operand.tmp 38) (Operand.tmp 40), type := 0, pos := "l7_tree.go:7", after := #[{ on := 26, ground := Ground.data }, { on := 28, ground := Ground.data }, { on := 20, ground := Ground.guard }], guard := some (20, true) }) (v := undef) rfl (by kernel_rfl) (by kernel_rfl) (by kernel_rfl) (fun _ _ _ h => h) (Or.inr ⟨by rfl, rfl⟩) (by with_reducible assumption) ?rest136sx29
        case' rest136sx29 => (try simp only [Act.put, List.setIfInBounds_toArray, List.set_cons_zero, List.set_cons_succ])
        refine wpAnyH_take (i := 30) (oi := { dst := some 42, op := Op.load 44 (Operand.tmp 41), type := 44, pos := "l7_tree.go:7", after := #[{ on := 29, ground := Ground.data }, { on := 20, ground := Ground.guard }], guard := some (20, true) }) (v := undef) rfl (by kernel_rfl) (by kernel_rfl) (by kernel_rfl) (fun _ _ _ h => h) (Or.inr ⟨by rfl, rfl⟩) (by with_reducible assumption) ?rest137sx30
        case' rest137sx30 => (try simp only [Act.put, List.setIfInBounds_toArray, List.set_cons_zero, List.set_cons_succ])
        refine wpAnyH_take (i := 31) (oi := { dst := some 43, op := Op.load 44 (Operand.tmp 4), type := 44, pos := "l7_tree.go:7", after := #[{ on := 20, ground := Ground.guard }], guard := some (20, true) }) (v := undef) rfl (by kernel_rfl) (by kernel_rfl) (by kernel_rfl) (fun _ _ _ h => h) (Or.inr ⟨by rfl, rfl⟩) (by with_reducible assumption) ?rest138sx31
        case' rest138sx31 => (try simp only [Act.put, List.setIfInBounds_toArray, List.set_cons_zero, List.set_cons_succ])
        refine wpAnyH_take (i := 32) (oi := { dst := some 44, op := Op.call { callee := Callee.value (Operand.func 59), args := #[Operand.tmp 37, Operand.tmp 42, Operand.tmp 43], argTypes := #[44, 44, 44] }, type := 3, pos := "l7_tree.go:7", after := #[{ on := 25, ground := Ground.data }, { on := 30, ground := Ground.data }, { on := 31, ground := Ground.data }, { on := 20, ground := Ground.chain }, { on := 20, ground := Ground.guard }], guard := some (20, true) }) (v := undef) rfl (by kernel_rfl) (by kernel_rfl) (by kernel_rfl) (fun _ _ _ h => h) (Or.inr ⟨by rfl, rfl⟩) (by with_reducible assumption) ?rest139sx32
        case' rest139sx32 => (try simp only [Act.put, List.setIfInBounds_toArray, List.set_cons_zero, List.set_cons_succ])
        refine wpAnyH_take (i := 33) (oi := { dst := some 45, op := Op.binOp BinOp.leq 3 (Operand.tmp 44) (Operand.const (Value.int IntKind.i64 0)) 3, type := 4, pos := "l7_tree.go:7", after := #[{ on := 32, ground := Ground.data }, { on := 20, ground := Ground.guard }], guard := some (20, true) }) (v := undef) rfl (by kernel_rfl) (by kernel_rfl) (by kernel_rfl) (fun _ _ _ h => h) (Or.inr ⟨by rfl, rfl⟩) (by with_reducible assumption) ?rest140sx33
        case' rest140sx33 => (try simp only [Act.put, List.setIfInBounds_toArray, List.set_cons_zero, List.set_cons_succ])
        refine wpAnyH_take (i := 34) (oi := { dst := some 46, op := Op.pick (Operand.tmp 32) (Operand.tmp 45) (Operand.const (Value.bool false)), type := 4, pos := "l7_tree.go:7", after := #[{ on := 20, ground := Ground.data }, { on := 33, ground := Ground.data }, { on := 17, ground := Ground.guard }], guard := some (17, false) }) (v := ?v141yx34) rfl (by kernel_rfl) (by kernel_rfl) (by kernel_rfl) (fun _ _ _ h => h) (Or.inl ⟨by rfl, ?hy141yx34⟩) (by with_reducible assumption) ?rest141yx34
        case hy141yx34 => (intro wS hSw; (try dsimp only at hSw); have z0 := cell_later hSw k0; have z1 := cell_later hSw k1; have z2 := cell_later hSw q2; have z3 := cell_later hSw q3; clear hSw; go_simp; try with_reducible rfl)
        case' rest141yx34 => (try simp only [Act.put, List.setIfInBounds_toArray, List.set_cons_zero, List.set_cons_succ])
        refine wpAnyH_take (i := 35) (oi := { dst := some 47, op := Op.pick (Operand.tmp 29) (Operand.const (Value.bool true)) (Operand.tmp 46), type := 4, pos := "l7_tree.go:7", after := #[{ on := 17, ground := Ground.data }, { on := 34, ground := Ground.data }], guard := none }) (v := ?v142yx35) rfl (by kernel_rfl) (by kernel_rfl) (by kernel_rfl) (fun _ _ _ h => h) (Or.inl ⟨by rfl, ?hy142yx35⟩) (by with_reducible assumption) ?rest142yx35
        case hy142yx35 => (intro wS hSw; (try dsimp only at hSw); have z0 := cell_later hSw k0; have z1 := cell_later hSw k1; have z2 := cell_later hSw q2; have z3 := cell_later hSw q3; clear hSw; go_simp; try with_reducible rfl)
        case' rest142yx35 => (try simp only [Act.put, List.setIfInBounds_toArray, List.set_cons_zero, List.set_cons_succ])
        refine wpAnyH_done (by kernel_rfl) ?_ _
        replace hbx := grew hbx (by with_reducible assumption)
        go_wp2
        go_roundw
        case rel => exact ⟨K + 1, by have := HK.out; omega, by first | rfl | go_num, by rw [← HK.out]; exact HCS.out, by rw [← HK.out]; exact HRS.out, fun i hi => absurd hi (by have := HK.out; omega), hbx⟩
        case measure => simp [intOf]; have := HK.out; omega
      obtain ⟨n, rfl⟩ : ∃ n, m = n + 1 := ⟨m - 1, by omega⟩
      obtain ⟨b2, off2, e2, _, g4, g5⟩ := HA.out n (by omega)
      obtain ⟨rfl, rfl⟩ : b = b2 ∧ off = off2 := by simpa using e2
      have q4 := cell_later hbw g4
      have q5 := cell_later hbw g5
      obtain ⟨x2, hx2⟩ : ∃ x, px l n = x := ⟨_, rfl⟩
      obtain ⟨y2, hy2⟩ : ∃ y, py l n = y := ⟨_, rfl⟩
      rw [hx2] at q4
      rw [hy2] at q5
      have hsl : slB (pt l n) (pt l (n + 1)) (pt l (n + 2)) = !decide (sg (crossW x2 y2 x1 y1 x y) ≤ 0) := by
        show (!decide (sg (crossW (px l n) (py l n) (px l (n + 1)) (py l (n + 1)) (px l (n + 1 + 1)) (py l (n + 1 + 1))) ≤ 0)) = _
        simp only [hx2, hy2, hx1, hy1, hx, hy]
      have HSL := hid hsl
      clear g4 g5 e2 hsl
      obtain ⟨M, hM⟩ : ∃ M, n + 1 = M := ⟨_, rfl⟩
      have HM := hid hM
      rw [hM] at q2 q3 hw1 nm nm1
      have hw2 : IntKind.i64.wrap ((K : Int) - 2) = (n : Int) := by rw [IntKind.wrap_i64]; omega
      have pK2 : (1 : Int) < (K : Int) := by omega
      have pK2n : 1 < K := by omega
      have nn : (0 : Int) ≤ (n : Int) := by omega
      have nn1 : (n : Int) < (l.length : Int) := by omega
      by_cases hs : sg (crossW x2 y2 x1 y1 x y) ≤ 0
      · have E := hid (chI_turnless (l := l) (k := n) hkl HCS.out (by rw [HSL.out, decide_eq_true hs]; rfl))
        clear hx hy hx1 hy1 hx2 hy2 hK hM
        go_upto_region 4 with fail
        have hb8 : Below wr.heap.size wr (wr.alloc (.cells #[.int .i64 x, .int .i64 y] 44)) := by go_grown
        have k0 := box0 wr x y 44
        have k1 := box1 wr x y 44
        have hbx := grew hbw hb8
        replace q0 := cell_later hb8 q0
        replace q1 := cell_later hb8 q1
        replace q2 := cell_later hb8 q2
        replace q3 := cell_later hb8 q3
        replace q4 := cell_later hb8 q4
        replace q5 := cell_later hb8 q5
        clear hb8 hbw
        generalize wr.alloc (.cells #[.int .i64 x, .int .i64 y] 44) = wp at *
        generalize wr.heap.size = B8 at *
        refine wp_region_held_drew (S := (fun u => Below wp.heap.size wp u)) (by kernel_rfl) ?_ (fun hHeld => ?_)
        · exact (Below.refl _ _).drew
        refine wpAnyH_take (i := 0) (oi := { dst := some 12, op := Op.load 44 (Operand.tmp 4), type := 44, pos := "l7_tree.go:7", after := #[], guard := none }) (v := ?v144yx0) rfl (by kernel_rfl) (by kernel_rfl) (by kernel_rfl) (fun _ _ _ h => h) (Or.inl ⟨by rfl, ?hy144yx0⟩) (by with_reducible assumption) ?rest144yx0
        case hy144yx0 => (intro wS hSw; (try dsimp only at hSw); have z0 := cell_later hSw k0; have z1 := cell_later hSw k1; have z2 := cell_later hSw q2; have z3 := cell_later hSw q3; have z4 := cell_later hSw q4; have z5 := cell_later hSw q5; clear hSw; go_simp; try with_reducible rfl)
        case' rest144yx0 => (try simp only [Act.put, List.setIfInBounds_toArray, List.set_cons_zero, List.set_cons_succ])
        refine wpAnyH_ready (rs := [1]) (by kernel_rfl) (by simp) ?_
        refine AllReadyH.cons (o := { dst := some 13, op := Op.call { callee := Callee.value (Operand.func 60), args := #[Operand.tmp 12], argTypes := #[44] }, type := 4, pos := "l7_tree.go:7", after := #[{ on := 0, ground := Ground.data }], guard := none }) rfl (fun K hK => ?_) AllReadyH.nil
        go_simp
        refine (goodSpec_e _ _ _).mono ?_
        rw [hg]
        rintro e w2 ⟨rfl, hb2⟩
        go_wp2_with fail
        refine hK.out _ _ ?_ (fun hHeld => ?_)
        · exact grew (by with_reducible assumption) hb2
        clear hK K
        try simp only [Act.put, List.setIfInBounds_toArray, List.set_cons_zero, List.set_cons_succ]
        refine wpAnyH_take (i := 2) (oi := { dst := some 14, op := Op.unOp UnOp.not 4 (Operand.tmp 13), type := 4, pos := "l7_tree.go:7", after := #[{ on := 1, ground := Ground.data }], guard := none }) (v := ?v145yx2) rfl (by kernel_rfl) (by kernel_rfl) (by kernel_rfl) (fun _ _ _ h => h) (Or.inl ⟨by rfl, ?hy145yx2⟩) (by with_reducible assumption) ?rest145yx2
        case hy145yx2 => (intro wS hSw; (try dsimp only at hSw); have z0 := cell_later hSw k0; have z1 := cell_later hSw k1; have z2 := cell_later hSw q2; have z3 := cell_later hSw q3; have z4 := cell_later hSw q4; have z5 := cell_later hSw q5; clear hSw; go_simp; try with_reducible rfl)
        case' rest145yx2 => (try simp only [Act.put, List.setIfInBounds_toArray, List.set_cons_zero, List.set_cons_succ])
        refine wpAnyH_take (i := 3) (oi := { dst := some 15, op := Op.move (Operand.tmp 14), type := 4, pos := "l7_tree.go:7", after := #[{ on := 2, ground := Ground.data }, { on := 1, ground := Ground.chain }], guard := none }) (v := ?v146yx3) rfl (by kernel_rfl) (by kernel_rfl) (by kernel_rfl) (fun _ _ _ h => h) (Or.inl ⟨by rfl, ?hy146yx3⟩) (by with_reducible assumption) ?rest146yx3
        case hy146yx3 => (intro wS hSw; (try dsimp only at hSw); have z0 := cell_later hSw k0; have z1 := cell_later hSw k1; have z2 := cell_later hSw q2; have z3 := cell_later hSw q3; have z4 := cell_later hSw q4; have z5 := cell_later hSw q5; clear hSw; go_simp; try with_reducible rfl)
        case' rest146yx3 => (try simp only [Act.put, List.setIfInBounds_toArray, List.set_cons_zero, List.set_cons_succ])
        refine wpAnyH_take (i := 4) (oi := { dst := some 16, op := Op.move (Operand.tmp 3), type := 3, pos := "l7_tree.go:7", after := #[{ on := 3, ground := Ground.guard }], guard := some (3, false) }) (v := ?v147yx4) rfl (by kernel_rfl) (by kernel_rfl) (by kernel_rfl) (fun _ _ _ h => h) (Or.inl ⟨by rfl, ?hy147yx4⟩) (by with_reducible assumption) ?rest147yx4
        case hy147yx4 => (intro wS hSw; (try dsimp only at hSw); have z0 := cell_later hSw k0; have z1 := cell_later hSw k1; have z2 := cell_later hSw q2; have z3 := cell_later hSw q3; have z4 := cell_later hSw q4; have z5 := cell_later hSw q5; clear hSw; go_simp; try with_reducible rfl)
        case' rest147yx4 => (try simp only [Act.put, List.setIfInBounds_toArray, List.set_cons_zero, List.set_cons_succ])
        refine wpAnyH_take (i := 5) (oi := { dst := some 17, op := Op.binOp BinOp.gtr 3 (Operand.tmp 16) (Operand.const (Value.int IntKind.i64 0)) 3, type := 4, pos := "l7_tree.go:7", after := #[{ on := 4, ground := Ground.data }, { on := 3, ground := Ground.guard }], guard := some (3, false) }) (v := ?v148yx5) rfl (by kernel_rfl) (by kernel_rfl) (by kernel_rfl) (fun _ _ _ h => h) (Or.inl ⟨by rfl, ?hy148yx5⟩) (by with_reducible assumption) ?rest148yx5
        case hy148yx5 => (intro wS hSw; (try dsimp only at hSw); have z0 := cell_later hSw k0; have z1 := cell_later hSw k1; have z2 := cell_later hSw q2; have z3 := cell_later hSw q3; have z4 := cell_later hSw q4; have z5 := cell_later hSw q5; clear hSw; go_simp; try with_reducible rfl)
        case' rest148yx5 => (try simp only [Act.put, List.setIfInBounds_toArray, List.set_cons_zero, List.set_cons_succ])
        refine wpAnyH_take (i := 6) (oi := { dst := some 18, op := Op.move (Operand.tmp 17), type := 4, pos := "l7_tree.go:7", after := #[{ on := 5, ground := Ground.data }, { on := 3, ground := Ground.chain }, { on := 3, ground := Ground.guard }], guard := some (3, false) }) (v := ?v149yx6) rfl (by kernel_rfl) (by kernel_rfl) (by kernel_rfl) (fun _ _ _ h => h) (Or.inl ⟨by rfl, ?hy149yx6⟩) (by with_reducible assumption) ?rest149yx6
        case hy149yx6 => (intro wS hSw; (try dsimp only at hSw); have z0 := cell_later hSw k0; have z1 := cell_later hSw k1; have z2 := cell_later hSw q2; have z3 := cell_later hSw q3; have z4 := cell_later hSw q4; have z5 := cell_later hSw q5; clear hSw; go_simp; try with_reducible rfl)
        case' rest149yx6 => (try simp only [Act.put, List.setIfInBounds_toArray, List.set_cons_zero, List.set_cons_succ])
        refine wpAnyH_take (i := 7) (oi := { dst := some 19, op := Op.move (Operand.tmp 0), type := 24, pos := "l7_tree.go:7", after := #[{ on := 6, ground := Ground.guard }], guard := some (6, true) }) (v := ?v150yx7) rfl (by kernel_rfl) (by kernel_rfl) (by kernel_rfl) (fun _ _ _ h => h) (Or.inl ⟨by rfl, ?hy150yx7⟩) (by with_reducible assumption) ?rest150yx7
        case hy150yx7 => (intro wS hSw; (try dsimp only at hSw); have z0 := cell_later hSw k0; have z1 := cell_later hSw k1; have z2 := cell_later hSw q2; have z3 := cell_later hSw q3; have z4 := cell_later hSw q4; have z5 := cell_later hSw q5; clear hSw; go_simp; try with_reducible rfl)
        case' rest150yx7 => (try simp only [Act.put, List.setIfInBounds_toArray, List.set_cons_zero, List.set_cons_succ])
        refine wpAnyH_take (i := 8) (oi := { dst := some 20, op := Op.move (Operand.tmp 3), type := 3, pos := "l7_tree.go:7", after := #[{ on := 6, ground := Ground.guard }], guard := some (6, true) }) (v := ?v151yx8) rfl (by kernel_rfl) (by kernel_rfl) (by kernel_rfl) (fun _ _ _ h => h) (Or.inl ⟨by rfl, ?hy151yx8⟩) (by with_reducible assumption) ?rest151yx8
        case hy151yx8 => (intro wS hSw; (try dsimp only at hSw); have z0 := cell_later hSw k0; have z1 := cell_later hSw k1; have z2 := cell_later hSw q2; have z3 := cell_later hSw q3; have z4 := cell_later hSw q4; have z5 := cell_later hSw q5; clear hSw; go_simp; try with_reducible rfl)
        case' rest151yx8 => (try simp only [Act.put, List.setIfInBounds_toArray, List.set_cons_zero, List.set_cons_succ])
        refine wpAnyH_take (i := 9) (oi := { dst := some 21, op := Op.binOp BinOp.sub 3 (Operand.tmp 20) (Operand.const (Value.int IntKind.i64 1)) 3, type := 3, pos := "l7_tree.go:7", after := #[{ on := 8, ground := Ground.data }, { on := 6, ground := Ground.guard }], guard := some (6, true) }) (v := ?v152yx9) rfl (by kernel_rfl) (by kernel_rfl) (by kernel_rfl) (fun _ _ _ h => h) (Or.inl ⟨by rfl, ?hy152yx9⟩) (by with_reducible assumption) ?rest152yx9
        case hy152yx9 => (intro wS hSw; (try dsimp only at hSw); have z0 := cell_later hSw k0; have z1 := cell_later hSw k1; have z2 := cell_later hSw q2; have z3 := cell_later hSw q3; have z4 := cell_later hSw q4; have z5 := cell_later hSw q5; clear hSw; go_simp; try with_reducible rfl)
        case' rest152yx9 => (try simp only [Act.put, List.setIfInBounds_toArray, List.set_cons_zero, List.set_cons_succ])
        refine wpAnyH_take (i := 10) (oi := { dst := some 22, op := Op.indexAddr 24 (Operand.tmp 19) (Operand.tmp 21), type := 0, pos := "l7_tree.go:7", after := #[{ on := 7, ground := Ground.data }, { on := 9, ground := Ground.data }, { on := 6, ground := Ground.guard }], guard := some (6, true) }) (v := ?v153yx10) rfl (by kernel_rfl) (by kernel_rfl) (by kernel_rfl) (fun _ _ _ h => h) (Or.inl ⟨by rfl, ?hy153yx10⟩) (by with_reducible assumption) ?rest153yx10
        case hy153yx10 => (intro wS hSw; (try dsimp only at hSw); have z0 := cell_later hSw k0; have z1 := cell_later hSw k1; have z2 := cell_later hSw q2; have z3 := cell_later hSw q3; have z4 := cell_later hSw q4; have z5 := cell_later hSw q5; clear hSw; go_simp; try with_reducible rfl)
        case' rest153yx10 => (try simp only [Act.put, List.setIfInBounds_toArray, List.set_cons_zero, List.set_cons_succ])
        refine wpAnyH_take (i := 11) (oi := { dst := some 23, op := Op.load 44 (Operand.tmp 22), type := 44, pos := "l7_tree.go:7", after := #[{ on := 10, ground := Ground.data }, { on := 6, ground := Ground.guard }], guard := some (6, true) }) (v := ?v154yx11) rfl (by kernel_rfl) (by kernel_rfl) (by kernel_rfl) (fun _ _ _ h => h) (Or.inl ⟨by rfl, ?hy154yx11⟩) (by with_reducible assumption) ?rest154yx11
        case hy154yx11 => (intro wS hSw; (try dsimp only at hSw); have z0 := cell_later hSw k0; have z1 := cell_later hSw k1; have z2 := cell_later hSw q2; have z3 := cell_later hSw q3; have z4 := cell_later hSw q4; have z5 := cell_later hSw q5; clear hSw; go_simp; try with_reducible rfl)
        case' rest154yx11 => (try simp only [Act.put, List.setIfInBounds_toArray, List.set_cons_zero, List.set_cons_succ])
        refine wpAnyH_take (i := 12) (oi := { dst := some 24, op := Op.load 44 (Operand.tmp 4), type := 44, pos := "l7_tree.go:7", after := #[{ on := 6, ground := Ground.guard }], guard := some (6, true) }) (v := ?v155yx12) rfl (by kernel_rfl) (by kernel_rfl) (by kernel_rfl) (fun _ _ _ h => h) (Or.inl ⟨by rfl, ?hy155yx12⟩) (by with_reducible assumption) ?rest155yx12
        case hy155yx12 => (intro wS hSw; (try dsimp only at hSw); have z0 := cell_later hSw k0; have z1 := cell_later hSw k1; have z2 := cell_later hSw q2; have z3 := cell_later hSw q3; have z4 := cell_later hSw q4; have z5 := cell_later hSw q5; clear hSw; go_simp; try with_reducible rfl)
        case' rest155yx12 => (try simp only [Act.put, List.setIfInBounds_toArray, List.set_cons_zero, List.set_cons_succ])
        refine wpAnyH_ready (rs := [13]) (by kernel_rfl) (by simp) ?_
        refine AllReadyH.cons (o := { dst := some 25, op := Op.call { callee := Callee.value (Operand.func 42), args := #[Operand.tmp 23, Operand.tmp 24], argTypes := #[44, 44] }, type := 4, pos := "l7_tree.go:7", after := #[{ on := 11, ground := Ground.data }, { on := 12, ground := Ground.data }, { on := 6, ground := Ground.chain }, { on := 6, ground := Ground.guard }], guard := some (6, true) }) rfl (fun K hK => ?_) AllReadyH.nil
        go_simp
        refine (lessSpec_c _ _ _ _ _).mono ?_
        rw [hle]
        rintro e w3 ⟨rfl, hb2⟩
        go_wp2_with fail
        refine hK.out _ _ ?_ (fun hHeld => ?_)
        · exact grew (by with_reducible assumption) hb2
        clear hK K
        try simp only [Act.put, List.setIfInBounds_toArray, List.set_cons_zero, List.set_cons_succ]
        refine wpAnyH_take (i := 14) (oi := { dst := some 26, op := Op.unOp UnOp.not 4 (Operand.tmp 25), type := 4, pos := "l7_tree.go:7", after := #[{ on := 13, ground := Ground.data }, { on := 6, ground := Ground.guard }], guard := some (6, true) }) (v := ?v156yx14) rfl (by kernel_rfl) (by kernel_rfl) (by kernel_rfl) (fun _ _ _ h => h) (Or.inl ⟨by rfl, ?hy156yx14⟩) (by with_reducible assumption) ?rest156yx14
        case hy156yx14 => (intro wS hSw; (try dsimp only at hSw); have z0 := cell_later hSw k0; have z1 := cell_later hSw k1; have z2 := cell_later hSw q2; have z3 := cell_later hSw q3; have z4 := cell_later hSw q4; have z5 := cell_later hSw q5; clear hSw; go_simp; try with_reducible rfl)
        case' rest156yx14 => (try simp only [Act.put, List.setIfInBounds_toArray, List.set_cons_zero, List.set_cons_succ])
        refine wpAnyH_take (i := 15) (oi := { dst := some 27, op := Op.pick (Operand.tmp 18) (Operand.tmp 26) (Operand.const (Value.bool false)), type := 4, pos := "l7_tree.go:7", after := #[{ on := 6, ground := Ground.data }, { on := 14, ground := Ground.data }, { on := 3, ground := Ground.guard }], guard := some (3, false) }) (v := ?v157yx15) rfl (by kernel_rfl) (by kernel_rfl) (by kernel_rfl) (fun _ _ _ h => h) (Or.inl ⟨by rfl, ?hy157yx15⟩) (by with_reducible assumption) ?rest157yx15
        case hy157yx15 => (intro wS hSw; (try dsimp only at hSw); have z0 := cell_later hSw k0; have z1 := cell_later hSw k1; have z2 := cell_later hSw q2; have z3 := cell_later hSw q3; have z4 := cell_later hSw q4; have z5 := cell_later hSw q5; clear hSw; go_simp; try with_reducible rfl)
        case' rest157yx15 => (try simp only [Act.put, List.setIfInBounds_toArray, List.set_cons_zero, List.set_cons_succ])
        refine wpAnyH_take (i := 16) (oi := { dst := some 28, op := Op.pick (Operand.tmp 15) (Operand.const (Value.bool true)) (Operand.tmp 27), type := 4, pos := "l7_tree.go:7", after := #[{ on := 3, ground := Ground.data }, { on := 15, ground := Ground.data }], guard := none }) (v := ?v158yx16) rfl (by kernel_rfl) (by kernel_rfl) (by kernel_rfl) (fun _ _ _ h => h) (Or.inl ⟨by rfl, ?hy158yx16⟩) (by with_reducible assumption) ?rest158yx16
        case hy158yx16 => (intro wS hSw; (try dsimp only at hSw); have z0 := cell_later hSw k0; have z1 := cell_later hSw k1; have z2 := cell_later hSw q2; have z3 := cell_later hSw q3; have z4 := cell_later hSw q4; have z5 := cell_later hSw q5; clear hSw; go_simp; try with_reducible rfl)
        case' rest158yx16 => (try simp only [Act.put, List.setIfInBounds_toArray, List.set_cons_zero, List.set_cons_succ])
        refine wpAnyH_take (i := 17) (oi := { dst := some 29, op := Op.move (Operand.tmp 28), type := 4, pos := "l7_tree.go:7", after := #[{ on := 16, ground := Ground.data }, { on := 13, ground := Ground.chain }], guard := none }) (v := ?v159yx17) rfl (by kernel_rfl) (by kernel_rfl) (by kernel_rfl) (fun _ _ _ h => h) (Or.inl ⟨by rfl, ?hy159yx17⟩) (by with_reducible assumption) ?rest159yx17
        case hy159yx17 => (intro wS hSw; (try dsimp only at hSw); have z0 := cell_later hSw k0; have z1 := cell_later hSw k1; have z2 := cell_later hSw q2; have z3 := cell_later hSw q3; have z4 := cell_later hSw q4; have z5 := cell_later hSw q5; clear hSw; go_simp; try with_reducible rfl)
        case' rest159yx17 => (try simp only [Act.put, List.setIfInBounds_toArray, List.set_cons_zero, List.set_cons_succ])
        refine wpAnyH_take (i := 18) (oi := { dst := some 30, op := Op.move (Operand.tmp 3), type := 3, pos := "l7_tree.go:7", after := #[{ on := 17, ground := Ground.guard }], guard := some (17, false) }) (v := ?v160yx18) rfl (by kernel_rfl) (by kernel_rfl) (by kernel_rfl) (fun _ _ _ h => h) (Or.inl ⟨by rfl, ?hy160yx18⟩) (by with_reducible assumption) ?rest160yx18
        case hy160yx18 => (intro wS hSw; (try dsimp only at hSw); have z0 := cell_later hSw k0; have z1 := cell_later hSw k1; have z2 := cell_later hSw q2; have z3 := cell_later hSw q3; have z4 := cell_later hSw q4; have z5 := cell_later hSw q5; clear hSw; go_simp; try with_reducible rfl)
        case' rest160yx18 => (try simp only [Act.put, List.setIfInBounds_toArray, List.set_cons_zero, List.set_cons_succ])
        refine wpAnyH_take (i := 19) (oi := { dst := some 31, op := Op.binOp BinOp.gtr 3 (Operand.tmp 30) (Operand.const (Value.int IntKind.i64 1)) 3, type := 4, pos := "l7_tree.go:7", after := #[{ on := 18, ground := Ground.data }, { on := 17, ground := Ground.guard }], guard := some (17, false) }) (v := ?v161yx19) rfl (by kernel_rfl) (by kernel_rfl) (by kernel_rfl) (fun _ _ _ h => h) (Or.inl ⟨by rfl, ?hy161yx19⟩) (by with_reducible assumption) ?rest161yx19
        case hy161yx19 => (intro wS hSw; (try dsimp only at hSw); have z0 := cell_later hSw k0; have z1 := cell_later hSw k1; have z2 := cell_later hSw q2; have z3 := cell_later hSw q3; have z4 := cell_later hSw q4; have z5 := cell_later hSw q5; clear hSw; go_simp; try with_reducible rfl)
        case' rest161yx19 => (try simp only [Act.put, List.setIfInBounds_toArray, List.set_cons_zero, List.set_cons_succ])
        refine wpAnyH_take (i := 20) (oi := { dst := some 32, op := Op.move (Operand.tmp 31), type := 4, pos := "l7_tree.go:7", after := #[{ on := 19, ground := Ground.data }, { on := 17, ground := Ground.chain }, { on := 17, ground := Ground.guard }], guard := some (17, false) }) (v := ?v162yx20) rfl (by kernel_rfl) (by kernel_rfl) (by kernel_rfl) (fun _ _ _ h => h) (Or.inl ⟨by rfl, ?hy162yx20⟩) (by with_reducible assumption) ?rest162yx20
        case hy162yx20 => (intro wS hSw; (try dsimp only at hSw); have z0 := cell_later hSw k0; have z1 := cell_later hSw k1; have z2 := cell_later hSw q2; have z3 := cell_later hSw q3; have z4 := cell_later hSw q4; have z5 := cell_later hSw q5; clear hSw; go_simp; try with_reducible rfl)
        case' rest162yx20 => (try simp only [Act.put, List.setIfInBounds_toArray, List.set_cons_zero, List.set_cons_succ])
        refine wpAnyH_take (i := 21) (oi := { dst := some 33, op := Op.move (Operand.tmp 0), type := 24, pos := "l7_tree.go:7", after := #[{ on := 20, ground := Ground.guard }], guard := some (20, true) }) (v := ?v163yx21) rfl (by kernel_rfl) (by kernel_rfl) (by kernel_rfl) (fun _ _ _ h => h) (Or.inl ⟨by rfl, ?hy163yx21⟩) (by with_reducible assumption) ?rest163yx21
        case hy163yx21 => (intro wS hSw; (try dsimp only at hSw); have z0 := cell_later hSw k0; have z1 := cell_later hSw k1; have z2 := cell_later hSw q2; have z3 := cell_later hSw q3; have z4 := cell_later hSw q4; have z5 := cell_later hSw q5; clear hSw; go_simp; try with_reducible rfl)
        case' rest163yx21 => (try simp only [Act.put, List.setIfInBounds_toArray, List.set_cons_zero, List.set_cons_succ])
        refine wpAnyH_take (i := 22) (oi := { dst := some 34, op := Op.move (Operand.tmp 3), type := 3, pos := "l7_tree.go:7", after := #[{ on := 20, ground := Ground.guard }], guard := some (20, true) }) (v := ?v164yx22) rfl (by kernel_rfl) (by kernel_rfl) (by kernel_rfl) (fun _ _ _ h => h) (Or.inl ⟨by rfl, ?hy164yx22⟩) (by with_reducible assumption) ?rest164yx22
        case hy164yx22 => (intro wS hSw; (try dsimp only at hSw); have z0 := cell_later hSw k0; have z1 := cell_later hSw k1; have z2 := cell_later hSw q2; have z3 := cell_later hSw q3; have z4 := cell_later hSw q4; have z5 := cell_later hSw q5; clear hSw; go_simp; try with_reducible rfl)
        case' rest164yx22 => (try simp only [Act.put, List.setIfInBounds_toArray, List.set_cons_zero, List.set_cons_succ])
        refine wpAnyH_take (i := 23) (oi := { dst := some 35, op := Op.binOp BinOp.sub 3 (Operand.tmp 34) (Operand.const (Value.int IntKind.i64 2)) 3, type := 3, pos := "l7_tree.go:7", after := #[{ on := 22, ground := Ground.data }, { on := 20, ground := Ground.guard }], guard := some (20, true) }) (v := ?v165yx23) rfl (by kernel_rfl) (by kernel_rfl) (by kernel_rfl) (fun _ _ _ h => h) (Or.inl ⟨by rfl, ?hy165yx23⟩) (by with_reducible assumption) ?rest165yx23
        case hy165yx23 => (intro wS hSw; (try dsimp only at hSw); have z0 := cell_later hSw k0; have z1 := cell_later hSw k1; have z2 := cell_later hSw q2; have z3 := cell_later hSw q3; have z4 := cell_later hSw q4; have z5 := cell_later hSw q5; clear hSw; go_simp; try with_reducible rfl)
        case' rest165yx23 => (try simp only [Act.put, List.setIfInBounds_toArray, List.set_cons_zero, List.set_cons_succ])
        refine wpAnyH_take (i := 24) (oi := { dst := some 36, op := Op.indexAddr 24 (Operand.tmp 33) (Operand.tmp 35), type := 0, pos := "l7_tree.go:7", after := #[{ on := 21, ground := Ground.data }, { on := 23, ground := Ground.data }, { on := 20, ground := Ground.guard }], guard := some (20, true) }) (v := ?v166yx24) rfl (by kernel_rfl) (by kernel_rfl) (by kernel_rfl) (fun _ _ _ h => h) (Or.inl ⟨by rfl, ?hy166yx24⟩) (by with_reducible assumption) ?rest166yx24
        case hy166yx24 => (intro wS hSw; (try dsimp only at hSw); have z0 := cell_later hSw k0; have z1 := cell_later hSw k1; have z2 := cell_later hSw q2; have z3 := cell_later hSw q3; have z4 := cell_later hSw q4; have z5 := cell_later hSw q5; clear hSw; go_simp; try with_reducible rfl)
        case' rest166yx24 => (try simp only [Act.put, List.setIfInBounds_toArray, List.set_cons_zero, List.set_cons_succ])
        refine wpAnyH_take (i := 25) (oi := { dst := some 37, op := Op.load 44 (Operand.tmp 36), type := 44, pos := "l7_tree.go:7", after := #[{ on := 24, ground := Ground.data }, { on := 20, ground := Ground.guard }], guard := some (20, true) }) (v := ?v167yx25) rfl (by kernel_rfl) (by kernel_rfl) (by kernel_rfl) (fun _ _ _ h => h) (Or.inl ⟨by rfl, ?hy167yx25⟩) (by with_reducible assumption) ?rest167yx25
        case hy167yx25 => (intro wS hSw; (try dsimp only at hSw); have z0 := cell_later hSw k0; have z1 := cell_later hSw k1; have z2 := cell_later hSw q2; have z3 := cell_later hSw q3; have z4 := cell_later hSw q4; have z5 := cell_later hSw q5; clear hSw; go_simp; try with_reducible rfl)
        case' rest167yx25 => (try simp only [Act.put, List.setIfInBounds_toArray, List.set_cons_zero, List.set_cons_succ])
        refine wpAnyH_take (i := 26) (oi := { dst := some 38, op := Op.move (Operand.tmp 0), type := 24, pos := "l7_tree.go:7", after := #[{ on := 20, ground := Ground.guard }], guard := some (20, true) }) (v := ?v168yx26) rfl (by kernel_rfl) (by kernel_rfl) (by kernel_rfl) (fun _ _ _ h => h) (Or.inl ⟨by rfl, ?hy168yx26⟩) (by with_reducible assumption) ?rest168yx26
        case hy168yx26 => (intro wS hSw; (try dsimp only at hSw); have z0 := cell_later hSw k0; have z1 := cell_later hSw k1; have z2 := cell_later hSw q2; have z3 := cell_later hSw q3; have z4 := cell_later hSw q4; have z5 := cell_later hSw q5; clear hSw; go_simp; try with_reducible rfl)
        case' rest168yx26 => (try simp only [Act.put, List.setIfInBounds_toArray, List.set_cons_zero, List.set_cons_succ])
        refine wpAnyH_take (i := 27) (oi := { dst := some 39, op := Op.move (Operand.tmp 3), type := 3, pos := "l7_tree.go:7", after := #[{ on := 20, ground := Ground.guard }], guard := some (20, true) }) (v := ?v169yx27) rfl (by kernel_rfl) (by kernel_rfl) (by kernel_rfl) (fun _ _ _ h => h) (Or.inl ⟨by rfl, ?hy169yx27⟩) (by with_reducible assumption) ?rest169yx27
        case hy169yx27 => (intro wS hSw; (try dsimp only at hSw); have z0 := cell_later hSw k0; have z1 := cell_later hSw k1; have z2 := cell_later hSw q2; have z3 := cell_later hSw q3; have z4 := cell_later hSw q4; have z5 := cell_later hSw q5; clear hSw; go_simp; try with_reducible rfl)
        case' rest169yx27 => (try simp only [Act.put, List.setIfInBounds_toArray, List.set_cons_zero, List.set_cons_succ])
        refine wpAnyH_take (i := 28) (oi := { dst := some 40, op := Op.binOp BinOp.sub 3 (Operand.tmp 39) (Operand.const (Value.int IntKind.i64 1)) 3, type := 3, pos := "l7_tree.go:7", after := #[{ on := 27, ground := Ground.data }, { on := 20, ground := Ground.guard }], guard := some (20, true) }) (v := ?v170yx28) rfl (by kernel_rfl) (by kernel_rfl) (by kernel_rfl) (fun _ _ _ h => h) (Or.inl ⟨by rfl, ?hy170yx28⟩) (by with_reducible assumption) ?rest170yx28
        case hy170yx28 => (intro wS hSw; (try dsimp only at hSw); have z0 := cell_later hSw k0; have z1 := cell_later hSw k1; have z2 := cell_later hSw q2; have z3 := cell_later hSw q3; have z4 := cell_later hSw q4; have z5 := cell_later hSw q5; clear hSw; go_simp; try with_reducible rfl)
        case' rest170yx28 => (try simp only [Act.put, List.setIfInBounds_toArray, List.set_cons_zero, List.set_cons_succ])
        refine wpAnyH_take (i := 29) (oi := { dst := some 41, op := Op.indexAddr 24 (Operand.tmp 38) (Operand.tmp 40), type := 0, pos := "l7_tree.go:7", after := #[{ on := 26, ground := Ground.data }, { on := 28, ground := Ground.data }, { on := 20, ground := Ground.guard }], guard := some (20, true) }) (v := ?v171yx29) rfl (by kernel_rfl) (by kernel_rfl) (by kernel_rfl) (fun _ _ _ h => h) (Or.inl ⟨by rfl, ?hy171yx29⟩) (by with_reducible assumption) ?rest171yx29
        case hy171yx29 => (intro wS hSw; (try dsimp only at hSw); have z0 := cell_later hSw k0; have z1 := cell_later hSw k1; have z2 := cell_later hSw q2; have z3 := cell_later hSw q3; have z4 := cell_later hSw q4; have z5 := cell_later hSw q5; clear hSw; go_simp; try with_reducible rfl)
        case' rest171yx29 => (try simp only [Act.put, List.setIfInBounds_toArray, List.set_cons_zero, List.set_cons_succ])
        refine wpAnyH_take (i := 30) (oi := { dst := some 42, op := Op.load 44 (Operand.tmp 41), type := 44, pos := "l7_tree.go:7", after := #[{ on := 29, ground := Ground.data }, { on := 20, ground := Ground.guard }], guard := some (20, true) }) (v := ?v172yx30) rfl (by kernel_rfl) (by kernel_rfl) (by kernel_rfl) (fun _ _ _ h => h) (Or.inl ⟨by rfl, ?hy172yx30⟩) (by with_reducible assumption) ?rest172yx30
        case hy172yx30 => (intro wS hSw; (try dsimp only at hSw); have z0 := cell_later hSw k0; have z1 := cell_later hSw k1; have z2 := cell_later hSw q2; have z3 := cell_later hSw q3; have z4 := cell_later hSw q4; have z5 := cell_later hSw q5; clear hSw; go_simp; try with_reducible rfl)
        case' rest172yx30 => (try simp only [Act.put, List.setIfInBounds_toArray, List.set_cons_zero, List.set_cons_succ])
        refine wpAnyH_take (i := 31) (oi := { dst := some 43, op := Op.load 44 (Operand.tmp 4), type := 44, pos := "l7_tree.go:7", after := #[{ on := 20, ground := Ground.guard }], guard := some (20, true) }) (v := ?v173yx31) rfl (by kernel_rfl) (by kernel_rfl) (by kernel_rfl) (fun _ _ _ h => h) (Or.inl ⟨by rfl, ?hy173yx31⟩) (by with_reducible assumption) ?rest173yx31
        case hy173yx31 => (intro wS hSw; (try dsimp only at hSw); have z0 := cell_later hSw k0; have z1 := cell_later hSw k1; have z2 := cell_later hSw q2; have z3 := cell_later hSw q3; have z4 := cell_later hSw q4; have z5 := cell_later hSw q5; clear hSw; go_simp; try with_reducible rfl)
        case' rest173yx31 => (try simp only [Act.put, List.setIfInBounds_toArray, List.set_cons_zero, List.set_cons_succ])
        refine wpAnyH_ready (rs := [32]) (by kernel_rfl) (by simp) ?_
        refine AllReadyH.cons (o := { dst := some 44, op := Op.call { callee := Callee.value (Operand.func 59), args := #[Operand.tmp 37, Operand.tmp 42, Operand.tmp 43], argTypes := #[44, 44, 44] }, type := 3, pos := "l7_tree.go:7", after := #[{ on := 25, ground := Ground.data }, { on := 30, ground := Ground.data }, { on := 31, ground := Ground.data }, { on := 20, ground := Ground.chain }, { on := 20, ground := Ground.guard }], guard := some (20, true) }) rfl (fun K hK => ?_) AllReadyH.nil
        go_simp
        refine (side_c _ _ _ _ _ _ _).mono ?_
        rintro e w4 ⟨rfl, hb2⟩
        go_wp2_with fail
        refine hK.out _ _ ?_ (fun hHeld => ?_)
        · exact grew (by with_reducible assumption) hb2
        clear hK K
        try simp only [Act.put, List.setIfInBounds_toArray, List.set_cons_zero, List.set_cons_succ]
        refine wpAnyH_take (i := 33) (oi := { dst := some 45, op := Op.binOp BinOp.leq 3 (Operand.tmp 44) (Operand.const (Value.int IntKind.i64 0)) 3, type := 4, pos := "l7_tree.go:7", after := #[{ on := 32, ground := Ground.data }, { on := 20, ground := Ground.guard }], guard := some (20, true) }) (v := ?v174yx33) rfl (by kernel_rfl) (by kernel_rfl) (by kernel_rfl) (fun _ _ _ h => h) (Or.inl ⟨by rfl, ?hy174yx33⟩) (by with_reducible assumption) ?rest174yx33
        case hy174yx33 => (intro wS hSw; (try dsimp only at hSw); have z0 := cell_later hSw k0; have z1 := cell_later hSw k1; have z2 := cell_later hSw q2; have z3 := cell_later hSw q3; have z4 := cell_later hSw q4; have z5 := cell_later hSw q5; clear hSw; go_simp; try with_reducible rfl)
        case' rest174yx33 => (try simp only [Act.put, List.setIfInBounds_toArray, List.set_cons_zero, List.set_cons_succ])
        refine wpAnyH_take (i := 34) (oi := { dst := some 46, op := Op.pick (Operand.tmp 32) (Operand.tmp 45) (Operand.const (Value.bool false)), type := 4, pos := "l7_tree.go:7", after := #[{ on := 20, ground := Ground.data }, { on := 33, ground := Ground.data }, { on := 17, ground := Ground.guard }], guard := some (17, false) }) (v := ?v175yx34) rfl (by kernel_rfl) (by kernel_rfl) (by kernel_rfl) (fun _ _ _ h => h) (Or.inl ⟨by rfl, ?hy175yx34⟩) (by with_reducible assumption) ?rest175yx34
        case hy175yx34 => (intro wS hSw; (try dsimp only at hSw); have z0 := cell_later hSw k0; have z1 := cell_later hSw k1; have z2 := cell_later hSw q2; have z3 := cell_later hSw q3; have z4 := cell_later hSw q4; have z5 := cell_later hSw q5; clear hSw; go_simp; try with_reducible rfl)
        case' rest175yx34 => (try simp only [Act.put, List.setIfInBounds_toArray, List.set_cons_zero, List.set_cons_succ])
        refine wpAnyH_take (i := 35) (oi := { dst := some 47, op := Op.pick (Operand.tmp 29) (Operand.const (Value.bool true)) (Operand.tmp 46), type := 4, pos := "l7_tree.go:7", after := #[{ on := 17, ground := Ground.data }, { on := 34, ground := Ground.data }], guard := none }) (v := ?v176yx35) rfl (by kernel_rfl) (by kernel_rfl) (by kernel_rfl) (fun _ _ _ h => h) (Or.inl ⟨by rfl, ?hy176yx35⟩) (by with_reducible assumption) ?rest176yx35
        case hy176yx35 => (intro wS hSw; (try dsimp only at hSw); have z0 := cell_later hSw k0; have z1 := cell_later hSw k1; have z2 := cell_later hSw q2; have z3 := cell_later hSw q3; have z4 := cell_later hSw q4; have z5 := cell_later hSw q5; clear hSw; go_simp; try with_reducible rfl)
        case' rest176yx35 => (try simp only [Act.put, List.setIfInBounds_toArray, List.set_cons_zero, List.set_cons_succ])
        refine wpAnyH_done (by kernel_rfl) ?_ _
        replace hbx := grew hbx (by with_reducible assumption)
        go_wp2
        go_ret
        exact ⟨ret_bool E.out.symm, hbx⟩
      · have E := hid (show slB (pt l n) (pt l (n + 1)) (pt l (n + 2)) = true by rw [HSL.out, decide_eq_false hs]; rfl)
        clear hx hy hx1 hy1 hx2 hy2 hK hM
        go_upto_region 4 with fail
        have hb8 : Below wr.heap.size wr (wr.alloc (.cells #[.int .i64 x, .int .i64 y] 44)) := by go_grown
        have k0 := box0 wr x y 44
        have k1 := box1 wr x y 44
        have hbx := grew hbw hb8
        replace q0 := cell_later hb8 q0
        replace q1 := cell_later hb8 q1
        replace q2 := cell_later hb8 q2
        replace q3 := cell_later hb8 q3
        replace q4 := cell_later hb8 q4
        replace q5 := cell_later hb8 q5
        clear hb8 hbw
        generalize wr.alloc (.cells #[.int .i64 x, .int .i64 y] 44) = wp at *
        generalize wr.heap.size = B8 at *
        refine wp_region_held_drew (S := (fun u => Below wp.heap.size wp u)) (by kernel_rfl) ?_ (fun hHeld => ?_)
        · exact (Below.refl _ _).drew
        refine wpAnyH_take (i := 0) (oi := { dst := some 12, op := Op.load 44 (Operand.tmp 4), type := 44, pos := "l7_tree.go:7", after := #[], guard := none }) (v := ?v178yx0) rfl (by kernel_rfl) (by kernel_rfl) (by kernel_rfl) (fun _ _ _ h => h) (Or.inl ⟨by rfl, ?hy178yx0⟩) (by with_reducible assumption) ?rest178yx0
        case hy178yx0 => (intro wS hSw; (try dsimp only at hSw); have z0 := cell_later hSw k0; have z1 := cell_later hSw k1; have z2 := cell_later hSw q2; have z3 := cell_later hSw q3; have z4 := cell_later hSw q4; have z5 := cell_later hSw q5; clear hSw; go_simp; try with_reducible rfl)
        case' rest178yx0 => (try simp only [Act.put, List.setIfInBounds_toArray, List.set_cons_zero, List.set_cons_succ])
        refine wpAnyH_ready (rs := [1]) (by kernel_rfl) (by simp) ?_
        refine AllReadyH.cons (o := { dst := some 13, op := Op.call { callee := Callee.value (Operand.func 60), args := #[Operand.tmp 12], argTypes := #[44] }, type := 4, pos := "l7_tree.go:7", after := #[{ on := 0, ground := Ground.data }], guard := none }) rfl (fun K hK => ?_) AllReadyH.nil
        go_simp
        refine (goodSpec_e _ _ _).mono ?_
        rw [hg]
        rintro e w2 ⟨rfl, hb2⟩
        go_wp2_with fail
        refine hK.out _ _ ?_ (fun hHeld => ?_)
        · exact grew (by with_reducible assumption) hb2
        clear hK K
        try simp only [Act.put, List.setIfInBounds_toArray, List.set_cons_zero, List.set_cons_succ]
        refine wpAnyH_take (i := 2) (oi := { dst := some 14, op := Op.unOp UnOp.not 4 (Operand.tmp 13), type := 4, pos := "l7_tree.go:7", after := #[{ on := 1, ground := Ground.data }], guard := none }) (v := ?v179yx2) rfl (by kernel_rfl) (by kernel_rfl) (by kernel_rfl) (fun _ _ _ h => h) (Or.inl ⟨by rfl, ?hy179yx2⟩) (by with_reducible assumption) ?rest179yx2
        case hy179yx2 => (intro wS hSw; (try dsimp only at hSw); have z0 := cell_later hSw k0; have z1 := cell_later hSw k1; have z2 := cell_later hSw q2; have z3 := cell_later hSw q3; have z4 := cell_later hSw q4; have z5 := cell_later hSw q5; clear hSw; go_simp; try with_reducible rfl)
        case' rest179yx2 => (try simp only [Act.put, List.setIfInBounds_toArray, List.set_cons_zero, List.set_cons_succ])
        refine wpAnyH_take (i := 3) (oi := { dst := some 15, op := Op.move (Operand.tmp 14), type := 4, pos := "l7_tree.go:7", after := #[{ on := 2, ground := Ground.data }, { on := 1, ground := Ground.chain }], guard := none }) (v := ?v180yx3) rfl (by kernel_rfl) (by kernel_rfl) (by kernel_rfl) (fun _ _ _ h => h) (Or.inl ⟨by rfl, ?hy180yx3⟩) (by with_reducible assumption) ?rest180yx3
        case hy180yx3 => (intro wS hSw; (try dsimp only at hSw); have z0 := cell_later hSw k0; have z1 := cell_later hSw k1; have z2 := cell_later hSw q2; have z3 := cell_later hSw q3; have z4 := cell_later hSw q4; have z5 := cell_later hSw q5; clear hSw; go_simp; try with_reducible rfl)
        case' rest180yx3 => (try simp only [Act.put, List.setIfInBounds_toArray, List.set_cons_zero, List.set_cons_succ])
        refine wpAnyH_take (i := 4) (oi := { dst := some 16, op := Op.move (Operand.tmp 3), type := 3, pos := "l7_tree.go:7", after := #[{ on := 3, ground := Ground.guard }], guard := some (3, false) }) (v := ?v181yx4) rfl (by kernel_rfl) (by kernel_rfl) (by kernel_rfl) (fun _ _ _ h => h) (Or.inl ⟨by rfl, ?hy181yx4⟩) (by with_reducible assumption) ?rest181yx4
        case hy181yx4 => (intro wS hSw; (try dsimp only at hSw); have z0 := cell_later hSw k0; have z1 := cell_later hSw k1; have z2 := cell_later hSw q2; have z3 := cell_later hSw q3; have z4 := cell_later hSw q4; have z5 := cell_later hSw q5; clear hSw; go_simp; try with_reducible rfl)
        case' rest181yx4 => (try simp only [Act.put, List.setIfInBounds_toArray, List.set_cons_zero, List.set_cons_succ])
        refine wpAnyH_take (i := 5) (oi := { dst := some 17, op := Op.binOp BinOp.gtr 3 (Operand.tmp 16) (Operand.const (Value.int IntKind.i64 0)) 3, type := 4, pos := "l7_tree.go:7", after := #[{ on := 4, ground := Ground.data }, { on := 3, ground := Ground.guard }], guard := some (3, false) }) (v := ?v182yx5) rfl (by kernel_rfl) (by kernel_rfl) (by kernel_rfl) (fun _ _ _ h => h) (Or.inl ⟨by rfl, ?hy182yx5⟩) (by with_reducible assumption) ?rest182yx5
        case hy182yx5 => (intro wS hSw; (try dsimp only at hSw); have z0 := cell_later hSw k0; have z1 := cell_later hSw k1; have z2 := cell_later hSw q2; have z3 := cell_later hSw q3; have z4 := cell_later hSw q4; have z5 := cell_later hSw q5; clear hSw; go_simp; try with_reducible rfl)
        case' rest182yx5 => (try simp only [Act.put, List.setIfInBounds_toArray, List.set_cons_zero, List.set_cons_succ])
        refine wpAnyH_take (i := 6) (oi := { dst := some 18, op := Op.move (Operand.tmp 17), type := 4, pos := "l7_tree.go:7", after := #[{ on := 5, ground := Ground.data }, { on := 3, ground := Ground.chain }, { on := 3, ground := Ground.guard }], guard := some (3, false) }) (v := ?v183yx6) rfl (by kernel_rfl) (by kernel_rfl) (by kernel_rfl) (fun _ _ _ h => h) (Or.inl ⟨by rfl, ?hy183yx6⟩) (by with_reducible assumption) ?rest183yx6
        case hy183yx6 => (intro wS hSw; (try dsimp only at hSw); have z0 := cell_later hSw k0; have z1 := cell_later hSw k1; have z2 := cell_later hSw q2; have z3 := cell_later hSw q3; have z4 := cell_later hSw q4; have z5 := cell_later hSw q5; clear hSw; go_simp; try with_reducible rfl)
        case' rest183yx6 => (try simp only [Act.put, List.setIfInBounds_toArray, List.set_cons_zero, List.set_cons_succ])
        refine wpAnyH_take (i := 7) (oi := { dst := some 19, op := Op.move (Operand.tmp 0), type := 24, pos := "l7_tree.go:7", after := #[{ on := 6, ground := Ground.guard }], guard := some (6, true) }) (v := ?v184yx7) rfl (by kernel_rfl) (by kernel_rfl) (by kernel_rfl) (fun _ _ _ h => h) (Or.inl ⟨by rfl, ?hy184yx7⟩) (by with_reducible assumption) ?rest184yx7
        case hy184yx7 => (intro wS hSw; (try dsimp only at hSw); have z0 := cell_later hSw k0; have z1 := cell_later hSw k1; have z2 := cell_later hSw q2; have z3 := cell_later hSw q3; have z4 := cell_later hSw q4; have z5 := cell_later hSw q5; clear hSw; go_simp; try with_reducible rfl)
        case' rest184yx7 => (try simp only [Act.put, List.setIfInBounds_toArray, List.set_cons_zero, List.set_cons_succ])
        refine wpAnyH_take (i := 8) (oi := { dst := some 20, op := Op.move (Operand.tmp 3), type := 3, pos := "l7_tree.go:7", after := #[{ on := 6, ground := Ground.guard }], guard := some (6, true) }) (v := ?v185yx8) rfl (by kernel_rfl) (by kernel_rfl) (by kernel_rfl) (fun _ _ _ h => h) (Or.inl ⟨by rfl, ?hy185yx8⟩) (by with_reducible assumption) ?rest185yx8
        case hy185yx8 => (intro wS hSw; (try dsimp only at hSw); have z0 := cell_later hSw k0; have z1 := cell_later hSw k1; have z2 := cell_later hSw q2; have z3 := cell_later hSw q3; have z4 := cell_later hSw q4; have z5 := cell_later hSw q5; clear hSw; go_simp; try with_reducible rfl)
        case' rest185yx8 => (try simp only [Act.put, List.setIfInBounds_toArray, List.set_cons_zero, List.set_cons_succ])
        refine wpAnyH_take (i := 9) (oi := { dst := some 21, op := Op.binOp BinOp.sub 3 (Operand.tmp 20) (Operand.const (Value.int IntKind.i64 1)) 3, type := 3, pos := "l7_tree.go:7", after := #[{ on := 8, ground := Ground.data }, { on := 6, ground := Ground.guard }], guard := some (6, true) }) (v := ?v186yx9) rfl (by kernel_rfl) (by kernel_rfl) (by kernel_rfl) (fun _ _ _ h => h) (Or.inl ⟨by rfl, ?hy186yx9⟩) (by with_reducible assumption) ?rest186yx9
        case hy186yx9 => (intro wS hSw; (try dsimp only at hSw); have z0 := cell_later hSw k0; have z1 := cell_later hSw k1; have z2 := cell_later hSw q2; have z3 := cell_later hSw q3; have z4 := cell_later hSw q4; have z5 := cell_later hSw q5; clear hSw; go_simp; try with_reducible rfl)
        case' rest186yx9 => (try simp only [Act.put, List.setIfInBounds_toArray, List.set_cons_zero, List.set_cons_succ])
        refine wpAnyH_take (i := 10) (oi := { dst := some 22, op := Op.indexAddr 24 (Operand.tmp 19) (Operand.tmp 21), type := 0, pos := "l7_tree.go:7", after := #[{ on := 7, ground := Ground.data }, { on := 9, ground := Ground.data }, { on := 6, ground := Ground.guard }], guard := some (6, true) }) (v := ?v187yx10) rfl (by kernel_rfl) (by kernel_rfl) (by kernel_rfl) (fun _ _ _ h => h) (Or.inl ⟨by rfl, ?hy187yx10⟩) (by with_reducible assumption) ?rest187yx10
        case hy187yx10 => (intro wS hSw; (try dsimp only at hSw); have z0 := cell_later hSw k0; have z1 := cell_later hSw k1; have z2 := cell_later hSw q2; have z3 := cell_later hSw q3; have z4 := cell_later hSw q4; have z5 := cell_later hSw q5; clear hSw; go_simp; try with_reducible rfl)
        case' rest187yx10 => (try simp only [Act.put, List.setIfInBounds_toArray, List.set_cons_zero, List.set_cons_succ])
        refine wpAnyH_take (i := 11) (oi := { dst := some 23, op := Op.load 44 (Operand.tmp 22), type := 44, pos := "l7_tree.go:7", after := #[{ on := 10, ground := Ground.data }, { on := 6, ground := Ground.guard }], guard := some (6, true) }) (v := ?v188yx11) rfl (by kernel_rfl) (by kernel_rfl) (by kernel_rfl) (fun _ _ _ h => h) (Or.inl ⟨by rfl, ?hy188yx11⟩) (by with_reducible assumption) ?rest188yx11
        case hy188yx11 => (intro wS hSw; (try dsimp only at hSw); have z0 := cell_later hSw k0; have z1 := cell_later hSw k1; have z2 := cell_later hSw q2; have z3 := cell_later hSw q3; have z4 := cell_later hSw q4; have z5 := cell_later hSw q5; clear hSw; go_simp; try with_reducible rfl)
        case' rest188yx11 => (try simp only [Act.put, List.setIfInBounds_toArray, List.set_cons_zero, List.set_cons_succ])
        refine wpAnyH_take (i := 12) (oi := { dst := some 24, op := Op.load 44 (Operand.tmp 4), type := 44, pos := "l7_tree.go:7", after := #[{ on := 6, ground := Ground.guard }], guard := some (6, true) }) (v := ?v189yx12) rfl (by kernel_rfl) (by kernel_rfl) (by kernel_rfl) (fun _ _ _ h => h) (Or.inl ⟨by rfl, ?hy189yx12⟩) (by with_reducible assumption) ?rest189yx12
        case hy189yx12 => (intro wS hSw; (try dsimp only at hSw); have z0 := cell_later hSw k0; have z1 := cell_later hSw k1; have z2 := cell_later hSw q2; have z3 := cell_later hSw q3; have z4 := cell_later hSw q4; have z5 := cell_later hSw q5; clear hSw; go_simp; try with_reducible rfl)
        case' rest189yx12 => (try simp only [Act.put, List.setIfInBounds_toArray, List.set_cons_zero, List.set_cons_succ])
        refine wpAnyH_ready (rs := [13]) (by kernel_rfl) (by simp) ?_
        refine AllReadyH.cons (o := { dst := some 25, op := Op.call { callee := Callee.value (Operand.func 42), args := #[Operand.tmp 23, Operand.tmp 24], argTypes := #[44, 44] }, type := 4, pos := "l7_tree.go:7", after := #[{ on := 11, ground := Ground.data }, { on := 12, ground := Ground.data }, { on := 6, ground := Ground.chain }, { on := 6, ground := Ground.guard }], guard := some (6, true) }) rfl (fun K hK => ?_) AllReadyH.nil
        go_simp
        refine (lessSpec_c _ _ _ _ _).mono ?_
        rw [hle]
        rintro e w3 ⟨rfl, hb2⟩
        go_wp2_with fail
        refine hK.out _ _ ?_ (fun hHeld => ?_)
        · exact grew (by with_reducible assumption) hb2
        clear hK K
        try simp only [Act.put, List.setIfInBounds_toArray, List.set_cons_zero, List.set_cons_succ]
        refine wpAnyH_take (i := 14) (oi := { dst := some 26, op := Op.unOp UnOp.not 4 (Operand.tmp 25), type := 4, pos := "l7_tree.go:7", after := #[{ on := 13, ground := Ground.data }, { on := 6, ground := Ground.guard }], guard := some (6, true) }) (v := ?v190yx14) rfl (by kernel_rfl) (by kernel_rfl) (by kernel_rfl) (fun _ _ _ h => h) (Or.inl ⟨by rfl, ?hy190yx14⟩) (by with_reducible assumption) ?rest190yx14
        case hy190yx14 => (intro wS hSw; (try dsimp only at hSw); have z0 := cell_later hSw k0; have z1 := cell_later hSw k1; have z2 := cell_later hSw q2; have z3 := cell_later hSw q3; have z4 := cell_later hSw q4; have z5 := cell_later hSw q5; clear hSw; go_simp; try with_reducible rfl)
        case' rest190yx14 => (try simp only [Act.put, List.setIfInBounds_toArray, List.set_cons_zero, List.set_cons_succ])
        refine wpAnyH_take (i := 15) (oi := { dst := some 27, op := Op.pick (Operand.tmp 18) (Operand.tmp 26) (Operand.const (Value.bool false)), type := 4, pos := "l7_tree.go:7", after := #[{ on := 6, ground := Ground.data }, { on := 14, ground := Ground.data }, { on := 3, ground := Ground.guard }], guard := some (3, false) }) (v := ?v191yx15) rfl (by kernel_rfl) (by kernel_rfl) (by kernel_rfl) (fun _ _ _ h => h) (Or.inl ⟨by rfl, ?hy191yx15⟩) (by with_reducible assumption) ?rest191yx15
        case hy191yx15 => (intro wS hSw; (try dsimp only at hSw); have z0 := cell_later hSw k0; have z1 := cell_later hSw k1; have z2 := cell_later hSw q2; have z3 := cell_later hSw q3; have z4 := cell_later hSw q4; have z5 := cell_later hSw q5; clear hSw; go_simp; try with_reducible rfl)
        case' rest191yx15 => (try simp only [Act.put, List.setIfInBounds_toArray, List.set_cons_zero, List.set_cons_succ])
        refine wpAnyH_take (i := 16) (oi := { dst := some 28, op := Op.pick (Operand.tmp 15) (Operand.const (Value.bool true)) (Operand.tmp 27), type := 4, pos := "l7_tree.go:7", after := #[{ on := 3, ground := Ground.data }, { on := 15, ground := Ground.data }], guard := none }) (v := ?v192yx16) rfl (by kernel_rfl) (by kernel_rfl) (by kernel_rfl) (fun _ _ _ h => h) (Or.inl ⟨by rfl, ?hy192yx16⟩) (by with_reducible assumption) ?rest192yx16
        case hy192yx16 => (intro wS hSw; (try dsimp only at hSw); have z0 := cell_later hSw k0; have z1 := cell_later hSw k1; have z2 := cell_later hSw q2; have z3 := cell_later hSw q3; have z4 := cell_later hSw q4; have z5 := cell_later hSw q5; clear hSw; go_simp; try with_reducible rfl)
        case' rest192yx16 => (try simp only [Act.put, List.setIfInBounds_toArray, List.set_cons_zero, List.set_cons_succ])
        refine wpAnyH_take (i := 17) (oi := { dst := some 29, op := Op.move (Operand.tmp 28), type := 4, pos := "l7_tree.go:7", after := #[{ on := 16, ground := Ground.data }, { on := 13, ground := Ground.chain }], guard := none }) (v := ?v193yx17) rfl (by kernel_rfl) (by kernel_rfl) (by kernel_rfl) (fun _ _ _ h => h) (Or.inl ⟨by rfl, ?hy193yx17⟩) (by with_reducible assumption) ?rest193yx17
        case hy193yx17 => (intro wS hSw; (try dsimp only at hSw); have z0 := cell_later hSw k0; have z1 := cell_later hSw k1; have z2 := cell_later hSw q2; have z3 := cell_later hSw q3; have z4 := cell_later hSw q4; have z5 := cell_later hSw q5; clear hSw; go_simp; try with_reducible rfl)
        case' rest193yx17 => (try simp only [Act.put, List.setIfInBounds_toArray, List.set_cons_zero, List.set_cons_succ])
        refine wpAnyH_take (i := 18) (oi := { dst := some 30, op := Op.move (Operand.tmp 3), type := 3, pos := "l7_tree.go:7", after := #[{ on := 17, ground := Ground.guard }], guard := some (17, false) }) (v := ?v194yx18) rfl (by kernel_rfl) (by kernel_rfl) (by kernel_rfl) (fun _ _ _ h => h) (Or.inl ⟨by rfl, ?hy194yx18⟩) (by with_reducible assumption) ?rest194yx18
        case hy194yx18 => (intro wS hSw; (try dsimp only at hSw); have z0 := cell_later hSw k0; have z1 := cell_later hSw k1; have z2 := cell_later hSw q2; have z3 := cell_later hSw q3; have z4 := cell_later hSw q4; have z5 := cell_later hSw q5; clear hSw; go_simp; try with_reducible rfl)
        case' rest194yx18 => (try simp only [Act.put, List.setIfInBounds_toArray, List.set_cons_zero, List.set_cons_succ])
        refine wpAnyH_take (i := 19) (oi := { dst := some 31, op := Op.binOp BinOp.gtr 3 (Operand.tmp 30) (Operand.const (Value.int IntKind.i64 1)) 3, type := 4, pos := "l7_tree.go:7", after := #[{ on := 18, ground := Ground.data }, { on := 17, ground := Ground.guard }], guard := some (17, false) }) (v := ?v195yx19) rfl (by kernel_rfl) (by kernel_rfl) (by kernel_rfl) (fun _ _ _ h => h) (Or.inl ⟨by rfl, ?hy195yx19⟩) (by with_reducible assumption) ?rest195yx19
        case hy195yx19 => (intro wS hSw; (try dsimp only at hSw); have z0 := cell_later hSw k0; have z1 := cell_later hSw k1; have z2 := cell_later hSw q2; have z3 := cell_later hSw q3; have z4 := cell_later hSw q4; have z5 := cell_later hSw q5; clear hSw; go_simp; try with_reducible rfl)
        case' rest195yx19 => (try simp only [Act.put, List.setIfInBounds_toArray, List.set_cons_zero, List.set_cons_succ])
        refine wpAnyH_take (i := 20) (oi := { dst := some 32, op := Op.move (Operand.tmp 31), type := 4, pos := "l7_tree.go:7", after := #[{ on := 19, ground := Ground.data }, { on := 17, ground := Ground.chain }, { on := 17, ground := Ground.guard }], guard := some (17, false) }) (v := ?v196yx20) rfl (by kernel_rfl) (by kernel_rfl) (by kernel_rfl) (fun _ _ _ h => h) (Or.inl ⟨by rfl, ?hy196yx20⟩) (by with_reducible assumption) ?rest196yx20
        case hy196yx20 => (intro wS hSw; (try dsimp only at hSw); have z0 := cell_later hSw k0; have z1 := cell_later hSw k1; have z2 := cell_later hSw q2; have z3 := cell_later hSw q3; have z4 := cell_later hSw q4; have z5 := cell_later hSw q5; clear hSw; go_simp; try with_reducible rfl)
        case' rest196yx20 => (try simp only [Act.put, List.setIfInBounds_toArray, List.set_cons_zero, List.set_cons_succ])
        refine wpAnyH_take (i := 21) (oi := { dst := some 33, op := Op.move (Operand.tmp 0), type := 24, pos := "l7_tree.go:7", after := #[{ on := 20, ground := Ground.guard }], guard := some (20, true) }) (v := ?v197yx21) rfl (by kernel_rfl) (by kernel_rfl) (by kernel_rfl) (fun _ _ _ h => h) (Or.inl ⟨by rfl, ?hy197yx21⟩) (by with_reducible assumption) ?rest197yx21
        case hy197yx21 => (intro wS hSw; (try dsimp only at hSw); have z0 := cell_later hSw k0; have z1 := cell_later hSw k1; have z2 := cell_later hSw q2; have z3 := cell_later hSw q3; have z4 := cell_later hSw q4; have z5 := cell_later hSw q5; clear hSw; go_simp; try with_reducible rfl)
        case' rest197yx21 => (try simp only [Act.put, List.setIfInBounds_toArray, List.set_cons_zero, List.set_cons_succ])
        refine wpAnyH_take (i := 22) (oi := { dst := some 34, op := Op.move (Operand.tmp 3), type := 3, pos := "l7_tree.go:7", after := #[{ on := 20, ground := Ground.guard }], guard := some (20, true) }) (v := ?v198yx22) rfl (by kernel_rfl) (by kernel_rfl) (by kernel_rfl) (fun _ _ _ h => h) (Or.inl ⟨by rfl, ?hy198yx22⟩) (by with_reducible assumption) ?rest198yx22
        case hy198yx22 => (intro wS hSw; (try dsimp only at hSw); have z0 := cell_later hSw k0; have z1 := cell_later hSw k1; have z2 := cell_later hSw q2; have z3 := cell_later hSw q3; have z4 := cell_later hSw q4; have z5 := cell_later hSw q5; clear hSw; go_simp; try with_reducible rfl)
        case' rest198yx22 => (try simp only [Act.put, List.setIfInBounds_toArray, List.set_cons_zero, List.set_cons_succ])
        refine wpAnyH_take (i := 23) (oi := { dst := some 35, op := Op.binOp BinOp.sub 3 (Operand.tmp 34) (Operand.const (Value.int IntKind.i64 2)) 3, type := 3, pos := "l7_tree.go:7", after := #[{ on := 22, ground := Ground.data }, { on := 20, ground := Ground.guard }], guard := some (20, true) }) (v := ?v199yx23) rfl (by kernel_rfl) (by kernel_rfl) (by kernel_rfl) (fun _ _ _ h => h) (Or.inl ⟨by rfl, ?hy199yx23⟩) (by with_reducible assumption) ?rest199yx23
        case hy199yx23 => (intro wS hSw; (try dsimp only at hSw); have z0 := cell_later hSw k0; have z1 := cell_later hSw k1; have z2 := cell_later hSw q2; have z3 := cell_later hSw q3; have z4 := cell_later hSw q4; have z5 := cell_later hSw q5; clear hSw; go_simp; try with_reducible rfl)
        case' rest199yx23 => (try simp only [Act.put, List.setIfInBounds_toArray, List.set_cons_zero, List.set_cons_succ])
        refine wpAnyH_take (i := 24) (oi := { dst := some 36, op := Op.indexAddr 24 (Operand.tmp 33) (Operand.tmp 35), type := 0, pos := "l7_tree.go:7", after := #[{ on := 21, ground := Ground.data }, { on := 23, ground := Ground.data }, { on := 20, ground := Ground.guard }], guard := some (20, true) }) (v := ?v200yx24) rfl (by kernel_rfl) (by kernel_rfl) (by kernel_rfl) (fun _ _ _ h => h) (Or.inl ⟨by rfl, ?hy200yx24⟩) (by with_reducible assumption) ?rest200yx24
        case hy200yx24 => (intro wS hSw; (try dsimp only at hSw); have z0 := cell_later hSw k0; have z1 := cell_later hSw k1; have z2 := cell_later hSw q2; have z3 := cell_later hSw q3; have z4 := cell_later hSw q4; have z5 := cell_later hSw q5; clear hSw; go_simp; try with_reducible rfl)
        case' rest200yx24 => (try simp only [Act.put, List.setIfInBounds_toArray, List.set_cons_zero, List.set_cons_succ])
        refine wpAnyH_take (i := 25) (oi := { dst := some 37, op := Op.load 44 (Operand.tmp 36), type := 44, pos := "l7_tree.go:7", after := #[{ on := 24, ground := Ground.data }, { on := 20, ground := Ground.guard }], guard := some (20, true) }) (v := ?v201yx25) rfl (by kernel_rfl) (by kernel_rfl) (by kernel_rfl) (fun _ _ _ h => h) (Or.inl ⟨by rfl, ?hy201yx25⟩) (by with_reducible assumption) ?rest201yx25
        case hy201yx25 => (intro wS hSw; (try dsimp only at hSw); have z0 := cell_later hSw k0; have z1 := cell_later hSw k1; have z2 := cell_later hSw q2; have z3 := cell_later hSw q3; have z4 := cell_later hSw q4; have z5 := cell_later hSw q5; clear hSw; go_simp; try with_reducible rfl)
        case' rest201yx25 => (try simp only [Act.put, List.setIfInBounds_toArray, List.set_cons_zero, List.set_cons_succ])
        refine wpAnyH_take (i := 26) (oi := { dst := some 38, op := Op.move (Operand.tmp 0), type := 24, pos := "l7_tree.go:7", after := #[{ on := 20, ground := Ground.guard }], guard := some (20, true) }) (v := ?v202yx26) rfl (by kernel_rfl) (by kernel_rfl) (by kernel_rfl) (fun _ _ _ h => h) (Or.inl ⟨by rfl, ?hy202yx26⟩) (by with_reducible assumption) ?rest202yx26
        case hy202yx26 => (intro wS hSw; (try dsimp only at hSw); have z0 := cell_later hSw k0; have z1 := cell_later hSw k1; have z2 := cell_later hSw q2; have z3 := cell_later hSw q3; have z4 := cell_later hSw q4; have z5 := cell_later hSw q5; clear hSw; go_simp; try with_reducible rfl)
        case' rest202yx26 => (try simp only [Act.put, List.setIfInBounds_toArray, List.set_cons_zero, List.set_cons_succ])
        refine wpAnyH_take (i := 27) (oi := { dst := some 39, op := Op.move (Operand.tmp 3), type := 3, pos := "l7_tree.go:7", after := #[{ on := 20, ground := Ground.guard }], guard := some (20, true) }) (v := ?v203yx27) rfl (by kernel_rfl) (by kernel_rfl) (by kernel_rfl) (fun _ _ _ h => h) (Or.inl ⟨by rfl, ?hy203yx27⟩) (by with_reducible assumption) ?rest203yx27
        case hy203yx27 => (intro wS hSw; (try dsimp only at hSw); have z0 := cell_later hSw k0; have z1 := cell_later hSw k1; have z2 := cell_later hSw q2; have z3 := cell_later hSw q3; have z4 := cell_later hSw q4; have z5 := cell_later hSw q5; clear hSw; go_simp; try with_reducible rfl)
        case' rest203yx27 => (try simp only [Act.put, List.setIfInBounds_toArray, List.set_cons_zero, List.set_cons_succ])
        refine wpAnyH_take (i := 28) (oi := { dst := some 40, op := Op.binOp BinOp.sub 3 (Operand.tmp 39) (Operand.const (Value.int IntKind.i64 1)) 3, type := 3, pos := "l7_tree.go:7", after := #[{ on := 27, ground := Ground.data }, { on := 20, ground := Ground.guard }], guard := some (20, true) }) (v := ?v204yx28) rfl (by kernel_rfl) (by kernel_rfl) (by kernel_rfl) (fun _ _ _ h => h) (Or.inl ⟨by rfl, ?hy204yx28⟩) (by with_reducible assumption) ?rest204yx28
        case hy204yx28 => (intro wS hSw; (try dsimp only at hSw); have z0 := cell_later hSw k0; have z1 := cell_later hSw k1; have z2 := cell_later hSw q2; have z3 := cell_later hSw q3; have z4 := cell_later hSw q4; have z5 := cell_later hSw q5; clear hSw; go_simp; try with_reducible rfl)
        case' rest204yx28 => (try simp only [Act.put, List.setIfInBounds_toArray, List.set_cons_zero, List.set_cons_succ])
        refine wpAnyH_take (i := 29) (oi := { dst := some 41, op := Op.indexAddr 24 (Operand.tmp 38) (Operand.tmp 40), type := 0, pos := "l7_tree.go:7", after := #[{ on := 26, ground := Ground.data }, { on := 28, ground := Ground.data }, { on := 20, ground := Ground.guard }], guard := some (20, true) }) (v := ?v205yx29) rfl (by kernel_rfl) (by kernel_rfl) (by kernel_rfl) (fun _ _ _ h => h) (Or.inl ⟨by rfl, ?hy205yx29⟩) (by with_reducible assumption) ?rest205yx29
        case hy205yx29 => (intro wS hSw; (try dsimp only at hSw); have z0 := cell_later hSw k0; have z1 := cell_later hSw k1; have z2 := cell_later hSw q2; have z3 := cell_later hSw q3; have z4 := cell_later hSw q4; have z5 := cell_later hSw q5; clear hSw; go_simp; try with_reducible rfl)
        case' rest205yx29 => (try simp only [Act.put, List.setIfInBounds_toArray, List.set_cons_zero, List.set_cons_succ])
        refine wpAnyH_take (i := 30) (oi := { dst := some 42, op := Op.load 44 (Operand.tmp 41), type := 44, pos := "l7_tree.go:7", after := #[{ on := 29, ground := Ground.data }, { on := 20, ground := Ground.guard }], guard := some (20, true) }) (v := ?v206yx30) rfl (by kernel_rfl) (by kernel_rfl) (by kernel_rfl) (fun _ _ _ h => h) (Or.inl ⟨by rfl, ?hy206yx30⟩) (by with_reducible assumption) ?rest206yx30
        case hy206yx30 => (intro wS hSw; (try dsimp only at hSw); have z0 := cell_later hSw k0; have z1 := cell_later hSw k1; have z2 := cell_later hSw q2; have z3 := cell_later hSw q3; have z4 := cell_later hSw q4; have z5 := cell_later hSw q5; clear hSw; go_simp; try with_reducible rfl)
        case' rest206yx30 => (try simp only [Act.put, List.setIfInBounds_toArray, List.set_cons_zero, List.set_cons_succ])
        refine wpAnyH_take (i := 31) (oi := { dst := some 43, op := Op.load 44 (Operand.tmp 4), type := 44, pos := "l7_tree.go:7", after := #[{ on := 20, ground := Ground.guard }], guard := some (20, true) }) (v := ?v207yx31) rfl (by kernel_rfl) (by kernel_rfl) (by kernel_rfl) (fun _ _ _ h => h) (Or.inl ⟨by rfl, ?hy207yx31⟩) (by with_reducible assumption) ?rest207yx31
        case hy207yx31 => (intro wS hSw; (try dsimp only at hSw); have z0 := cell_later hSw k0; have z1 := cell_later hSw k1; have z2 := cell_later hSw q2; have z3 := cell_later hSw q3; have z4 := cell_later hSw q4; have z5 := cell_later hSw q5; clear hSw; go_simp; try with_reducible rfl)
        case' rest207yx31 => (try simp only [Act.put, List.setIfInBounds_toArray, List.set_cons_zero, List.set_cons_succ])
        refine wpAnyH_ready (rs := [32]) (by kernel_rfl) (by simp) ?_
        refine AllReadyH.cons (o := { dst := some 44, op := Op.call { callee := Callee.value (Operand.func 59), args := #[Operand.tmp 37, Operand.tmp 42, Operand.tmp 43], argTypes := #[44, 44, 44] }, type := 3, pos := "l7_tree.go:7", after := #[{ on := 25, ground := Ground.data }, { on := 30, ground := Ground.data }, { on := 31, ground := Ground.data }, { on := 20, ground := Ground.chain }, { on := 20, ground := Ground.guard }], guard := some (20, true) }) rfl (fun K hK => ?_) AllReadyH.nil
        go_simp
        refine (side_c _ _ _ _ _ _ _).mono ?_
        rintro e w4 ⟨rfl, hb2⟩
        go_wp2_with fail
        refine hK.out _ _ ?_ (fun hHeld => ?_)
        · exact grew (by with_reducible assumption) hb2
        clear hK K
        try simp only [Act.put, List.setIfInBounds_toArray, List.set_cons_zero, List.set_cons_succ]
        refine wpAnyH_take (i := 33) (oi := { dst := some 45, op := Op.binOp BinOp.leq 3 (Operand.tmp 44) (Operand.const (Value.int IntKind.i64 0)) 3, type := 4, pos := "l7_tree.go:7", after := #[{ on := 32, ground := Ground.data }, { on := 20, ground := Ground.guard }], guard := some (20, true) }) (v := ?v208yx33) rfl (by kernel_rfl) (by kernel_rfl) (by kernel_rfl) (fun _ _ _ h => h) (Or.inl ⟨by rfl, ?hy208yx33⟩) (by with_reducible assumption) ?rest208yx33
        case hy208yx33 => (intro wS hSw; (try dsimp only at hSw); have z0 := cell_later hSw k0; have z1 := cell_later hSw k1; have z2 := cell_later hSw q2; have z3 := cell_later hSw q3; have z4 := cell_later hSw q4; have z5 := cell_later hSw q5; clear hSw; go_simp; try with_reducible rfl)
        case' rest208yx33 => (try simp only [Act.put, List.setIfInBounds_toArray, List.set_cons_zero, List.set_cons_succ])
        refine wpAnyH_take (i := 34) (oi := { dst := some 46, op := Op.pick (Operand.tmp 32) (Operand.tmp 45) (Operand.const (Value.bool false)), type := 4, pos := "l7_tree.go:7", after := #[{ on := 20, ground := Ground.data }, { on := 33, ground := Ground.data }, { on := 17, ground := Ground.guard }], guard := some (17, false) }) (v := ?v209yx34) rfl (by kernel_rfl) (by kernel_rfl) (by kernel_rfl) (fun _ _ _ h => h) (Or.inl ⟨by rfl, ?hy209yx34⟩) (by with_reducible assumption) ?rest209yx34
        case hy209yx34 => (intro wS hSw; (try dsimp only at hSw); have z0 := cell_later hSw k0; have z1 := cell_later hSw k1; have z2 := cell_later hSw q2; have z3 := cell_later hSw q3; have z4 := cell_later hSw q4; have z5 := cell_later hSw q5; clear hSw; go_simp; try with_reducible rfl)
        case' rest209yx34 => (try simp only [Act.put, List.setIfInBounds_toArray, List.set_cons_zero, List.set_cons_succ])
        refine wpAnyH_take (i := 35) (oi := { dst := some 47, op := Op.pick (Operand.tmp 29) (Operand.const (Value.bool true)) (Operand.tmp 46), type := 4, pos := "l7_tree.go:7", after := #[{ on := 17, ground := Ground.data }, { on := 34, ground := Ground.data }], guard := none }) (v := ?v210yx35) rfl (by kernel_rfl) (by kernel_rfl) (by kernel_rfl) (fun _ _ _ h => h) (Or.inl ⟨by rfl, ?hy210yx35⟩) (by with_reducible assumption) ?rest210yx35
        case hy210yx35 => (intro wS hSw; (try dsimp only at hSw); have z0 := cell_later hSw k0; have z1 := cell_later hSw k1; have z2 := cell_later hSw q2; have z3 := cell_later hSw q3; have z4 := cell_later hSw q4; have z5 := cell_later hSw q5; clear hSw; go_simp; try with_reducible rfl)
        case' rest210yx35 => (try simp only [Act.put, List.setIfInBounds_toArray, List.set_cons_zero, List.set_cons_succ])
        refine wpAnyH_done (by kernel_rfl) ?_ _
        replace hbx := grew hbx (by with_reducible assumption)
        go_wp2
        go_roundw
        case rel => exact ⟨K + 1, by have := HK.out; omega, by first | rfl | go_num, by rw [← HK.out]; exact HCS.out, by rw [← HK.out]; exact HRS.out, by rw [← HK.out]; exact HT.out.succ E.out, hbx⟩
        case measure => simp [intOf]; have := HK.out; omega
    · obtain rfl : k = l.length := by omega
      have E := hid (chI_end HC.out HR.out HT.out)
      by_cases h1 : (1 : Int) ≤ (l.length : Int)
      · by_cases h2 : (l.length : Int) ≤ 60
        · have E2 := hid (E.out.trans (decide_eq_true (by omega)))
          go_wp2
          go_ret
          exact ⟨ret_bool E2.out.symm, grew hbw (by first | exact Below.refl _ _ | go_grown)⟩
        · have E2 := hid (E.out.trans (decide_eq_false (by omega)))
          go_wp2
          go_ret
          exact ⟨ret_bool E2.out.symm, grew hbw (by first | exact Below.refl _ _ | go_grown)⟩
      · have E2 := hid (E.out.trans (decide_eq_false (by omega)))
        go_wp2
        go_ret
        exact ⟨ret_bool E2.out.symm, grew hbw (by first | exact Below.refl _ _ | go_grown)⟩
end Go.Proofs.YtibmgoaildhclaaDoor
