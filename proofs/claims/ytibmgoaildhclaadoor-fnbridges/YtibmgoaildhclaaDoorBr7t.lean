/-
  Two lower chains side by side, and the specification's test of a bridge (contracts for the walks).
  Conditions: as each theorem states them.
-/
import Derived.Test.YtibmgoaildhclaaDoorBr7o
namespace Go.Proofs.YtibmgoaildhclaaDoor
open Go.RowKit Go.Shelf
set_option linter.unusedVariables false
set_option maxRecDepth 8000
set_option maxHeartbeats 4000000 in
theorem areChains_c (a b : List (Int × Int)) (pa pb : Option Addr) (na ca nb cb : Nat) (w : World) (hla : a.length = na) (hlb : b.length = nb) (h1 : na ≤ 1048576) (h2 : nb ≤ 1048576) (hA : At w.heap.size pa a w) (hB : At w.heap.size pb b w) (c0 : w.cell? ⟨0, 0, none⟩ = some (.int .i64 1000000)) :
    Calls Tryd.prog 25 #[.slice pa na ca, .slice pb nb cb] w fun e w' => e = .returned (.bool (twI a b)) ∧ Below w.heap.size w w' := by
  subst hla hlb
  have HA := hid hA
  have HB := hid hB
  have C0 := hid c0
  clear hA hB
  cases Ea : chI a
  · have E := hid (show twI a b = false by unfold twI; rw [Ea]; rfl)
    go_enter Tryd.func25, Tryd.ntmps25
    go_upto_region 1 with fail
    refine wp_region_held_drew (S := (fun u => Below w.heap.size w u)) (by kernel_rfl) ?_ (fun hHeld => ?_)
    · exact (Below.refl _ _).drew
    refine wpAnyH_take (i := 0) (oi := { dst := some 5, op := Op.move (Operand.tmp 0), type := 24, pos := "l7_tree.go:202", after := #[], guard := none }) (v := ?v2yx0u1) rfl (by kernel_rfl) (by kernel_rfl) (by kernel_rfl) (fun _ _ _ h => h) (Or.inl ⟨by rfl, ?hy2yx0u1⟩) (by with_reducible assumption) ?rest2yx0u1
    case hy2yx0u1 => (intro wS hSw; (try dsimp only at hSw);  clear hSw; go_simp; try with_reducible rfl)
    case' rest2yx0u1 => (try simp only [Act.put, List.setIfInBounds_toArray, List.set_cons_zero, List.set_cons_succ])
    refine wpAnyH_ready (rs := [1]) (by kernel_rfl) (by simp) ?_
    refine AllReadyH.cons (o := { dst := some 6, op := Op.call { callee := Callee.value (Operand.func 44), args := #[Operand.tmp 5], argTypes := #[24] }, type := 4, pos := "l7_tree.go:202", after := #[{ on := 0, ground := Ground.data }], guard := none }) rfl (fun K hK => ?_) AllReadyH.nil
    go_simp
    refine (isChain_c a pa a.length _ _ rfl h1 ((HA.out.later hHeld).mono hHeld.size) (cell_later hHeld C0.out)).mono ?_
    rw [Ea]
    rintro e w2 ⟨rfl, hb2⟩
    go_wp2_with fail
    refine hK.out _ _ ?_ (fun hHeld => ?_)
    · exact grew (by with_reducible assumption) hb2
    clear hK K
    try simp only [Act.put, List.setIfInBounds_toArray, List.set_cons_zero, List.set_cons_succ]
    refine wpAnyH_take (i := 2) (oi := { dst := some 7, op := Op.move (Operand.tmp 6), type := 4, pos := "l7_tree.go:202", after := #[{ on := 1, ground := Ground.data }, { on := 1, ground := Ground.chain }], guard := none }) (v := ?v3yx2u2) rfl (by kernel_rfl) (by kernel_rfl) (by kernel_rfl) (fun _ _ _ h => h) (Or.inl ⟨by rfl, ?hy3yx2u2⟩) (by with_reducible assumption) ?rest3yx2u2
    case hy3yx2u2 => (intro wS hSw; (try dsimp only at hSw);  clear hSw; go_simp; try with_reducible rfl)
    case' rest3yx2u2 => (try simp only [Act.put, List.setIfInBounds_toArray, List.set_cons_zero, List.set_cons_succ])
    refine wpAnyH_take (i := 3) (oi := { dst := some 8, op := Op.move (Operand.tmp 1), type := 24, pos := "l7_tree.go:202", after := #[{ on := 2, ground := Ground.guard }], guard := some (2, true) }) (v := undef) rfl (by kernel_rfl) (by kernel_rfl) (by kernel_rfl) (fun _ _ _ h => h) (Or.inr ⟨by rfl, rfl⟩) (by with_reducible assumption) ?rest4sx3
    case' rest4sx3 => (try simp only [Act.put, List.setIfInBounds_toArray, List.set_cons_zero, List.set_cons_succ])
    refine wpAnyH_take (i := 4) (oi := { dst := some 9, op := Op.call { callee := Callee.value (Operand.func 44), args := #[Operand.tmp 8], argTypes := #[24] }, type := 4, pos := "l7_tree.go:202", after := #[{ on := 3, ground := Ground.data }, { on := 2, ground := Ground.chain }, { on := 2, ground := Ground.guard }], guard := some (2, true) }) (v := undef) rfl (by kernel_rfl) (by kernel_rfl) (by kernel_rfl) (fun _ _ _ h => h) (Or.inr ⟨by rfl, rfl⟩) (by with_reducible assumption) ?rest5sx4
    case' rest5sx4 => (try simp only [Act.put, List.setIfInBounds_toArray, List.set_cons_zero, List.set_cons_succ])
    refine wpAnyH_take (i := 5) (oi := { dst := some 10, op := Op.pick (Operand.tmp 7) (Operand.tmp 9) (Operand.const (Value.bool false)), type := 4, pos := "l7_tree.go:202", after := #[{ on := 2, ground := Ground.data }, { on := 4, ground := Ground.data }], guard := none }) (v := ?v6yx5u3) rfl (by kernel_rfl) (by kernel_rfl) (by kernel_rfl) (fun _ _ _ h => h) (Or.inl ⟨by rfl, ?hy6yx5u3⟩) (by with_reducible assumption) ?rest6yx5u3
    case hy6yx5u3 => (intro wS hSw; (try dsimp only at hSw);  clear hSw; go_simp; try with_reducible rfl)
    case' rest6yx5u3 => (try simp only [Act.put, List.setIfInBounds_toArray, List.set_cons_zero, List.set_cons_succ])
    refine wpAnyH_take (i := 6) (oi := { dst := some 11, op := Op.move (Operand.tmp 10), type := 4, pos := "l7_tree.go:202", after := #[{ on := 5, ground := Ground.data }, { on := 4, ground := Ground.chain }], guard := none }) (v := ?v7yx6u4) rfl (by kernel_rfl) (by kernel_rfl) (by kernel_rfl) (fun _ _ _ h => h) (Or.inl ⟨by rfl, ?hy7yx6u4⟩) (by with_reducible assumption) ?rest7yx6u4
    case hy7yx6u4 => (intro wS hSw; (try dsimp only at hSw);  clear hSw; go_simp; try with_reducible rfl)
    case' rest7yx6u4 => (try simp only [Act.put, List.setIfInBounds_toArray, List.set_cons_zero, List.set_cons_succ])
    refine wpAnyH_take (i := 7) (oi := { dst := some 12, op := Op.move (Operand.tmp 0), type := 24, pos := "l7_tree.go:202", after := #[{ on := 6, ground := Ground.guard }], guard := some (6, true) }) (v := undef) rfl (by kernel_rfl) (by kernel_rfl) (by kernel_rfl) (fun _ _ _ h => h) (Or.inr ⟨by rfl, rfl⟩) (by with_reducible assumption) ?rest8sx7
    case' rest8sx7 => (try simp only [Act.put, List.setIfInBounds_toArray, List.set_cons_zero, List.set_cons_succ])
    refine wpAnyH_take (i := 8) (oi := { dst := some 13, op := Op.move (Operand.tmp 0), type := 24, pos := "l7_tree.go:202", after := #[{ on := 6, ground := Ground.guard }], guard := some (6, true) }) (v := undef) rfl (by kernel_rfl) (by kernel_rfl) (by kernel_rfl) (fun _ _ _ h => h) (Or.inr ⟨by rfl, rfl⟩) (by with_reducible assumption) ?rest9sx8
    case' rest9sx8 => (try simp only [Act.put, List.setIfInBounds_toArray, List.set_cons_zero, List.set_cons_succ])
    refine wpAnyH_take (i := 9) (oi := { dst := some 14, op := Op.call { callee := Callee.builtin Builtin.len, args := #[Operand.tmp 13], argTypes := #[24] }, type := 3, pos := "l7_tree.go:202", after := #[{ on := 8, ground := Ground.data }, { on := 6, ground := Ground.guard }], guard := some (6, true) }) (v := undef) rfl (by kernel_rfl) (by kernel_rfl) (by kernel_rfl) (fun _ _ _ h => h) (Or.inr ⟨by rfl, rfl⟩) (by with_reducible assumption) ?rest10sx9
    case' rest10sx9 => (try simp only [Act.put, List.setIfInBounds_toArray, List.set_cons_zero, List.set_cons_succ])
    refine wpAnyH_take (i := 10) (oi := { dst := some 15, op := Op.binOp BinOp.sub 3 (Operand.tmp 14) (Operand.const (Value.int IntKind.i64 1)) 3, type := 3, pos := "l7_tree.go:202", after := #[{ on := 9, ground := Ground.data }, { on := 6, ground := Ground.guard }], guard := some (6, true) }) (v := undef) rfl (by kernel_rfl) (by kernel_rfl) (by kernel_rfl) (fun _ _ _ h => h) (Or.inr ⟨by rfl, rfl⟩) (by with_reducible assumption) ?rest11sx10
    case' rest11sx10 => (try simp only [Act.put, List.setIfInBounds_toArray, List.set_cons_zero, List.set_cons_succ])
    refine wpAnyH_take (i := 11) (oi := { dst := some 16, op := Op.indexAddr 24 (Operand.tmp 12) (Operand.tmp 15), type := 0, pos := "l7_tree.go:202", after := #[{ on := 7, ground := Ground.data }, { on := 10, ground := Ground.data }, { on := 6, ground := Ground.guard }], guard := some (6, true) }) (v := undef) rfl (by kernel_rfl) (by kernel_rfl) (by kernel_rfl) (fun _ _ _ h => h) (Or.inr ⟨by rfl, rfl⟩) (by with_reducible assumption) ?rest12sx11
    case' rest12sx11 => (try simp only [Act.put, List.setIfInBounds_toArray, List.set_cons_zero, List.set_cons_succ])
    refine wpAnyH_take (i := 12) (oi := { dst := some 17, op := Op.load 44 (Operand.tmp 16), type := 44, pos := "l7_tree.go:202", after := #[{ on := 11, ground := Ground.data }, { on := 6, ground := Ground.guard }], guard := some (6, true) }) (v := undef) rfl (by kernel_rfl) (by kernel_rfl) (by kernel_rfl) (fun _ _ _ h => h) (Or.inr ⟨by rfl, rfl⟩) (by with_reducible assumption) ?rest13sx12
    case' rest13sx12 => (try simp only [Act.put, List.setIfInBounds_toArray, List.set_cons_zero, List.set_cons_succ])
    refine wpAnyH_take (i := 13) (oi := { dst := some 18, op := Op.move (Operand.tmp 1), type := 24, pos := "l7_tree.go:202", after := #[{ on := 6, ground := Ground.guard }], guard := some (6, true) }) (v := undef) rfl (by kernel_rfl) (by kernel_rfl) (by kernel_rfl) (fun _ _ _ h => h) (Or.inr ⟨by rfl, rfl⟩) (by with_reducible assumption) ?rest14sx13
    case' rest14sx13 => (try simp only [Act.put, List.setIfInBounds_toArray, List.set_cons_zero, List.set_cons_succ])
    refine wpAnyH_take (i := 14) (oi := { dst := some 19, op := Op.indexAddr 24 (Operand.tmp 18) (Operand.const (Value.int IntKind.i64 0)), type := 0, pos := "l7_tree.go:202", after := #[{ on := 13, ground := Ground.data }, { on := 6, ground := Ground.guard }], guard := some (6, true) }) (v := undef) rfl (by kernel_rfl) (by kernel_rfl) (by kernel_rfl) (fun _ _ _ h => h) (Or.inr ⟨by rfl, rfl⟩) (by with_reducible assumption) ?rest15sx14
    case' rest15sx14 => (try simp only [Act.put, List.setIfInBounds_toArray, List.set_cons_zero, List.set_cons_succ])
    refine wpAnyH_take (i := 15) (oi := { dst := some 20, op := Op.load 44 (Operand.tmp 19), type := 44, pos := "l7_tree.go:202", after := #[{ on := 14, ground := Ground.data }, { on := 6, ground := Ground.guard }], guard := some (6, true) }) (v := undef) rfl (by kernel_rfl) (by kernel_rfl) (by kernel_rfl) (fun _ _ _ h => h) (Or.inr ⟨by rfl, rfl⟩) (by with_reducible assumption) ?rest16sx15
    case' rest16sx15 => (try simp only [Act.put, List.setIfInBounds_toArray, List.set_cons_zero, List.set_cons_succ])
    refine wpAnyH_take (i := 16) (oi := { dst := some 21, op := Op.call { callee := Callee.value (Operand.func 45), args := #[Operand.tmp 17, Operand.tmp 20], argTypes := #[44, 44] }, type := 4, pos := "l7_tree.go:202", after := #[{ on := 12, ground := Ground.data }, { on := 15, ground := Ground.data }, { on := 6, ground := Ground.chain }, { on := 6, ground := Ground.guard }], guard := some (6, true) }) (v := undef) rfl (by kernel_rfl) (by kernel_rfl) (by kernel_rfl) (fun _ _ _ h => h) (Or.inr ⟨by rfl, rfl⟩) (by with_reducible assumption) ?rest17sx16
    case' rest17sx16 => (try simp only [Act.put, List.setIfInBounds_toArray, List.set_cons_zero, List.set_cons_succ])
    refine wpAnyH_take (i := 17) (oi := { dst := some 22, op := Op.pick (Operand.tmp 11) (Operand.tmp 21) (Operand.const (Value.bool false)), type := 4, pos := "l7_tree.go:202", after := #[{ on := 6, ground := Ground.data }, { on := 16, ground := Ground.data }], guard := none }) (v := ?v18yx17u5) rfl (by kernel_rfl) (by kernel_rfl) (by kernel_rfl) (fun _ _ _ h => h) (Or.inl ⟨by rfl, ?hy18yx17u5⟩) (by with_reducible assumption) ?rest18yx17u5
    case hy18yx17u5 => (intro wS hSw; (try dsimp only at hSw);  clear hSw; go_simp; try with_reducible rfl)
    case' rest18yx17u5 => (try simp only [Act.put, List.setIfInBounds_toArray, List.set_cons_zero, List.set_cons_succ])
    refine wpAnyH_take (i := 18) (oi := { dst := some 4, op := Op.assign (Operand.tmp 22), type := 4, pos := "l7_tree.go:202", after := #[{ on := 17, ground := Ground.data }, { on := 16, ground := Ground.chain }, { on := 0, ground := Ground.phase }, { on := 1, ground := Ground.phase }, { on := 2, ground := Ground.phase }, { on := 3, ground := Ground.phase }, { on := 4, ground := Ground.phase }, { on := 5, ground := Ground.phase }, { on := 6, ground := Ground.phase }, { on := 7, ground := Ground.phase }, { on := 8, ground := Ground.phase }, { on := 9, ground := Ground.phase }, { on := 10, ground := Ground.phase }, { on := 11, ground := Ground.phase }, { on := 12, ground := Ground.phase }, { on := 13, ground := Ground.phase }, { on := 14, ground := Ground.phase }, { on := 15, ground := Ground.phase }, { on := 16, ground := Ground.phase }, { on := 17, ground := Ground.phase }], guard := none }) (v := ?v19yx18u6) rfl (by kernel_rfl) (by kernel_rfl) (by kernel_rfl) (fun _ _ _ h => h) (Or.inl ⟨by rfl, ?hy19yx18u6⟩) (by with_reducible assumption) ?rest19yx18u6
    case hy19yx18u6 => (intro wS hSw; (try dsimp only at hSw);  clear hSw; go_simp; try with_reducible rfl)
    case' rest19yx18u6 => (try simp only [Act.put, List.setIfInBounds_toArray, List.set_cons_zero, List.set_cons_succ])
    refine wpAnyH_done (by kernel_rfl) ?_ _
    go_wp2
    go_ret
    exact ⟨ret_bool E.out.symm, by with_reducible assumption⟩
  cases Eb : chI b
  · have E := hid (show twI a b = false by unfold twI; rw [Ea, Eb]; rfl)
    go_enter Tryd.func25, Tryd.ntmps25
    go_upto_region 1 with fail
    refine wp_region_held_drew (S := (fun u => Below w.heap.size w u)) (by kernel_rfl) ?_ (fun hHeld => ?_)
    · exact (Below.refl _ _).drew
    refine wpAnyH_take (i := 0) (oi := { dst := some 5, op := Op.move (Operand.tmp 0), type := 24, pos := "l7_tree.go:202", after := #[], guard := none }) (v := ?v21yx0u7) rfl (by kernel_rfl) (by kernel_rfl) (by kernel_rfl) (fun _ _ _ h => h) (Or.inl ⟨by rfl, ?hy21yx0u7⟩) (by with_reducible assumption) ?rest21yx0u7
    case hy21yx0u7 => (intro wS hSw; (try dsimp only at hSw);  clear hSw; go_simp; try with_reducible rfl)
    case' rest21yx0u7 => (try simp only [Act.put, List.setIfInBounds_toArray, List.set_cons_zero, List.set_cons_succ])
    refine wpAnyH_ready (rs := [1]) (by kernel_rfl) (by simp) ?_
    refine AllReadyH.cons (o := { dst := some 6, op := Op.call { callee := Callee.value (Operand.func 44), args := #[Operand.tmp 5], argTypes := #[24] }, type := 4, pos := "l7_tree.go:202", after := #[{ on := 0, ground := Ground.data }], guard := none }) rfl (fun K hK => ?_) AllReadyH.nil
    go_simp
    refine (isChain_c a pa a.length _ _ rfl h1 ((HA.out.later hHeld).mono hHeld.size) (cell_later hHeld C0.out)).mono ?_
    rw [Ea]
    rintro e w2 ⟨rfl, hb2⟩
    go_wp2_with fail
    refine hK.out _ _ ?_ (fun hHeld => ?_)
    · exact grew (by with_reducible assumption) hb2
    clear hK K
    try simp only [Act.put, List.setIfInBounds_toArray, List.set_cons_zero, List.set_cons_succ]
    refine wpAnyH_take (i := 2) (oi := { dst := some 7, op := Op.move (Operand.tmp 6), type := 4, pos := "l7_tree.go:202", after := #[{ on := 1, ground := Ground.data }, { on := 1, ground := Ground.chain }], guard := none }) (v := ?v22yx2u8) rfl (by kernel_rfl) (by kernel_rfl) (by kernel_rfl) (fun _ _ _ h => h) (Or.inl ⟨by rfl, ?hy22yx2u8⟩) (by with_reducible assumption) ?rest22yx2u8
    case hy22yx2u8 => (intro wS hSw; (try dsimp only at hSw);  clear hSw; go_simp; try with_reducible rfl)
    case' rest22yx2u8 => (try simp only [Act.put, List.setIfInBounds_toArray, List.set_cons_zero, List.set_cons_succ])
    refine wpAnyH_take (i := 3) (oi := { dst := some 8, op := Op.move (Operand.tmp 1), type := 24, pos := "l7_tree.go:202", after := #[{ on := 2, ground := Ground.guard }], guard := some (2, true) }) (v := ?v23yx3u9) rfl (by kernel_rfl) (by kernel_rfl) (by kernel_rfl) (fun _ _ _ h => h) (Or.inl ⟨by rfl, ?hy23yx3u9⟩) (by with_reducible assumption) ?rest23yx3u9
    case hy23yx3u9 => (intro wS hSw; (try dsimp only at hSw);  clear hSw; go_simp; try with_reducible rfl)
    case' rest23yx3u9 => (try simp only [Act.put, List.setIfInBounds_toArray, List.set_cons_zero, List.set_cons_succ])
    refine wpAnyH_ready (rs := [4]) (by kernel_rfl) (by simp) ?_
    refine AllReadyH.cons (o := { dst := some 9, op := Op.call { callee := Callee.value (Operand.func 44), args := #[Operand.tmp 8], argTypes := #[24] }, type := 4, pos := "l7_tree.go:202", after := #[{ on := 3, ground := Ground.data }, { on := 2, ground := Ground.chain }, { on := 2, ground := Ground.guard }], guard := some (2, true) }) rfl (fun K hK => ?_) AllReadyH.nil
    go_simp
    refine (isChain_c b pb b.length _ _ rfl h2 ((HB.out.later hHeld).mono hHeld.size) (cell_later hHeld C0.out)).mono ?_
    rw [Eb]
    rintro e w3 ⟨rfl, hb2⟩
    go_wp2_with fail
    refine hK.out _ _ ?_ (fun hHeld => ?_)
    · exact grew (by with_reducible assumption) hb2
    clear hK K
    try simp only [Act.put, List.setIfInBounds_toArray, List.set_cons_zero, List.set_cons_succ]
    refine wpAnyH_take (i := 5) (oi := { dst := some 10, op := Op.pick (Operand.tmp 7) (Operand.tmp 9) (Operand.const (Value.bool false)), type := 4, pos := "l7_tree.go:202", after := #[{ on := 2, ground := Ground.data }, { on := 4, ground := Ground.data }], guard := none }) (v := ?v24yx5u10) rfl (by kernel_rfl) (by kernel_rfl) (by kernel_rfl) (fun _ _ _ h => h) (Or.inl ⟨by rfl, ?hy24yx5u10⟩) (by with_reducible assumption) ?rest24yx5u10
    case hy24yx5u10 => (intro wS hSw; (try dsimp only at hSw);  clear hSw; go_simp; try with_reducible rfl)
    case' rest24yx5u10 => (try simp only [Act.put, List.setIfInBounds_toArray, List.set_cons_zero, List.set_cons_succ])
    refine wpAnyH_take (i := 6) (oi := { dst := some 11, op := Op.move (Operand.tmp 10), type := 4, pos := "l7_tree.go:202", after := #[{ on := 5, ground := Ground.data }, { on := 4, ground := Ground.chain }], guard := none }) (v := ?v25yx6u11) rfl (by kernel_rfl) (by kernel_rfl) (by kernel_rfl) (fun _ _ _ h => h) (Or.inl ⟨by rfl, ?hy25yx6u11⟩) (by with_reducible assumption) ?rest25yx6u11
    case hy25yx6u11 => (intro wS hSw; (try dsimp only at hSw);  clear hSw; go_simp; try with_reducible rfl)
    case' rest25yx6u11 => (try simp only [Act.put, List.setIfInBounds_toArray, List.set_cons_zero, List.set_cons_succ])
    refine wpAnyH_take (i := 7) (oi := { dst := some 12, op := Op.move (Operand.tmp 0), type := 24, pos := "l7_tree.go:202", after := #[{ on := 6, ground := Ground.guard }], guard := some (6, true) }) (v := undef) rfl (by kernel_rfl) (by kernel_rfl) (by kernel_rfl) (fun _ _ _ h => h) (Or.inr ⟨by rfl, rfl⟩) (by with_reducible assumption) ?rest26sx7
    case' rest26sx7 => (try simp only [Act.put, List.setIfInBounds_toArray, List.set_cons_zero, List.set_cons_succ])
    refine wpAnyH_take (i := 8) (oi := { dst := some 13, op := Op.move (Operand.tmp 0), type := 24, pos := "l7_tree.go:202", after := #[{ on := 6, ground := Ground.guard }], guard := some (6, true) }) (v := undef) rfl (by kernel_rfl) (by kernel_rfl) (by kernel_rfl) (fun _ _ _ h => h) (Or.inr ⟨by rfl, rfl⟩) (by with_reducible assumption) ?rest27sx8
    case' rest27sx8 => (try simp only [Act.put, List.setIfInBounds_toArray, List.set_cons_zero, List.set_cons_succ])
    refine wpAnyH_take (i := 9) (oi := { dst := some 14, op := Op.call { callee := Callee.builtin Builtin.len, args := #[Operand.tmp 13], argTypes := #[24] }, type := 3, pos := "l7_tree.go:202", after := #[{ on := 8, ground := Ground.data }, { on := 6, ground := Ground.guard }], guard := some (6, true) }) (v := undef) rfl (by kernel_rfl) (by kernel_rfl) (by kernel_rfl) (fun _ _ _ h => h) (Or.inr ⟨by rfl, rfl⟩) (by with_reducible assumption) ?rest28sx9
    case' rest28sx9 => (try simp only [Act.put, List.setIfInBounds_toArray, List.set_cons_zero, List.set_cons_succ])
    refine wpAnyH_take (i := 10) (oi := { dst := some 15, op := Op.binOp BinOp.sub 3 (Operand.tmp 14) (Operand.const (Value.int IntKind.i64 1)) 3, type := 3, pos := "l7_tree.go:202", after := #[{ on := 9, ground := Ground.data }, { on := 6, ground := Ground.guard }], guard := some (6, true) }) (v := undef) rfl (by kernel_rfl) (by kernel_rfl) (by kernel_rfl) (fun _ _ _ h => h) (Or.inr ⟨by rfl, rfl⟩) (by with_reducible assumption) ?rest29sx10
    case' rest29sx10 => (try simp only [Act.put, List.setIfInBounds_toArray, List.set_cons_zero, List.set_cons_succ])
    refine wpAnyH_take (i := 11) (oi := { dst := some 16, op := Op.indexAddr 24 (Operand.tmp 12) (Operand.tmp 15), type := 0, pos := "l7_tree.go:202", after := #[{ on := 7, ground := Ground.data }, { on := 10, ground := Ground.data }, { on := 6, ground := Ground.guard }], guard := some (6, true) }) (v := undef) rfl (by kernel_rfl) (by kernel_rfl) (by kernel_rfl) (fun _ _ _ h => h) (Or.inr ⟨by rfl, rfl⟩) (by with_reducible assumption) ?rest30sx11
    case' rest30sx11 => (try simp only [Act.put, List.setIfInBounds_toArray, List.set_cons_zero, List.set_cons_succ])
    refine wpAnyH_take (i := 12) (oi := { dst := some 17, op := Op.load 44 (Operand.tmp 16), type := 44, pos := "l7_tree.go:202", after := #[{ on := 11, ground := Ground.data }, { on := 6, ground := Ground.guard }], guard := some (6, true) }) (v := undef) rfl (by kernel_rfl) (by kernel_rfl) (by kernel_rfl) (fun _ _ _ h => h) (Or.inr ⟨by rfl, rfl⟩) (by with_reducible assumption) ?rest31sx12
    case' rest31sx12 => (try simp only [Act.put, List.setIfInBounds_toArray, List.set_cons_zero, List.set_cons_succ])
    refine wpAnyH_take (i := 13) (oi := { dst := some 18, op := Op.move (Operand.tmp 1), type := 24, pos := "l7_tree.go:202", after := #[{ on := 6, ground := Ground.guard }], guard := some (6, true) }) (v := undef) rfl (by kernel_rfl) (by kernel_rfl) (by kernel_rfl) (fun _ _ _ h => h) (Or.inr ⟨by rfl, rfl⟩) (by with_reducible assumption) ?rest32sx13
    case' rest32sx13 => (try simp only [Act.put, List.setIfInBounds_toArray, List.set_cons_zero, List.set_cons_succ])
    refine wpAnyH_take (i := 14) (oi := { dst := some 19, op := Op.indexAddr 24 (Operand.tmp 18) (Operand.const (Value.int IntKind.i64 0)), type := 0, pos := "l7_tree.go:202", after := #[{ on := 13, ground := Ground.data }, { on := 6, ground := Ground.guard }], guard := some (6, true) }) (v := undef) rfl (by kernel_rfl) (by kernel_rfl) (by kernel_rfl) (fun _ _ _ h => h) (Or.inr ⟨by rfl, rfl⟩) (by with_reducible assumption) ?rest33sx14
    case' rest33sx14 => (try simp only [Act.put, List.setIfInBounds_toArray, List.set_cons_zero, List.set_cons_succ])
    refine wpAnyH_take (i := 15) (oi := { dst := some 20, op := Op.load 44 (Operand.tmp 19), type := 44, pos := "l7_tree.go:202", after := #[{ on := 14, ground := Ground.data }, { on := 6, ground := Ground.guard }], guard := some (6, true) }) (v := undef) rfl (by kernel_rfl) (by kernel_rfl) (by kernel_rfl) (fun _ _ _ h => h) (Or.inr ⟨by rfl, rfl⟩) (by with_reducible assumption) ?rest34sx15
    case' rest34sx15 => (try simp only [Act.put, List.setIfInBounds_toArray, List.set_cons_zero, List.set_cons_succ])
    refine wpAnyH_take (i := 16) (oi := { dst := some 21, op := Op.call { callee := Callee.value (Operand.func 45), args := #[Operand.tmp 17, Operand.tmp 20], argTypes := #[44, 44] }, type := 4, pos := "l7_tree.go:202", after := #[{ on := 12, ground := Ground.data }, { on := 15, ground := Ground.data }, { on := 6, ground := Ground.chain }, { on := 6, ground := Ground.guard }], guard := some (6, true) }) (v := undef) rfl (by kernel_rfl) (by kernel_rfl) (by kernel_rfl) (fun _ _ _ h => h) (Or.inr ⟨by rfl, rfl⟩) (by with_reducible assumption) ?rest35sx16
    case' rest35sx16 => (try simp only [Act.put, List.setIfInBounds_toArray, List.set_cons_zero, List.set_cons_succ])
    refine wpAnyH_take (i := 17) (oi := { dst := some 22, op := Op.pick (Operand.tmp 11) (Operand.tmp 21) (Operand.const (Value.bool false)), type := 4, pos := "l7_tree.go:202", after := #[{ on := 6, ground := Ground.data }, { on := 16, ground := Ground.data }], guard := none }) (v := ?v36yx17u12) rfl (by kernel_rfl) (by kernel_rfl) (by kernel_rfl) (fun _ _ _ h => h) (Or.inl ⟨by rfl, ?hy36yx17u12⟩) (by with_reducible assumption) ?rest36yx17u12
    case hy36yx17u12 => (intro wS hSw; (try dsimp only at hSw);  clear hSw; go_simp; try with_reducible rfl)
    case' rest36yx17u12 => (try simp only [Act.put, List.setIfInBounds_toArray, List.set_cons_zero, List.set_cons_succ])
    refine wpAnyH_take (i := 18) (oi := { dst := some 4, op := Op.assign (Operand.tmp 22), type := 4, pos := "l7_tree.go:202", after := #[{ on := 17, ground := Ground.data }, { on := 16, ground := Ground.chain }, { on := 0, ground := Ground.phase }, { on := 1, ground := Ground.phase }, { on := 2, ground := Ground.phase }, { on := 3, ground := Ground.phase }, { on := 4, ground := Ground.phase }, { on := 5, ground := Ground.phase }, { on := 6, ground := Ground.phase }, { on := 7, ground := Ground.phase }, { on := 8, ground := Ground.phase }, { on := 9, ground := Ground.phase }, { on := 10, ground := Ground.phase }, { on := 11, ground := Ground.phase }, { on := 12, ground := Ground.phase }, { on := 13, ground := Ground.phase }, { on := 14, ground := Ground.phase }, { on := 15, ground := Ground.phase }, { on := 16, ground := Ground.phase }, { on := 17, ground := Ground.phase }], guard := none }) (v := ?v37yx18u13) rfl (by kernel_rfl) (by kernel_rfl) (by kernel_rfl) (fun _ _ _ h => h) (Or.inl ⟨by rfl, ?hy37yx18u13⟩) (by with_reducible assumption) ?rest37yx18u13
    case hy37yx18u13 => (intro wS hSw; (try dsimp only at hSw);  clear hSw; go_simp; try with_reducible rfl)
    case' rest37yx18u13 => (try simp only [Act.put, List.setIfInBounds_toArray, List.set_cons_zero, List.set_cons_succ])
    refine wpAnyH_done (by kernel_rfl) ?_ _
    go_wp2
    go_ret
    exact ⟨ret_bool E.out.symm, by with_reducible assumption⟩
  · have pa0 := chI_pos Ea
    have pb0 := chI_pos Eb
    obtain ⟨n, hn⟩ : ∃ n, a.length - 1 = n := ⟨_, rfl⟩
    obtain ⟨b1, o1, e1, hb1, q0, q1⟩ := HA.out n (by omega)
    obtain ⟨b2, o2, e2, hb2', q2, q3⟩ := HB.out 0 pb0
    subst e1 e2
    simp only [Nat.zero_mul, Nat.add_zero] at q2 q3
    have hw : IntKind.i64.wrap ((a.length : Int) - 1) = (n : Int) := by rw [IntKind.wrap_i64]; omega
    have n0 : (0 : Int) ≤ (n : Int) := by omega
    have n1 : (n : Int) < (a.length : Int) := by omega
    have E0 : twI a b = lessB (px a n) (py a n) (px b 0) (py b 0) := by unfold twI; rw [Ea, Eb, hn]; rfl
    obtain ⟨v, El⟩ : ∃ v, lessB (px a n) (py a n) (px b 0) (py b 0) = v := ⟨_, rfl⟩
    have E := hid (E0.trans El)
    have HN := hid hn
    clear E0 hn
    go_enter Tryd.func25, Tryd.ntmps25
    go_upto_region 1 with fail
    refine wp_region_held_drew (S := (fun u => Below w.heap.size w u)) (by kernel_rfl) ?_ (fun hHeld => ?_)
    · exact (Below.refl _ _).drew
    refine wpAnyH_take (i := 0) (oi := { dst := some 5, op := Op.move (Operand.tmp 0), type := 24, pos := "l7_tree.go:202", after := #[], guard := none }) (v := ?v39yx0u14) rfl (by kernel_rfl) (by kernel_rfl) (by kernel_rfl) (fun _ _ _ h => h) (Or.inl ⟨by rfl, ?hy39yx0u14⟩) (by with_reducible assumption) ?rest39yx0u14
    case hy39yx0u14 => (intro wS hSw; (try dsimp only at hSw); have z0 := cell_later hSw q0; have z1 := cell_later hSw q1; have z2 := cell_later hSw q2; have z3 := cell_later hSw q3; clear hSw; go_simp; try with_reducible rfl)
    case' rest39yx0u14 => (try simp only [Act.put, List.setIfInBounds_toArray, List.set_cons_zero, List.set_cons_succ])
    refine wpAnyH_ready (rs := [1]) (by kernel_rfl) (by simp) ?_
    refine AllReadyH.cons (o := { dst := some 6, op := Op.call { callee := Callee.value (Operand.func 44), args := #[Operand.tmp 5], argTypes := #[24] }, type := 4, pos := "l7_tree.go:202", after := #[{ on := 0, ground := Ground.data }], guard := none }) rfl (fun K hK => ?_) AllReadyH.nil
    go_simp
    refine (isChain_c a _ a.length _ _ rfl h1 ((HA.out.later hHeld).mono hHeld.size) (cell_later hHeld C0.out)).mono ?_
    rw [Ea]
    rintro e w2 ⟨rfl, hb2⟩
    go_wp2_with fail
    refine hK.out _ _ ?_ (fun hHeld => ?_)
    · exact grew (by with_reducible assumption) hb2
    clear hK K
    try simp only [Act.put, List.setIfInBounds_toArray, List.set_cons_zero, List.set_cons_succ]
    refine wpAnyH_take (i := 2) (oi := { dst := some 7, op := Op.move (Operand.tmp 6), type := 4, pos := "l7_tree.go:202", after := #[{ on := 1, ground := Ground.data }, { on := 1, ground := Ground.chain }], guard := none }) (v := ?v40yx2u15) rfl (by kernel_rfl) (by kernel_rfl) (by kernel_rfl) (fun _ _ _ h => h) (Or.inl ⟨by rfl, ?hy40yx2u15⟩) (by with_reducible assumption) ?rest40yx2u15
    case hy40yx2u15 => (intro wS hSw; (try dsimp only at hSw); have z0 := cell_later hSw q0; have z1 := cell_later hSw q1; have z2 := cell_later hSw q2; have z3 := cell_later hSw q3; clear hSw; go_simp; try with_reducible rfl)
    case' rest40yx2u15 => (try simp only [Act.put, List.setIfInBounds_toArray, List.set_cons_zero, List.set_cons_succ])
    refine wpAnyH_take (i := 3) (oi := { dst := some 8, op := Op.move (Operand.tmp 1), type := 24, pos := "l7_tree.go:202", after := #[{ on := 2, ground := Ground.guard }], guard := some (2, true) }) (v := ?v41yx3u16) rfl (by kernel_rfl) (by kernel_rfl) (by kernel_rfl) (fun _ _ _ h => h) (Or.inl ⟨by rfl, ?hy41yx3u16⟩) (by with_reducible assumption) ?rest41yx3u16
    case hy41yx3u16 => (intro wS hSw; (try dsimp only at hSw); have z0 := cell_later hSw q0; have z1 := cell_later hSw q1; have z2 := cell_later hSw q2; have z3 := cell_later hSw q3; clear hSw; go_simp; try with_reducible rfl)
    case' rest41yx3u16 => (try simp only [Act.put, List.setIfInBounds_toArray, List.set_cons_zero, List.set_cons_succ])
    refine wpAnyH_ready (rs := [4]) (by kernel_rfl) (by simp) ?_
    refine AllReadyH.cons (o := { dst := some 9, op := Op.call { callee := Callee.value (Operand.func 44), args := #[Operand.tmp 8], argTypes := #[24] }, type := 4, pos := "l7_tree.go:202", after := #[{ on := 3, ground := Ground.data }, { on := 2, ground := Ground.chain }, { on := 2, ground := Ground.guard }], guard := some (2, true) }) rfl (fun K hK => ?_) AllReadyH.nil
    go_simp
    refine (isChain_c b _ b.length _ _ rfl h2 ((HB.out.later hHeld).mono hHeld.size) (cell_later hHeld C0.out)).mono ?_
    rw [Eb]
    rintro e w3 ⟨rfl, hb2⟩
    go_wp2_with fail
    refine hK.out _ _ ?_ (fun hHeld => ?_)
    · exact grew (by with_reducible assumption) hb2
    clear hK K
    try simp only [Act.put, List.setIfInBounds_toArray, List.set_cons_zero, List.set_cons_succ]
    refine wpAnyH_take (i := 5) (oi := { dst := some 10, op := Op.pick (Operand.tmp 7) (Operand.tmp 9) (Operand.const (Value.bool false)), type := 4, pos := "l7_tree.go:202", after := #[{ on := 2, ground := Ground.data }, { on := 4, ground := Ground.data }], guard := none }) (v := ?v42yx5u17) rfl (by kernel_rfl) (by kernel_rfl) (by kernel_rfl) (fun _ _ _ h => h) (Or.inl ⟨by rfl, ?hy42yx5u17⟩) (by with_reducible assumption) ?rest42yx5u17
    case hy42yx5u17 => (intro wS hSw; (try dsimp only at hSw); have z0 := cell_later hSw q0; have z1 := cell_later hSw q1; have z2 := cell_later hSw q2; have z3 := cell_later hSw q3; clear hSw; go_simp; try with_reducible rfl)
    case' rest42yx5u17 => (try simp only [Act.put, List.setIfInBounds_toArray, List.set_cons_zero, List.set_cons_succ])
    refine wpAnyH_take (i := 6) (oi := { dst := some 11, op := Op.move (Operand.tmp 10), type := 4, pos := "l7_tree.go:202", after := #[{ on := 5, ground := Ground.data }, { on := 4, ground := Ground.chain }], guard := none }) (v := ?v43yx6u18) rfl (by kernel_rfl) (by kernel_rfl) (by kernel_rfl) (fun _ _ _ h => h) (Or.inl ⟨by rfl, ?hy43yx6u18⟩) (by with_reducible assumption) ?rest43yx6u18
    case hy43yx6u18 => (intro wS hSw; (try dsimp only at hSw); have z0 := cell_later hSw q0; have z1 := cell_later hSw q1; have z2 := cell_later hSw q2; have z3 := cell_later hSw q3; clear hSw; go_simp; try with_reducible rfl)
    case' rest43yx6u18 => (try simp only [Act.put, List.setIfInBounds_toArray, List.set_cons_zero, List.set_cons_succ])
    refine wpAnyH_take (i := 7) (oi := { dst := some 12, op := Op.move (Operand.tmp 0), type := 24, pos := "l7_tree.go:202", after := #[{ on := 6, ground := Ground.guard }], guard := some (6, true) }) (v := ?v44yx7u19) rfl (by kernel_rfl) (by kernel_rfl) (by kernel_rfl) (fun _ _ _ h => h) (Or.inl ⟨by rfl, ?hy44yx7u19⟩) (by with_reducible assumption) ?rest44yx7u19
    case hy44yx7u19 => (intro wS hSw; (try dsimp only at hSw); have z0 := cell_later hSw q0; have z1 := cell_later hSw q1; have z2 := cell_later hSw q2; have z3 := cell_later hSw q3; clear hSw; go_simp; try with_reducible rfl)
    case' rest44yx7u19 => (try simp only [Act.put, List.setIfInBounds_toArray, List.set_cons_zero, List.set_cons_succ])
    refine wpAnyH_take (i := 8) (oi := { dst := some 13, op := Op.move (Operand.tmp 0), type := 24, pos := "l7_tree.go:202", after := #[{ on := 6, ground := Ground.guard }], guard := some (6, true) }) (v := ?v45yx8u20) rfl (by kernel_rfl) (by kernel_rfl) (by kernel_rfl) (fun _ _ _ h => h) (Or.inl ⟨by rfl, ?hy45yx8u20⟩) (by with_reducible assumption) ?rest45yx8u20
    case hy45yx8u20 => (intro wS hSw; (try dsimp only at hSw); have z0 := cell_later hSw q0; have z1 := cell_later hSw q1; have z2 := cell_later hSw q2; have z3 := cell_later hSw q3; clear hSw; go_simp; try with_reducible rfl)
    case' rest45yx8u20 => (try simp only [Act.put, List.setIfInBounds_toArray, List.set_cons_zero, List.set_cons_succ])
    refine wpAnyH_take (i := 9) (oi := { dst := some 14, op := Op.call { callee := Callee.builtin Builtin.len, args := #[Operand.tmp 13], argTypes := #[24] }, type := 3, pos := "l7_tree.go:202", after := #[{ on := 8, ground := Ground.data }, { on := 6, ground := Ground.guard }], guard := some (6, true) }) (v := ?v46yx9u21) rfl (by kernel_rfl) (by kernel_rfl) (by kernel_rfl) (fun _ _ _ h => h) (Or.inl ⟨by rfl, ?hy46yx9u21⟩) (by with_reducible assumption) ?rest46yx9u21
    case hy46yx9u21 => (intro wS hSw; (try dsimp only at hSw); have z0 := cell_later hSw q0; have z1 := cell_later hSw q1; have z2 := cell_later hSw q2; have z3 := cell_later hSw q3; clear hSw; go_simp; try with_reducible rfl)
    case' rest46yx9u21 => (try simp only [Act.put, List.setIfInBounds_toArray, List.set_cons_zero, List.set_cons_succ])
    refine wpAnyH_take (i := 10) (oi := { dst := some 15, op := Op.binOp BinOp.sub 3 (Operand.tmp 14) (Operand.const (Value.int IntKind.i64 1)) 3, type := 3, pos := "l7_tree.go:202", after := #[{ on := 9, ground := Ground.data }, { on := 6, ground := Ground.guard }], guard := some (6, true) }) (v := ?v47yx10u22) rfl (by kernel_rfl) (by kernel_rfl) (by kernel_rfl) (fun _ _ _ h => h) (Or.inl ⟨by rfl, ?hy47yx10u22⟩) (by with_reducible assumption) ?rest47yx10u22
    case hy47yx10u22 => (intro wS hSw; (try dsimp only at hSw); have z0 := cell_later hSw q0; have z1 := cell_later hSw q1; have z2 := cell_later hSw q2; have z3 := cell_later hSw q3; clear hSw; go_simp; try with_reducible rfl)
    case' rest47yx10u22 => (try simp only [Act.put, List.setIfInBounds_toArray, List.set_cons_zero, List.set_cons_succ])
    refine wpAnyH_take (i := 11) (oi := { dst := some 16, op := Op.indexAddr 24 (Operand.tmp 12) (Operand.tmp 15), type := 0, pos := "l7_tree.go:202", after := #[{ on := 7, ground := Ground.data }, { on := 10, ground := Ground.data }, { on := 6, ground := Ground.guard }], guard := some (6, true) }) (v := ?v48yx11u23) rfl (by kernel_rfl) (by kernel_rfl) (by kernel_rfl) (fun _ _ _ h => h) (Or.inl ⟨by rfl, ?hy48yx11u23⟩) (by with_reducible assumption) ?rest48yx11u23
    case hy48yx11u23 => (intro wS hSw; (try dsimp only at hSw); have z0 := cell_later hSw q0; have z1 := cell_later hSw q1; have z2 := cell_later hSw q2; have z3 := cell_later hSw q3; clear hSw; go_simp; try with_reducible rfl)
    case' rest48yx11u23 => (try simp only [Act.put, List.setIfInBounds_toArray, List.set_cons_zero, List.set_cons_succ])
    refine wpAnyH_take (i := 12) (oi := { dst := some 17, op := Op.load 44 (Operand.tmp 16), type := 44, pos := "l7_tree.go:202", after := #[{ on := 11, ground := Ground.data }, { on := 6, ground := Ground.guard }], guard := some (6, true) }) (v := ?v49yx12u24) rfl (by kernel_rfl) (by kernel_rfl) (by kernel_rfl) (fun _ _ _ h => h) (Or.inl ⟨by rfl, ?hy49yx12u24⟩) (by with_reducible assumption) ?rest49yx12u24
    case hy49yx12u24 => (intro wS hSw; (try dsimp only at hSw); have z0 := cell_later hSw q0; have z1 := cell_later hSw q1; have z2 := cell_later hSw q2; have z3 := cell_later hSw q3; clear hSw; go_simp; try with_reducible rfl)
    case' rest49yx12u24 => (try simp only [Act.put, List.setIfInBounds_toArray, List.set_cons_zero, List.set_cons_succ])
    refine wpAnyH_take (i := 13) (oi := { dst := some 18, op := Op.move (Operand.tmp 1), type := 24, pos := "l7_tree.go:202", after := #[{ on := 6, ground := Ground.guard }], guard := some (6, true) }) (v := ?v50yx13u25) rfl (by kernel_rfl) (by kernel_rfl) (by kernel_rfl) (fun _ _ _ h => h) (Or.inl ⟨by rfl, ?hy50yx13u25⟩) (by with_reducible assumption) ?rest50yx13u25
    case hy50yx13u25 => (intro wS hSw; (try dsimp only at hSw); have z0 := cell_later hSw q0; have z1 := cell_later hSw q1; have z2 := cell_later hSw q2; have z3 := cell_later hSw q3; clear hSw; go_simp; try with_reducible rfl)
    case' rest50yx13u25 => (try simp only [Act.put, List.setIfInBounds_toArray, List.set_cons_zero, List.set_cons_succ])
    refine wpAnyH_take (i := 14) (oi := { dst := some 19, op := Op.indexAddr 24 (Operand.tmp 18) (Operand.const (Value.int IntKind.i64 0)), type := 0, pos := "l7_tree.go:202", after := #[{ on := 13, ground := Ground.data }, { on := 6, ground := Ground.guard }], guard := some (6, true) }) (v := ?v51yx14u26) rfl (by kernel_rfl) (by kernel_rfl) (by kernel_rfl) (fun _ _ _ h => h) (Or.inl ⟨by rfl, ?hy51yx14u26⟩) (by with_reducible assumption) ?rest51yx14u26
    case hy51yx14u26 => (intro wS hSw; (try dsimp only at hSw); have z0 := cell_later hSw q0; have z1 := cell_later hSw q1; have z2 := cell_later hSw q2; have z3 := cell_later hSw q3; clear hSw; go_simp; try with_reducible rfl)
    case' rest51yx14u26 => (try simp only [Act.put, List.setIfInBounds_toArray, List.set_cons_zero, List.set_cons_succ])
    refine wpAnyH_take (i := 15) (oi := { dst := some 20, op := Op.load 44 (Operand.tmp 19), type := 44, pos := "l7_tree.go:202", after := #[{ on := 14, ground := Ground.data }, { on := 6, ground := Ground.guard }], guard := some (6, true) }) (v := ?v52yx15u27) rfl (by kernel_rfl) (by kernel_rfl) (by kernel_rfl) (fun _ _ _ h => h) (Or.inl ⟨by rfl, ?hy52yx15u27⟩) (by with_reducible assumption) ?rest52yx15u27
    case hy52yx15u27 => (intro wS hSw; (try dsimp only at hSw); have z0 := cell_later hSw q0; have z1 := cell_later hSw q1; have z2 := cell_later hSw q2; have z3 := cell_later hSw q3; clear hSw; go_simp; try with_reducible rfl)
    case' rest52yx15u27 => (try simp only [Act.put, List.setIfInBounds_toArray, List.set_cons_zero, List.set_cons_succ])
    refine wpAnyH_ready (rs := [16]) (by kernel_rfl) (by simp) ?_
    refine AllReadyH.cons (o := { dst := some 21, op := Op.call { callee := Callee.value (Operand.func 45), args := #[Operand.tmp 17, Operand.tmp 20], argTypes := #[44, 44] }, type := 4, pos := "l7_tree.go:202", after := #[{ on := 12, ground := Ground.data }, { on := 15, ground := Ground.data }, { on := 6, ground := Ground.chain }, { on := 6, ground := Ground.guard }], guard := some (6, true) }) rfl (fun K hK => ?_) AllReadyH.nil
    go_simp
    refine (lessImpl_c _ _ _ _ _).mono ?_
    rw [El]
    rintro e w4 ⟨rfl, hb2⟩
    go_wp2_with fail
    refine hK.out _ _ ?_ (fun hHeld => ?_)
    · exact grew (by with_reducible assumption) hb2
    clear hK K
    try simp only [Act.put, List.setIfInBounds_toArray, List.set_cons_zero, List.set_cons_succ]
    refine wpAnyH_take (i := 17) (oi := { dst := some 22, op := Op.pick (Operand.tmp 11) (Operand.tmp 21) (Operand.const (Value.bool false)), type := 4, pos := "l7_tree.go:202", after := #[{ on := 6, ground := Ground.data }, { on := 16, ground := Ground.data }], guard := none }) (v := ?v53yx17u28) rfl (by kernel_rfl) (by kernel_rfl) (by kernel_rfl) (fun _ _ _ h => h) (Or.inl ⟨by rfl, ?hy53yx17u28⟩) (by with_reducible assumption) ?rest53yx17u28
    case hy53yx17u28 => (intro wS hSw; (try dsimp only at hSw); have z0 := cell_later hSw q0; have z1 := cell_later hSw q1; have z2 := cell_later hSw q2; have z3 := cell_later hSw q3; clear hSw; go_simp; try with_reducible rfl)
    case' rest53yx17u28 => (try simp only [Act.put, List.setIfInBounds_toArray, List.set_cons_zero, List.set_cons_succ])
    refine wpAnyH_take (i := 18) (oi := { dst := some 4, op := Op.assign (Operand.tmp 22), type := 4, pos := "l7_tree.go:202", after := #[{ on := 17, ground := Ground.data }, { on := 16, ground := Ground.chain }, { on := 0, ground := Ground.phase }, { on := 1, ground := Ground.phase }, { on := 2, ground := Ground.phase }, { on := 3, ground := Ground.phase }, { on := 4, ground := Ground.phase }, { on := 5, ground := Ground.phase }, { on := 6, ground := Ground.phase }, { on := 7, ground := Ground.phase }, { on := 8, ground := Ground.phase }, { on := 9, ground := Ground.phase }, { on := 10, ground := Ground.phase }, { on := 11, ground := Ground.phase }, { on := 12, ground := Ground.phase }, { on := 13, ground := Ground.phase }, { on := 14, ground := Ground.phase }, { on := 15, ground := Ground.phase }, { on := 16, ground := Ground.phase }, { on := 17, ground := Ground.phase }], guard := none }) (v := ?v54yx18u29) rfl (by kernel_rfl) (by kernel_rfl) (by kernel_rfl) (fun _ _ _ h => h) (Or.inl ⟨by rfl, ?hy54yx18u29⟩) (by with_reducible assumption) ?rest54yx18u29
    case hy54yx18u29 => (intro wS hSw; (try dsimp only at hSw); have z0 := cell_later hSw q0; have z1 := cell_later hSw q1; have z2 := cell_later hSw q2; have z3 := cell_later hSw q3; clear hSw; go_simp; try with_reducible rfl)
    case' rest54yx18u29 => (try simp only [Act.put, List.setIfInBounds_toArray, List.set_cons_zero, List.set_cons_succ])
    refine wpAnyH_done (by kernel_rfl) ?_ _
    go_wp2
    go_ret
    exact ⟨ret_bool E.out.symm, by with_reducible assumption⟩
set_option maxHeartbeats 4000000 in
theorem l7Two_c (a b : List (Int × Int)) (pa pb : Option Addr) (na ca nb cb : Nat) (w : World) (hla : a.length = na) (hlb : b.length = nb) (h1 : na ≤ 1048576) (h2 : nb ≤ 1048576) (hA : At w.heap.size pa a w) (hB : At w.heap.size pb b w) :
    Calls Tryd.prog 22 #[.slice pa na ca, .slice pb nb cb] w fun e w' => e = .returned (.bool (twI a b)) ∧ Below w.heap.size w w' := by
  subst hla hlb
  have HA := hid hA
  have HB := hid hB
  clear hA hB
  cases Ea : chI a
  · have E := hid (show twI a b = false by unfold twI; rw [Ea]; rfl)
    go_enter Tryd.func22, Tryd.ntmps22
    go_upto_region 1 with fail
    refine wp_region_held_drew (S := (fun u => Below w.heap.size w u)) (by kernel_rfl) ?_ (fun hHeld => ?_)
    · exact (Below.refl _ _).drew
    refine wpAnyH_take (i := 0) (oi := { dst := some 5, op := Op.move (Operand.tmp 0), type := 24, pos := "l7_tree.go:15", after := #[], guard := none }) (v := ?v56yx0u30) rfl (by kernel_rfl) (by kernel_rfl) (by kernel_rfl) (fun _ _ _ h => h) (Or.inl ⟨by rfl, ?hy56yx0u30⟩) (by with_reducible assumption) ?rest56yx0u30
    case hy56yx0u30 => (intro wS hSw; (try dsimp only at hSw);  clear hSw; go_simp; try with_reducible rfl)
    case' rest56yx0u30 => (try simp only [Act.put, List.setIfInBounds_toArray, List.set_cons_zero, List.set_cons_succ])
    refine wpAnyH_ready (rs := [1]) (by kernel_rfl) (by simp) ?_
    refine AllReadyH.cons (o := { dst := some 6, op := Op.call { callee := Callee.value (Operand.func 41), args := #[Operand.tmp 5], argTypes := #[24] }, type := 4, pos := "l7_tree.go:15", after := #[{ on := 0, ground := Ground.data }], guard := none }) rfl (fun K hK => ?_) AllReadyH.nil
    go_simp
    refine (l7Chain_c a pa a.length _ _ rfl h1 ((HA.out.later hHeld).mono hHeld.size)).mono ?_
    rw [Ea]
    rintro e w2 ⟨rfl, hb2⟩
    go_wp2_with fail
    refine hK.out _ _ ?_ (fun hHeld => ?_)
    · exact grew (by with_reducible assumption) hb2
    clear hK K
    try simp only [Act.put, List.setIfInBounds_toArray, List.set_cons_zero, List.set_cons_succ]
    refine wpAnyH_take (i := 2) (oi := { dst := some 7, op := Op.move (Operand.tmp 6), type := 4, pos := "l7_tree.go:15", after := #[{ on := 1, ground := Ground.data }, { on := 1, ground := Ground.chain }], guard := none }) (v := ?v57yx2u31) rfl (by kernel_rfl) (by kernel_rfl) (by kernel_rfl) (fun _ _ _ h => h) (Or.inl ⟨by rfl, ?hy57yx2u31⟩) (by with_reducible assumption) ?rest57yx2u31
    case hy57yx2u31 => (intro wS hSw; (try dsimp only at hSw);  clear hSw; go_simp; try with_reducible rfl)
    case' rest57yx2u31 => (try simp only [Act.put, List.setIfInBounds_toArray, List.set_cons_zero, List.set_cons_succ])
    refine wpAnyH_take (i := 3) (oi := { dst := some 8, op := Op.move (Operand.tmp 1), type := 24, pos := "l7_tree.go:15", after := #[{ on := 2, ground := Ground.guard }], guard := some (2, true) }) (v := undef) rfl (by kernel_rfl) (by kernel_rfl) (by kernel_rfl) (fun _ _ _ h => h) (Or.inr ⟨by rfl, rfl⟩) (by with_reducible assumption) ?rest58sx3
    case' rest58sx3 => (try simp only [Act.put, List.setIfInBounds_toArray, List.set_cons_zero, List.set_cons_succ])
    refine wpAnyH_take (i := 4) (oi := { dst := some 9, op := Op.call { callee := Callee.value (Operand.func 41), args := #[Operand.tmp 8], argTypes := #[24] }, type := 4, pos := "l7_tree.go:15", after := #[{ on := 3, ground := Ground.data }, { on := 2, ground := Ground.chain }, { on := 2, ground := Ground.guard }], guard := some (2, true) }) (v := undef) rfl (by kernel_rfl) (by kernel_rfl) (by kernel_rfl) (fun _ _ _ h => h) (Or.inr ⟨by rfl, rfl⟩) (by with_reducible assumption) ?rest59sx4
    case' rest59sx4 => (try simp only [Act.put, List.setIfInBounds_toArray, List.set_cons_zero, List.set_cons_succ])
    refine wpAnyH_take (i := 5) (oi := { dst := some 10, op := Op.pick (Operand.tmp 7) (Operand.tmp 9) (Operand.const (Value.bool false)), type := 4, pos := "l7_tree.go:15", after := #[{ on := 2, ground := Ground.data }, { on := 4, ground := Ground.data }], guard := none }) (v := ?v60yx5u32) rfl (by kernel_rfl) (by kernel_rfl) (by kernel_rfl) (fun _ _ _ h => h) (Or.inl ⟨by rfl, ?hy60yx5u32⟩) (by with_reducible assumption) ?rest60yx5u32
    case hy60yx5u32 => (intro wS hSw; (try dsimp only at hSw);  clear hSw; go_simp; try with_reducible rfl)
    case' rest60yx5u32 => (try simp only [Act.put, List.setIfInBounds_toArray, List.set_cons_zero, List.set_cons_succ])
    refine wpAnyH_take (i := 6) (oi := { dst := some 11, op := Op.move (Operand.tmp 10), type := 4, pos := "l7_tree.go:15", after := #[{ on := 5, ground := Ground.data }, { on := 4, ground := Ground.chain }], guard := none }) (v := ?v61yx6u33) rfl (by kernel_rfl) (by kernel_rfl) (by kernel_rfl) (fun _ _ _ h => h) (Or.inl ⟨by rfl, ?hy61yx6u33⟩) (by with_reducible assumption) ?rest61yx6u33
    case hy61yx6u33 => (intro wS hSw; (try dsimp only at hSw);  clear hSw; go_simp; try with_reducible rfl)
    case' rest61yx6u33 => (try simp only [Act.put, List.setIfInBounds_toArray, List.set_cons_zero, List.set_cons_succ])
    refine wpAnyH_take (i := 7) (oi := { dst := some 12, op := Op.move (Operand.tmp 0), type := 24, pos := "l7_tree.go:15", after := #[{ on := 6, ground := Ground.guard }], guard := some (6, true) }) (v := undef) rfl (by kernel_rfl) (by kernel_rfl) (by kernel_rfl) (fun _ _ _ h => h) (Or.inr ⟨by rfl, rfl⟩) (by with_reducible assumption) ?rest62sx7
    case' rest62sx7 => (try simp only [Act.put, List.setIfInBounds_toArray, List.set_cons_zero, List.set_cons_succ])
    refine wpAnyH_take (i := 8) (oi := { dst := some 13, op := Op.move (Operand.tmp 0), type := 24, pos := "l7_tree.go:15", after := #[{ on := 6, ground := Ground.guard }], guard := some (6, true) }) (v := undef) rfl (by kernel_rfl) (by kernel_rfl) (by kernel_rfl) (fun _ _ _ h => h) (Or.inr ⟨by rfl, rfl⟩) (by with_reducible assumption) ?rest63sx8
    case' rest63sx8 => (try simp only [Act.put, List.setIfInBounds_toArray, List.set_cons_zero, List.set_cons_succ])
    refine wpAnyH_take (i := 9) (oi := { dst := some 14, op := Op.call { callee := Callee.builtin Builtin.len, args := #[Operand.tmp 13], argTypes := #[24] }, type := 3, pos := "l7_tree.go:15", after := #[{ on := 8, ground := Ground.data }, { on := 6, ground := Ground.guard }], guard := some (6, true) }) (v := undef) rfl (by kernel_rfl) (by kernel_rfl) (by kernel_rfl) (fun _ _ _ h => h) (Or.inr ⟨by rfl, rfl⟩) (by with_reducible assumption) ?rest64sx9
    case' rest64sx9 => (try simp only [Act.put, List.setIfInBounds_toArray, List.set_cons_zero, List.set_cons_succ])
    refine wpAnyH_take (i := 10) (oi := { dst := some 15, op := Op.binOp BinOp.sub 3 (Operand.tmp 14) (Operand.const (Value.int IntKind.i64 1)) 3, type := 3, pos := "l7_tree.go:15", after := #[{ on := 9, ground := Ground.data }, { on := 6, ground := Ground.guard }], guard := some (6, true) }) (v := undef) rfl (by kernel_rfl) (by kernel_rfl) (by kernel_rfl) (fun _ _ _ h => h) (Or.inr ⟨by rfl, rfl⟩) (by with_reducible assumption) ?rest65sx10
    case' rest65sx10 => (try simp only [Act.put, List.setIfInBounds_toArray, List.set_cons_zero, List.set_cons_succ])
    refine wpAnyH_take (i := 11) (oi := { dst := some 16, op := Op.indexAddr 24 (Operand.tmp 12) (Operand.tmp 15), type := 0, pos := "l7_tree.go:15", after := #[{ on := 7, ground := Ground.data }, { on := 10, ground := Ground.data }, { on := 6, ground := Ground.guard }], guard := some (6, true) }) (v := undef) rfl (by kernel_rfl) (by kernel_rfl) (by kernel_rfl) (fun _ _ _ h => h) (Or.inr ⟨by rfl, rfl⟩) (by with_reducible assumption) ?rest66sx11
    case' rest66sx11 => (try simp only [Act.put, List.setIfInBounds_toArray, List.set_cons_zero, List.set_cons_succ])
    refine wpAnyH_take (i := 12) (oi := { dst := some 17, op := Op.load 44 (Operand.tmp 16), type := 44, pos := "l7_tree.go:15", after := #[{ on := 11, ground := Ground.data }, { on := 6, ground := Ground.guard }], guard := some (6, true) }) (v := undef) rfl (by kernel_rfl) (by kernel_rfl) (by kernel_rfl) (fun _ _ _ h => h) (Or.inr ⟨by rfl, rfl⟩) (by with_reducible assumption) ?rest67sx12
    case' rest67sx12 => (try simp only [Act.put, List.setIfInBounds_toArray, List.set_cons_zero, List.set_cons_succ])
    refine wpAnyH_take (i := 13) (oi := { dst := some 18, op := Op.move (Operand.tmp 1), type := 24, pos := "l7_tree.go:15", after := #[{ on := 6, ground := Ground.guard }], guard := some (6, true) }) (v := undef) rfl (by kernel_rfl) (by kernel_rfl) (by kernel_rfl) (fun _ _ _ h => h) (Or.inr ⟨by rfl, rfl⟩) (by with_reducible assumption) ?rest68sx13
    case' rest68sx13 => (try simp only [Act.put, List.setIfInBounds_toArray, List.set_cons_zero, List.set_cons_succ])
    refine wpAnyH_take (i := 14) (oi := { dst := some 19, op := Op.indexAddr 24 (Operand.tmp 18) (Operand.const (Value.int IntKind.i64 0)), type := 0, pos := "l7_tree.go:15", after := #[{ on := 13, ground := Ground.data }, { on := 6, ground := Ground.guard }], guard := some (6, true) }) (v := undef) rfl (by kernel_rfl) (by kernel_rfl) (by kernel_rfl) (fun _ _ _ h => h) (Or.inr ⟨by rfl, rfl⟩) (by with_reducible assumption) ?rest69sx14
    case' rest69sx14 => (try simp only [Act.put, List.setIfInBounds_toArray, List.set_cons_zero, List.set_cons_succ])
    refine wpAnyH_take (i := 15) (oi := { dst := some 20, op := Op.load 44 (Operand.tmp 19), type := 44, pos := "l7_tree.go:15", after := #[{ on := 14, ground := Ground.data }, { on := 6, ground := Ground.guard }], guard := some (6, true) }) (v := undef) rfl (by kernel_rfl) (by kernel_rfl) (by kernel_rfl) (fun _ _ _ h => h) (Or.inr ⟨by rfl, rfl⟩) (by with_reducible assumption) ?rest70sx15
    case' rest70sx15 => (try simp only [Act.put, List.setIfInBounds_toArray, List.set_cons_zero, List.set_cons_succ])
    refine wpAnyH_take (i := 16) (oi := { dst := some 21, op := Op.call { callee := Callee.value (Operand.func 42), args := #[Operand.tmp 17, Operand.tmp 20], argTypes := #[44, 44] }, type := 4, pos := "l7_tree.go:15", after := #[{ on := 12, ground := Ground.data }, { on := 15, ground := Ground.data }, { on := 6, ground := Ground.chain }, { on := 6, ground := Ground.guard }], guard := some (6, true) }) (v := undef) rfl (by kernel_rfl) (by kernel_rfl) (by kernel_rfl) (fun _ _ _ h => h) (Or.inr ⟨by rfl, rfl⟩) (by with_reducible assumption) ?rest71sx16
    case' rest71sx16 => (try simp only [Act.put, List.setIfInBounds_toArray, List.set_cons_zero, List.set_cons_succ])
    refine wpAnyH_take (i := 17) (oi := { dst := some 22, op := Op.pick (Operand.tmp 11) (Operand.tmp 21) (Operand.const (Value.bool false)), type := 4, pos := "l7_tree.go:15", after := #[{ on := 6, ground := Ground.data }, { on := 16, ground := Ground.data }], guard := none }) (v := ?v72yx17u34) rfl (by kernel_rfl) (by kernel_rfl) (by kernel_rfl) (fun _ _ _ h => h) (Or.inl ⟨by rfl, ?hy72yx17u34⟩) (by with_reducible assumption) ?rest72yx17u34
    case hy72yx17u34 => (intro wS hSw; (try dsimp only at hSw);  clear hSw; go_simp; try with_reducible rfl)
    case' rest72yx17u34 => (try simp only [Act.put, List.setIfInBounds_toArray, List.set_cons_zero, List.set_cons_succ])
    refine wpAnyH_take (i := 18) (oi := { dst := some 4, op := Op.assign (Operand.tmp 22), type := 4, pos := "l7_tree.go:15", after := #[{ on := 17, ground := Ground.data }, { on := 16, ground := Ground.chain }, { on := 0, ground := Ground.phase }, { on := 1, ground := Ground.phase }, { on := 2, ground := Ground.phase }, { on := 3, ground := Ground.phase }, { on := 4, ground := Ground.phase }, { on := 5, ground := Ground.phase }, { on := 6, ground := Ground.phase }, { on := 7, ground := Ground.phase }, { on := 8, ground := Ground.phase }, { on := 9, ground := Ground.phase }, { on := 10, ground := Ground.phase }, { on := 11, ground := Ground.phase }, { on := 12, ground := Ground.phase }, { on := 13, ground := Ground.phase }, { on := 14, ground := Ground.phase }, { on := 15, ground := Ground.phase }, { on := 16, ground := Ground.phase }, { on := 17, ground := Ground.phase }], guard := none }) (v := ?v73yx18u35) rfl (by kernel_rfl) (by kernel_rfl) (by kernel_rfl) (fun _ _ _ h => h) (Or.inl ⟨by rfl, ?hy73yx18u35⟩) (by with_reducible assumption) ?rest73yx18u35
    case hy73yx18u35 => (intro wS hSw; (try dsimp only at hSw);  clear hSw; go_simp; try with_reducible rfl)
    case' rest73yx18u35 => (try simp only [Act.put, List.setIfInBounds_toArray, List.set_cons_zero, List.set_cons_succ])
    refine wpAnyH_done (by kernel_rfl) ?_ _
    go_wp2
    go_ret
    exact ⟨ret_bool E.out.symm, by with_reducible assumption⟩
  cases Eb : chI b
  · have E := hid (show twI a b = false by unfold twI; rw [Ea, Eb]; rfl)
    go_enter Tryd.func22, Tryd.ntmps22
    go_upto_region 1 with fail
    refine wp_region_held_drew (S := (fun u => Below w.heap.size w u)) (by kernel_rfl) ?_ (fun hHeld => ?_)
    · exact (Below.refl _ _).drew
    refine wpAnyH_take (i := 0) (oi := { dst := some 5, op := Op.move (Operand.tmp 0), type := 24, pos := "l7_tree.go:15", after := #[], guard := none }) (v := ?v75yx0u36) rfl (by kernel_rfl) (by kernel_rfl) (by kernel_rfl) (fun _ _ _ h => h) (Or.inl ⟨by rfl, ?hy75yx0u36⟩) (by with_reducible assumption) ?rest75yx0u36
    case hy75yx0u36 => (intro wS hSw; (try dsimp only at hSw);  clear hSw; go_simp; try with_reducible rfl)
    case' rest75yx0u36 => (try simp only [Act.put, List.setIfInBounds_toArray, List.set_cons_zero, List.set_cons_succ])
    refine wpAnyH_ready (rs := [1]) (by kernel_rfl) (by simp) ?_
    refine AllReadyH.cons (o := { dst := some 6, op := Op.call { callee := Callee.value (Operand.func 41), args := #[Operand.tmp 5], argTypes := #[24] }, type := 4, pos := "l7_tree.go:15", after := #[{ on := 0, ground := Ground.data }], guard := none }) rfl (fun K hK => ?_) AllReadyH.nil
    go_simp
    refine (l7Chain_c a pa a.length _ _ rfl h1 ((HA.out.later hHeld).mono hHeld.size)).mono ?_
    rw [Ea]
    rintro e w2 ⟨rfl, hb2⟩
    go_wp2_with fail
    refine hK.out _ _ ?_ (fun hHeld => ?_)
    · exact grew (by with_reducible assumption) hb2
    clear hK K
    try simp only [Act.put, List.setIfInBounds_toArray, List.set_cons_zero, List.set_cons_succ]
    refine wpAnyH_take (i := 2) (oi := { dst := some 7, op := Op.move (Operand.tmp 6), type := 4, pos := "l7_tree.go:15", after := #[{ on := 1, ground := Ground.data }, { on := 1, ground := Ground.chain }], guard := none }) (v := ?v76yx2u37) rfl (by kernel_rfl) (by kernel_rfl) (by kernel_rfl) (fun _ _ _ h => h) (Or.inl ⟨by rfl, ?hy76yx2u37⟩) (by with_reducible assumption) ?rest76yx2u37
    case hy76yx2u37 => (intro wS hSw; (try dsimp only at hSw);  clear hSw; go_simp; try with_reducible rfl)
    case' rest76yx2u37 => (try simp only [Act.put, List.setIfInBounds_toArray, List.set_cons_zero, List.set_cons_succ])
    refine wpAnyH_take (i := 3) (oi := { dst := some 8, op := Op.move (Operand.tmp 1), type := 24, pos := "l7_tree.go:15", after := #[{ on := 2, ground := Ground.guard }], guard := some (2, true) }) (v := ?v77yx3u38) rfl (by kernel_rfl) (by kernel_rfl) (by kernel_rfl) (fun _ _ _ h => h) (Or.inl ⟨by rfl, ?hy77yx3u38⟩) (by with_reducible assumption) ?rest77yx3u38
    case hy77yx3u38 => (intro wS hSw; (try dsimp only at hSw);  clear hSw; go_simp; try with_reducible rfl)
    case' rest77yx3u38 => (try simp only [Act.put, List.setIfInBounds_toArray, List.set_cons_zero, List.set_cons_succ])
    refine wpAnyH_ready (rs := [4]) (by kernel_rfl) (by simp) ?_
    refine AllReadyH.cons (o := { dst := some 9, op := Op.call { callee := Callee.value (Operand.func 41), args := #[Operand.tmp 8], argTypes := #[24] }, type := 4, pos := "l7_tree.go:15", after := #[{ on := 3, ground := Ground.data }, { on := 2, ground := Ground.chain }, { on := 2, ground := Ground.guard }], guard := some (2, true) }) rfl (fun K hK => ?_) AllReadyH.nil
    go_simp
    refine (l7Chain_c b pb b.length _ _ rfl h2 ((HB.out.later hHeld).mono hHeld.size)).mono ?_
    rw [Eb]
    rintro e w3 ⟨rfl, hb2⟩
    go_wp2_with fail
    refine hK.out _ _ ?_ (fun hHeld => ?_)
    · exact grew (by with_reducible assumption) hb2
    clear hK K
    try simp only [Act.put, List.setIfInBounds_toArray, List.set_cons_zero, List.set_cons_succ]
    refine wpAnyH_take (i := 5) (oi := { dst := some 10, op := Op.pick (Operand.tmp 7) (Operand.tmp 9) (Operand.const (Value.bool false)), type := 4, pos := "l7_tree.go:15", after := #[{ on := 2, ground := Ground.data }, { on := 4, ground := Ground.data }], guard := none }) (v := ?v78yx5u39) rfl (by kernel_rfl) (by kernel_rfl) (by kernel_rfl) (fun _ _ _ h => h) (Or.inl ⟨by rfl, ?hy78yx5u39⟩) (by with_reducible assumption) ?rest78yx5u39
    case hy78yx5u39 => (intro wS hSw; (try dsimp only at hSw);  clear hSw; go_simp; try with_reducible rfl)
    case' rest78yx5u39 => (try simp only [Act.put, List.setIfInBounds_toArray, List.set_cons_zero, List.set_cons_succ])
    refine wpAnyH_take (i := 6) (oi := { dst := some 11, op := Op.move (Operand.tmp 10), type := 4, pos := "l7_tree.go:15", after := #[{ on := 5, ground := Ground.data }, { on := 4, ground := Ground.chain }], guard := none }) (v := ?v79yx6u40) rfl (by kernel_rfl) (by kernel_rfl) (by kernel_rfl) (fun _ _ _ h => h) (Or.inl ⟨by rfl, ?hy79yx6u40⟩) (by with_reducible assumption) ?rest79yx6u40
    case hy79yx6u40 => (intro wS hSw; (try dsimp only at hSw);  clear hSw; go_simp; try with_reducible rfl)
    case' rest79yx6u40 => (try simp only [Act.put, List.setIfInBounds_toArray, List.set_cons_zero, List.set_cons_succ])
    refine wpAnyH_take (i := 7) (oi := { dst := some 12, op := Op.move (Operand.tmp 0), type := 24, pos := "l7_tree.go:15", after := #[{ on := 6, ground := Ground.guard }], guard := some (6, true) }) (v := undef) rfl (by kernel_rfl) (by kernel_rfl) (by kernel_rfl) (fun _ _ _ h => h) (Or.inr ⟨by rfl, rfl⟩) (by with_reducible assumption) ?rest80sx7
    case' rest80sx7 => (try simp only [Act.put, List.setIfInBounds_toArray, List.set_cons_zero, List.set_cons_succ])
    refine wpAnyH_take (i := 8) (oi := { dst := some 13, op := Op.move (Operand.tmp 0), type := 24, pos := "l7_tree.go:15", after := #[{ on := 6, ground := Ground.guard }], guard := some (6, true) }) (v := undef) rfl (by kernel_rfl) (by kernel_rfl) (by kernel_rfl) (fun _ _ _ h => h) (Or.inr ⟨by rfl, rfl⟩) (by with_reducible assumption) ?rest81sx8
    case' rest81sx8 => (try simp only [Act.put, List.setIfInBounds_toArray, List.set_cons_zero, List.set_cons_succ])
    refine wpAnyH_take (i := 9) (oi := { dst := some 14, op := Op.call { callee := Callee.builtin Builtin.len, args := #[Operand.tmp 13], argTypes := #[24] }, type := 3, pos := "l7_tree.go:15", after := #[{ on := 8, ground := Ground.data }, { on := 6, ground := Ground.guard }], guard := some (6, true) }) (v := undef) rfl (by kernel_rfl) (by kernel_rfl) (by kernel_rfl) (fun _ _ _ h => h) (Or.inr ⟨by rfl, rfl⟩) (by with_reducible assumption) ?rest82sx9
    case' rest82sx9 => (try simp only [Act.put, List.setIfInBounds_toArray, List.set_cons_zero, List.set_cons_succ])
    refine wpAnyH_take (i := 10) (oi := { dst := some 15, op := Op.binOp BinOp.sub 3 (Operand.tmp 14) (Operand.const (Value.int IntKind.i64 1)) 3, type := 3, pos := "l7_tree.go:15", after := #[{ on := 9, ground := Ground.data }, { on := 6, ground := Ground.guard }], guard := some (6, true) }) (v := undef) rfl (by kernel_rfl) (by kernel_rfl) (by kernel_rfl) (fun _ _ _ h => h) (Or.inr ⟨by rfl, rfl⟩) (by with_reducible assumption) ?rest83sx10
    case' rest83sx10 => (try simp only [Act.put, List.setIfInBounds_toArray, List.set_cons_zero, List.set_cons_succ])
    refine wpAnyH_take (i := 11) (oi := { dst := some 16, op := Op.indexAddr 24 (Operand.tmp 12) (Operand.tmp 15), type := 0, pos := "l7_tree.go:15", after := #[{ on := 7, ground := Ground.data }, { on := 10, ground := Ground.data }, { on := 6, ground := Ground.guard }], guard := some (6, true) }) (v := undef) rfl (by kernel_rfl) (by kernel_rfl) (by kernel_rfl) (fun _ _ _ h => h) (Or.inr ⟨by rfl, rfl⟩) (by with_reducible assumption) ?rest84sx11
    case' rest84sx11 => (try simp only [Act.put, List.setIfInBounds_toArray, List.set_cons_zero, List.set_cons_succ])
    refine wpAnyH_take (i := 12) (oi := { dst := some 17, op := Op.load 44 (Operand.tmp 16), type := 44, pos := "l7_tree.go:15", after := #[{ on := 11, ground := Ground.data }, { on := 6, ground := Ground.guard }], guard := some (6, true) }) (v := undef) rfl (by kernel_rfl) (by kernel_rfl) (by kernel_rfl) (fun _ _ _ h => h) (Or.inr ⟨by rfl, rfl⟩) (by with_reducible assumption) ?rest85sx12
    case' rest85sx12 => (try simp only [Act.put, List.setIfInBounds_toArray, List.set_cons_zero, List.set_cons_succ])
    refine wpAnyH_take (i := 13) (oi := { dst := some 18, op := Op.move (Operand.tmp 1), type := 24, pos := "l7_tree.go:15", after := #[{ on := 6, ground := Ground.guard }], guard := some (6, true) }) (v := undef) rfl (by kernel_rfl) (by kernel_rfl) (by kernel_rfl) (fun _ _ _ h => h) (Or.inr ⟨by rfl, rfl⟩) (by with_reducible assumption) ?rest86sx13
    case' rest86sx13 => (try simp only [Act.put, List.setIfInBounds_toArray, List.set_cons_zero, List.set_cons_succ])
    refine wpAnyH_take (i := 14) (oi := { dst := some 19, op := Op.indexAddr 24 (Operand.tmp 18) (Operand.const (Value.int IntKind.i64 0)), type := 0, pos := "l7_tree.go:15", after := #[{ on := 13, ground := Ground.data }, { on := 6, ground := Ground.guard }], guard := some (6, true) }) (v := undef) rfl (by kernel_rfl) (by kernel_rfl) (by kernel_rfl) (fun _ _ _ h => h) (Or.inr ⟨by rfl, rfl⟩) (by with_reducible assumption) ?rest87sx14
    case' rest87sx14 => (try simp only [Act.put, List.setIfInBounds_toArray, List.set_cons_zero, List.set_cons_succ])
    refine wpAnyH_take (i := 15) (oi := { dst := some 20, op := Op.load 44 (Operand.tmp 19), type := 44, pos := "l7_tree.go:15", after := #[{ on := 14, ground := Ground.data }, { on := 6, ground := Ground.guard }], guard := some (6, true) }) (v := undef) rfl (by kernel_rfl) (by kernel_rfl) (by kernel_rfl) (fun _ _ _ h => h) (Or.inr ⟨by rfl, rfl⟩) (by with_reducible assumption) ?rest88sx15
    case' rest88sx15 => (try simp only [Act.put, List.setIfInBounds_toArray, List.set_cons_zero, List.set_cons_succ])
    refine wpAnyH_take (i := 16) (oi := { dst := some 21, op := Op.call { callee := Callee.value (Operand.func 42), args := #[Operand.tmp 17, Operand.tmp 20], argTypes := #[44, 44] }, type := 4, pos := "l7_tree.go:15", after := #[{ on := 12, ground := Ground.data }, { on := 15, ground := Ground.data }, { on := 6, ground := Ground.chain }, { on := 6, ground := Ground.guard }], guard := some (6, true) }) (v := undef) rfl (by kernel_rfl) (by kernel_rfl) (by kernel_rfl) (fun _ _ _ h => h) (Or.inr ⟨by rfl, rfl⟩) (by with_reducible assumption) ?rest89sx16
    case' rest89sx16 => (try simp only [Act.put, List.setIfInBounds_toArray, List.set_cons_zero, List.set_cons_succ])
    refine wpAnyH_take (i := 17) (oi := { dst := some 22, op := Op.pick (Operand.tmp 11) (Operand.tmp 21) (Operand.const (Value.bool false)), type := 4, pos := "l7_tree.go:15", after := #[{ on := 6, ground := Ground.data }, { on := 16, ground := Ground.data }], guard := none }) (v := ?v90yx17u41) rfl (by kernel_rfl) (by kernel_rfl) (by kernel_rfl) (fun _ _ _ h => h) (Or.inl ⟨by rfl, ?hy90yx17u41⟩) (by with_reducible assumption) ?rest90yx17u41
    case hy90yx17u41 => (intro wS hSw; (try dsimp only at hSw);  clear hSw; go_simp; try with_reducible rfl)
    case' rest90yx17u41 => (try simp only [Act.put, List.setIfInBounds_toArray, List.set_cons_zero, List.set_cons_succ])
    refine wpAnyH_take (i := 18) (oi := { dst := some 4, op := Op.assign (Operand.tmp 22), type := 4, pos := "l7_tree.go:15", after := #[{ on := 17, ground := Ground.data }, { on := 16, ground := Ground.chain }, { on := 0, ground := Ground.phase }, { on := 1, ground := Ground.phase }, { on := 2, ground := Ground.phase }, { on := 3, ground := Ground.phase }, { on := 4, ground := Ground.phase }, { on := 5, ground := Ground.phase }, { on := 6, ground := Ground.phase }, { on := 7, ground := Ground.phase }, { on := 8, ground := Ground.phase }, { on := 9, ground := Ground.phase }, { on := 10, ground := Ground.phase }, { on := 11, ground := Ground.phase }, { on := 12, ground := Ground.phase }, { on := 13, ground := Ground.phase }, { on := 14, ground := Ground.phase }, { on := 15, ground := Ground.phase }, { on := 16, ground := Ground.phase }, { on := 17, ground := Ground.phase }], guard := none }) (v := ?v91yx18u42) rfl (by kernel_rfl) (by kernel_rfl) (by kernel_rfl) (fun _ _ _ h => h) (Or.inl ⟨by rfl, ?hy91yx18u42⟩) (by with_reducible assumption) ?rest91yx18u42
    case hy91yx18u42 => (intro wS hSw; (try dsimp only at hSw);  clear hSw; go_simp; try with_reducible rfl)
    case' rest91yx18u42 => (try simp only [Act.put, List.setIfInBounds_toArray, List.set_cons_zero, List.set_cons_succ])
    refine wpAnyH_done (by kernel_rfl) ?_ _
    go_wp2
    go_ret
    exact ⟨ret_bool E.out.symm, by with_reducible assumption⟩
  · have pa0 := chI_pos Ea
    have pb0 := chI_pos Eb
    obtain ⟨n, hn⟩ : ∃ n, a.length - 1 = n := ⟨_, rfl⟩
    obtain ⟨b1, o1, e1, hb1, q0, q1⟩ := HA.out n (by omega)
    obtain ⟨b2, o2, e2, hb2', q2, q3⟩ := HB.out 0 pb0
    subst e1 e2
    simp only [Nat.zero_mul, Nat.add_zero] at q2 q3
    have hw : IntKind.i64.wrap ((a.length : Int) - 1) = (n : Int) := by rw [IntKind.wrap_i64]; omega
    have n0 : (0 : Int) ≤ (n : Int) := by omega
    have n1 : (n : Int) < (a.length : Int) := by omega
    have E0 : twI a b = lessB (px a n) (py a n) (px b 0) (py b 0) := by unfold twI; rw [Ea, Eb, hn]; rfl
    obtain ⟨v, El⟩ : ∃ v, lessB (px a n) (py a n) (px b 0) (py b 0) = v := ⟨_, rfl⟩
    have E := hid (E0.trans El)
    have HN := hid hn
    clear E0 hn
    go_enter Tryd.func22, Tryd.ntmps22
    go_upto_region 1 with fail
    refine wp_region_held_drew (S := (fun u => Below w.heap.size w u)) (by kernel_rfl) ?_ (fun hHeld => ?_)
    · exact (Below.refl _ _).drew
    refine wpAnyH_take (i := 0) (oi := { dst := some 5, op := Op.move (Operand.tmp 0), type := 24, pos := "l7_tree.go:15", after := #[], guard := none }) (v := ?v93yx0u43) rfl (by kernel_rfl) (by kernel_rfl) (by kernel_rfl) (fun _ _ _ h => h) (Or.inl ⟨by rfl, ?hy93yx0u43⟩) (by with_reducible assumption) ?rest93yx0u43
    case hy93yx0u43 => (intro wS hSw; (try dsimp only at hSw); have z0 := cell_later hSw q0; have z1 := cell_later hSw q1; have z2 := cell_later hSw q2; have z3 := cell_later hSw q3; clear hSw; go_simp; try with_reducible rfl)
    case' rest93yx0u43 => (try simp only [Act.put, List.setIfInBounds_toArray, List.set_cons_zero, List.set_cons_succ])
    refine wpAnyH_ready (rs := [1]) (by kernel_rfl) (by simp) ?_
    refine AllReadyH.cons (o := { dst := some 6, op := Op.call { callee := Callee.value (Operand.func 41), args := #[Operand.tmp 5], argTypes := #[24] }, type := 4, pos := "l7_tree.go:15", after := #[{ on := 0, ground := Ground.data }], guard := none }) rfl (fun K hK => ?_) AllReadyH.nil
    go_simp
    refine (l7Chain_c a _ a.length _ _ rfl h1 ((HA.out.later hHeld).mono hHeld.size)).mono ?_
    rw [Ea]
    rintro e w2 ⟨rfl, hb2⟩
    go_wp2_with fail
    refine hK.out _ _ ?_ (fun hHeld => ?_)
    · exact grew (by with_reducible assumption) hb2
    clear hK K
    try simp only [Act.put, List.setIfInBounds_toArray, List.set_cons_zero, List.set_cons_succ]
    refine wpAnyH_take (i := 2) (oi := { dst := some 7, op := Op.move (Operand.tmp 6), type := 4, pos := "l7_tree.go:15", after := #[{ on := 1, ground := Ground.data }, { on := 1, ground := Ground.chain }], guard := none }) (v := ?v94yx2u44) rfl (by kernel_rfl) (by kernel_rfl) (by kernel_rfl) (fun _ _ _ h => h) (Or.inl ⟨by rfl, ?hy94yx2u44⟩) (by with_reducible assumption) ?rest94yx2u44
    case hy94yx2u44 => (intro wS hSw; (try dsimp only at hSw); have z0 := cell_later hSw q0; have z1 := cell_later hSw q1; have z2 := cell_later hSw q2; have z3 := cell_later hSw q3; clear hSw; go_simp; try with_reducible rfl)
    case' rest94yx2u44 => (try simp only [Act.put, List.setIfInBounds_toArray, List.set_cons_zero, List.set_cons_succ])
    refine wpAnyH_take (i := 3) (oi := { dst := some 8, op := Op.move (Operand.tmp 1), type := 24, pos := "l7_tree.go:15", after := #[{ on := 2, ground := Ground.guard }], guard := some (2, true) }) (v := ?v95yx3u45) rfl (by kernel_rfl) (by kernel_rfl) (by kernel_rfl) (fun _ _ _ h => h) (Or.inl ⟨by rfl, ?hy95yx3u45⟩) (by with_reducible assumption) ?rest95yx3u45
    case hy95yx3u45 => (intro wS hSw; (try dsimp only at hSw); have z0 := cell_later hSw q0; have z1 := cell_later hSw q1; have z2 := cell_later hSw q2; have z3 := cell_later hSw q3; clear hSw; go_simp; try with_reducible rfl)
    case' rest95yx3u45 => (try simp only [Act.put, List.setIfInBounds_toArray, List.set_cons_zero, List.set_cons_succ])
    refine wpAnyH_ready (rs := [4]) (by kernel_rfl) (by simp) ?_
    refine AllReadyH.cons (o := { dst := some 9, op := Op.call { callee := Callee.value (Operand.func 41), args := #[Operand.tmp 8], argTypes := #[24] }, type := 4, pos := "l7_tree.go:15", after := #[{ on := 3, ground := Ground.data }, { on := 2, ground := Ground.chain }, { on := 2, ground := Ground.guard }], guard := some (2, true) }) rfl (fun K hK => ?_) AllReadyH.nil
    go_simp
    refine (l7Chain_c b _ b.length _ _ rfl h2 ((HB.out.later hHeld).mono hHeld.size)).mono ?_
    rw [Eb]
    rintro e w3 ⟨rfl, hb2⟩
    go_wp2_with fail
    refine hK.out _ _ ?_ (fun hHeld => ?_)
    · exact grew (by with_reducible assumption) hb2
    clear hK K
    try simp only [Act.put, List.setIfInBounds_toArray, List.set_cons_zero, List.set_cons_succ]
    refine wpAnyH_take (i := 5) (oi := { dst := some 10, op := Op.pick (Operand.tmp 7) (Operand.tmp 9) (Operand.const (Value.bool false)), type := 4, pos := "l7_tree.go:15", after := #[{ on := 2, ground := Ground.data }, { on := 4, ground := Ground.data }], guard := none }) (v := ?v96yx5u46) rfl (by kernel_rfl) (by kernel_rfl) (by kernel_rfl) (fun _ _ _ h => h) (Or.inl ⟨by rfl, ?hy96yx5u46⟩) (by with_reducible assumption) ?rest96yx5u46
    case hy96yx5u46 => (intro wS hSw; (try dsimp only at hSw); have z0 := cell_later hSw q0; have z1 := cell_later hSw q1; have z2 := cell_later hSw q2; have z3 := cell_later hSw q3; clear hSw; go_simp; try with_reducible rfl)
    case' rest96yx5u46 => (try simp only [Act.put, List.setIfInBounds_toArray, List.set_cons_zero, List.set_cons_succ])
    refine wpAnyH_take (i := 6) (oi := { dst := some 11, op := Op.move (Operand.tmp 10), type := 4, pos := "l7_tree.go:15", after := #[{ on := 5, ground := Ground.data }, { on := 4, ground := Ground.chain }], guard := none }) (v := ?v97yx6u47) rfl (by kernel_rfl) (by kernel_rfl) (by kernel_rfl) (fun _ _ _ h => h) (Or.inl ⟨by rfl, ?hy97yx6u47⟩) (by with_reducible assumption) ?rest97yx6u47
    case hy97yx6u47 => (intro wS hSw; (try dsimp only at hSw); have z0 := cell_later hSw q0; have z1 := cell_later hSw q1; have z2 := cell_later hSw q2; have z3 := cell_later hSw q3; clear hSw; go_simp; try with_reducible rfl)
    case' rest97yx6u47 => (try simp only [Act.put, List.setIfInBounds_toArray, List.set_cons_zero, List.set_cons_succ])
    refine wpAnyH_take (i := 7) (oi := { dst := some 12, op := Op.move (Operand.tmp 0), type := 24, pos := "l7_tree.go:15", after := #[{ on := 6, ground := Ground.guard }], guard := some (6, true) }) (v := ?v98yx7u48) rfl (by kernel_rfl) (by kernel_rfl) (by kernel_rfl) (fun _ _ _ h => h) (Or.inl ⟨by rfl, ?hy98yx7u48⟩) (by with_reducible assumption) ?rest98yx7u48
    case hy98yx7u48 => (intro wS hSw; (try dsimp only at hSw); have z0 := cell_later hSw q0; have z1 := cell_later hSw q1; have z2 := cell_later hSw q2; have z3 := cell_later hSw q3; clear hSw; go_simp; try with_reducible rfl)
    case' rest98yx7u48 => (try simp only [Act.put, List.setIfInBounds_toArray, List.set_cons_zero, List.set_cons_succ])
    refine wpAnyH_take (i := 8) (oi := { dst := some 13, op := Op.move (Operand.tmp 0), type := 24, pos := "l7_tree.go:15", after := #[{ on := 6, ground := Ground.guard }], guard := some (6, true) }) (v := ?v99yx8u49) rfl (by kernel_rfl) (by kernel_rfl) (by kernel_rfl) (fun _ _ _ h => h) (Or.inl ⟨by rfl, ?hy99yx8u49⟩) (by with_reducible assumption) ?rest99yx8u49
    case hy99yx8u49 => (intro wS hSw; (try dsimp only at hSw); have z0 := cell_later hSw q0; have z1 := cell_later hSw q1; have z2 := cell_later hSw q2; have z3 := cell_later hSw q3; clear hSw; go_simp; try with_reducible rfl)
    case' rest99yx8u49 => (try simp only [Act.put, List.setIfInBounds_toArray, List.set_cons_zero, List.set_cons_succ])
    refine wpAnyH_take (i := 9) (oi := { dst := some 14, op := Op.call { callee := Callee.builtin Builtin.len, args := #[Operand.tmp 13], argTypes := #[24] }, type := 3, pos := "l7_tree.go:15", after := #[{ on := 8, ground := Ground.data }, { on := 6, ground := Ground.guard }], guard := some (6, true) }) (v := ?v100yx9u50) rfl (by kernel_rfl) (by kernel_rfl) (by kernel_rfl) (fun _ _ _ h => h) (Or.inl ⟨by rfl, ?hy100yx9u50⟩) (by with_reducible assumption) ?rest100yx9u50
    case hy100yx9u50 => (intro wS hSw; (try dsimp only at hSw); have z0 := cell_later hSw q0; have z1 := cell_later hSw q1; have z2 := cell_later hSw q2; have z3 := cell_later hSw q3; clear hSw; go_simp; try with_reducible rfl)
    case' rest100yx9u50 => (try simp only [Act.put, List.setIfInBounds_toArray, List.set_cons_zero, List.set_cons_succ])
    refine wpAnyH_take (i := 10) (oi := { dst := some 15, op := Op.binOp BinOp.sub 3 (Operand.tmp 14) (Operand.const (Value.int IntKind.i64 1)) 3, type := 3, pos := "l7_tree.go:15", after := #[{ on := 9, ground := Ground.data }, { on := 6, ground := Ground.guard }], guard := some (6, true) }) (v := ?v101yx10u51) rfl (by kernel_rfl) (by kernel_rfl) (by kernel_rfl) (fun _ _ _ h => h) (Or.inl ⟨by rfl, ?hy101yx10u51⟩) (by with_reducible assumption) ?rest101yx10u51
    case hy101yx10u51 => (intro wS hSw; (try dsimp only at hSw); have z0 := cell_later hSw q0; have z1 := cell_later hSw q1; have z2 := cell_later hSw q2; have z3 := cell_later hSw q3; clear hSw; go_simp; try with_reducible rfl)
    case' rest101yx10u51 => (try simp only [Act.put, List.setIfInBounds_toArray, List.set_cons_zero, List.set_cons_succ])
    refine wpAnyH_take (i := 11) (oi := { dst := some 16, op := Op.indexAddr 24 (Operand.tmp 12) (Operand.tmp 15), type := 0, pos := "l7_tree.go:15", after := #[{ on := 7, ground := Ground.data }, { on := 10, ground := Ground.data }, { on := 6, ground := Ground.guard }], guard := some (6, true) }) (v := ?v102yx11u52) rfl (by kernel_rfl) (by kernel_rfl) (by kernel_rfl) (fun _ _ _ h => h) (Or.inl ⟨by rfl, ?hy102yx11u52⟩) (by with_reducible assumption) ?rest102yx11u52
    case hy102yx11u52 => (intro wS hSw; (try dsimp only at hSw); have z0 := cell_later hSw q0; have z1 := cell_later hSw q1; have z2 := cell_later hSw q2; have z3 := cell_later hSw q3; clear hSw; go_simp; try with_reducible rfl)
    case' rest102yx11u52 => (try simp only [Act.put, List.setIfInBounds_toArray, List.set_cons_zero, List.set_cons_succ])
    refine wpAnyH_take (i := 12) (oi := { dst := some 17, op := Op.load 44 (Operand.tmp 16), type := 44, pos := "l7_tree.go:15", after := #[{ on := 11, ground := Ground.data }, { on := 6, ground := Ground.guard }], guard := some (6, true) }) (v := ?v103yx12u53) rfl (by kernel_rfl) (by kernel_rfl) (by kernel_rfl) (fun _ _ _ h => h) (Or.inl ⟨by rfl, ?hy103yx12u53⟩) (by with_reducible assumption) ?rest103yx12u53
    case hy103yx12u53 => (intro wS hSw; (try dsimp only at hSw); have z0 := cell_later hSw q0; have z1 := cell_later hSw q1; have z2 := cell_later hSw q2; have z3 := cell_later hSw q3; clear hSw; go_simp; try with_reducible rfl)
    case' rest103yx12u53 => (try simp only [Act.put, List.setIfInBounds_toArray, List.set_cons_zero, List.set_cons_succ])
    refine wpAnyH_take (i := 13) (oi := { dst := some 18, op := Op.move (Operand.tmp 1), type := 24, pos := "l7_tree.go:15", after := #[{ on := 6, ground := Ground.guard }], guard := some (6, true) }) (v := ?v104yx13u54) rfl (by kernel_rfl) (by kernel_rfl) (by kernel_rfl) (fun _ _ _ h => h) (Or.inl ⟨by rfl, ?hy104yx13u54⟩) (by with_reducible assumption) ?rest104yx13u54
    case hy104yx13u54 => (intro wS hSw; (try dsimp only at hSw); have z0 := cell_later hSw q0; have z1 := cell_later hSw q1; have z2 := cell_later hSw q2; have z3 := cell_later hSw q3; clear hSw; go_simp; try with_reducible rfl)
    case' rest104yx13u54 => (try simp only [Act.put, List.setIfInBounds_toArray, List.set_cons_zero, List.set_cons_succ])
    refine wpAnyH_take (i := 14) (oi := { dst := some 19, op := Op.indexAddr 24 (Operand.tmp 18) (Operand.const (Value.int IntKind.i64 0)), type := 0, pos := "l7_tree.go:15", after := #[{ on := 13, ground := Ground.data }, { on := 6, ground := Ground.guard }], guard := some (6, true) }) (v := ?v105yx14u55) rfl (by kernel_rfl) (by kernel_rfl) (by kernel_rfl) (fun _ _ _ h => h) (Or.inl ⟨by rfl, ?hy105yx14u55⟩) (by with_reducible assumption) ?rest105yx14u55
    case hy105yx14u55 => (intro wS hSw; (try dsimp only at hSw); have z0 := cell_later hSw q0; have z1 := cell_later hSw q1; have z2 := cell_later hSw q2; have z3 := cell_later hSw q3; clear hSw; go_simp; try with_reducible rfl)
    case' rest105yx14u55 => (try simp only [Act.put, List.setIfInBounds_toArray, List.set_cons_zero, List.set_cons_succ])
    refine wpAnyH_take (i := 15) (oi := { dst := some 20, op := Op.load 44 (Operand.tmp 19), type := 44, pos := "l7_tree.go:15", after := #[{ on := 14, ground := Ground.data }, { on := 6, ground := Ground.guard }], guard := some (6, true) }) (v := ?v106yx15u56) rfl (by kernel_rfl) (by kernel_rfl) (by kernel_rfl) (fun _ _ _ h => h) (Or.inl ⟨by rfl, ?hy106yx15u56⟩) (by with_reducible assumption) ?rest106yx15u56
    case hy106yx15u56 => (intro wS hSw; (try dsimp only at hSw); have z0 := cell_later hSw q0; have z1 := cell_later hSw q1; have z2 := cell_later hSw q2; have z3 := cell_later hSw q3; clear hSw; go_simp; try with_reducible rfl)
    case' rest106yx15u56 => (try simp only [Act.put, List.setIfInBounds_toArray, List.set_cons_zero, List.set_cons_succ])
    refine wpAnyH_ready (rs := [16]) (by kernel_rfl) (by simp) ?_
    refine AllReadyH.cons (o := { dst := some 21, op := Op.call { callee := Callee.value (Operand.func 42), args := #[Operand.tmp 17, Operand.tmp 20], argTypes := #[44, 44] }, type := 4, pos := "l7_tree.go:15", after := #[{ on := 12, ground := Ground.data }, { on := 15, ground := Ground.data }, { on := 6, ground := Ground.chain }, { on := 6, ground := Ground.guard }], guard := some (6, true) }) rfl (fun K hK => ?_) AllReadyH.nil
    go_simp
    refine (lessSpec_c _ _ _ _ _).mono ?_
    rw [El]
    rintro e w4 ⟨rfl, hb2⟩
    go_wp2_with fail
    refine hK.out _ _ ?_ (fun hHeld => ?_)
    · exact grew (by with_reducible assumption) hb2
    clear hK K
    try simp only [Act.put, List.setIfInBounds_toArray, List.set_cons_zero, List.set_cons_succ]
    refine wpAnyH_take (i := 17) (oi := { dst := some 22, op := Op.pick (Operand.tmp 11) (Operand.tmp 21) (Operand.const (Value.bool false)), type := 4, pos := "l7_tree.go:15", after := #[{ on := 6, ground := Ground.data }, { on := 16, ground := Ground.data }], guard := none }) (v := ?v107yx17u57) rfl (by kernel_rfl) (by kernel_rfl) (by kernel_rfl) (fun _ _ _ h => h) (Or.inl ⟨by rfl, ?hy107yx17u57⟩) (by with_reducible assumption) ?rest107yx17u57
    case hy107yx17u57 => (intro wS hSw; (try dsimp only at hSw); have z0 := cell_later hSw q0; have z1 := cell_later hSw q1; have z2 := cell_later hSw q2; have z3 := cell_later hSw q3; clear hSw; go_simp; try with_reducible rfl)
    case' rest107yx17u57 => (try simp only [Act.put, List.setIfInBounds_toArray, List.set_cons_zero, List.set_cons_succ])
    refine wpAnyH_take (i := 18) (oi := { dst := some 4, op := Op.assign (Operand.tmp 22), type := 4, pos := "l7_tree.go:15", after := #[{ on := 17, ground := Ground.data }, { on := 16, ground := Ground.chain }, { on := 0, ground := Ground.phase }, { on := 1, ground := Ground.phase }, { on := 2, ground := Ground.phase }, { on := 3, ground := Ground.phase }, { on := 4, ground := Ground.phase }, { on := 5, ground := Ground.phase }, { on := 6, ground := Ground.phase }, { on := 7, ground := Ground.phase }, { on := 8, ground := Ground.phase }, { on := 9, ground := Ground.phase }, { on := 10, ground := Ground.phase }, { on := 11, ground := Ground.phase }, { on := 12, ground := Ground.phase }, { on := 13, ground := Ground.phase }, { on := 14, ground := Ground.phase }, { on := 15, ground := Ground.phase }, { on := 16, ground := Ground.phase }, { on := 17, ground := Ground.phase }], guard := none }) (v := ?v108yx18u58) rfl (by kernel_rfl) (by kernel_rfl) (by kernel_rfl) (fun _ _ _ h => h) (Or.inl ⟨by rfl, ?hy108yx18u58⟩) (by with_reducible assumption) ?rest108yx18u58
    case hy108yx18u58 => (intro wS hSw; (try dsimp only at hSw); have z0 := cell_later hSw q0; have z1 := cell_later hSw q1; have z2 := cell_later hSw q2; have z3 := cell_later hSw q3; clear hSw; go_simp; try with_reducible rfl)
    case' rest108yx18u58 => (try simp only [Act.put, List.setIfInBounds_toArray, List.set_cons_zero, List.set_cons_succ])
    refine wpAnyH_done (by kernel_rfl) ?_ _
    go_wp2
    go_ret
    exact ⟨ret_bool E.out.symm, by with_reducible assumption⟩
end Go.Proofs.YtibmgoaildhclaaDoor
