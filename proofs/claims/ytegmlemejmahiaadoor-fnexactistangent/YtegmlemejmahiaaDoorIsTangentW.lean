/-
  The walk of a law (see the text that imports this one).
  Conditions: as the theorem states them.
-/
import Derived.Test.YtegmlemejmahiaaDoorTan5
namespace Go.Proofs.YtegmlemejmahiaaDoor.fnExactIsTangent
open Go.RowKit
set_option linter.unusedVariables false
set_option maxHeartbeats 4000000 in
theorem walk (l : List (Int × Int)) (a : Option Addr) (len cap : Nat) (x y u v : Int) (w : World) (hl : l.length = len) (hm : len ≤ maxLen) (hA : At w.heap.size a l w) (c0 : w.cell? ⟨0, 0, none⟩ = some (.int .i64 1000000)) (c1 : w.cell? ⟨0, 1, none⟩ = some (.int .i64 1099511627776)) (c2 : w.cell? ⟨0, 2, none⟩ = some (.int .i64 4398046511104)) :
    Calls Tryd.prog 8 #[.slice a len cap, .agg #[.int .i64 x, .int .i64 y], .agg #[.int .i64 u, .int .i64 v]] w fun e w' => e = .returned (.bool true) ∧ Below w.heap.size w w' := by
  have HA := hid hA
  have C0 := hid c0
  clear hA c0 c1 c2
  by_cases h20 : len ≤ 1048576
  · clear hm
    have hn : (0 : Int) ≤ 1048576 - (len : Int) := by omega
    have tok2 : True := trivial
    have tk2 : True := trivial
    have hbB : Below w.heap.size w ((w.alloc (.cells #[.int .i64 x, .int .i64 y] 24)).alloc (.cells #[.int .i64 u, .int .i64 v] 24)) := by go_grown
    have B0 := cell_later (show Below (w.alloc (.cells #[.int .i64 x, .int .i64 y] 24)).heap.size (w.alloc (.cells #[.int .i64 x, .int .i64 y] 24)) ((w.alloc (.cells #[.int .i64 x, .int .i64 y] 24)).alloc (.cells #[.int .i64 u, .int .i64 v] 24)) by go_grown) (box0 w x y 24)
    have B1 := cell_later (show Below (w.alloc (.cells #[.int .i64 x, .int .i64 y] 24)).heap.size (w.alloc (.cells #[.int .i64 x, .int .i64 y] 24)) ((w.alloc (.cells #[.int .i64 x, .int .i64 y] 24)).alloc (.cells #[.int .i64 u, .int .i64 v] 24)) by go_grown) (box1 w x y 24)
    have B2 := box0 (w.alloc (.cells #[.int .i64 x, .int .i64 y] 24)) u v 24
    have B3 := box1 (w.alloc (.cells #[.int .i64 x, .int .i64 y] 24)) u v 24
    simp only [World.size_alloc] at B2 B3
    go_enter Tryd.func8, Tryd.ntmps8
    go_upto_region 1 with fail
    generalize ((w.alloc (.cells #[.int .i64 x, .int .i64 y] 24)).alloc (.cells #[.int .i64 u, .int .i64 v] 24)) = wb at hbB B0 B1 B2 B3 ⊢
    go_wp2_with (go_at_call 10; refine (szPointS_c _ _ _ _ ?_ ?_ _).mono ?_; (omega); (omega); rintro e w' ⟨rfl, rfl⟩)
    go_region_held3 (fun z => z.cell? ⟨w.heap.size, 0, none⟩ = some (.int .i64 x) ∧ z.cell? ⟨w.heap.size, 1, none⟩ = some (.int .i64 y) ∧ z.cell? ⟨w.heap.size + 1, 0, none⟩ = some (.int .i64 u) ∧ z.cell? ⟨w.heap.size + 1, 1, none⟩ = some (.int .i64 v) ∧ Below w.heap.size w z) (first | exact keep4 (by with_reducible assumption) (by with_reducible assumption) | exact start4 (Below.refl _ _).drew B0 B1 B2 B3 hbB) (first
      | (go_at_call 12; refine (toPointS_e l _ _ _ _ hl h20 ((HA.out.later (fin4 (by with_reducible assumption))).mono (fin4 (by with_reducible assumption)).size)).mono ?_; rintro e w1 ⟨b1, rfl, hc1, hb1⟩; have ha1 := hc1.at)
      | (go_at_call 13; clear tk2; refine (toPoint_c _ _ _).mono ?_; rintro e w2 ⟨rfl, hb2⟩; have ha2 := (ha1.later hb2).mono hb2.size)
      | (go_at_call 13; refine (toPoint_c _ _ _).mono ?_; rintro e w2b ⟨rfl, hb2b⟩; have ha2b := (ha2.later hb2b).mono hb2b.size)
      | (go_at_call 30; refine (isTangentSpec_c l x y u v _ _ _ _ hl h20 ha2b).mono ?_; rintro e w3 ⟨rfl, hb3⟩))
    rename _ ∧ _ => hS
    obtain ⟨r0, r1, r2, r3, hb3'⟩ := hS
    have tk5 : True := trivial
    go_upto_region 7 with (go_at_call 12; clear tok2; refine (toPointS_e l _ _ _ _ hl h20 ((HA.out.later hb3').mono hb3'.size)).mono ?_; rintro e w4 ⟨b4, rfl, hc4, hb4⟩; have ha4 := hc4.at; have hb4' := grew hb3' hb4; have s0 := cell_later hb4 r0; have s1 := cell_later hb4 r1; have s2 := cell_later hb4 r2; have s3 := cell_later hb4 r3; clear hc4)
    go_region_held3 (fun z => z.cell? ⟨w.heap.size, 0, none⟩ = some (.int .i64 x) ∧ z.cell? ⟨w.heap.size, 1, none⟩ = some (.int .i64 y) ∧ z.cell? ⟨w.heap.size + 1, 0, none⟩ = some (.int .i64 u) ∧ z.cell? ⟨w.heap.size + 1, 1, none⟩ = some (.int .i64 v) ∧ Below w4.heap.size w4 z) (first | exact keep4 (by with_reducible assumption) (by with_reducible assumption) | exact start4 (Below.refl _ _).drew s0 s1 s2 s3 (Below.refl _ _)) (first
      | (go_at_call 13; refine (toPoint_c _ _ _).mono ?_; rintro e w5 ⟨rfl, hb5⟩)
      | (go_at_call 31; refine (isTangentImpl_c l x y u v _ _ _ _ hl h20 ((ha4.later (fin4 (by with_reducible assumption))).mono (fin4 (by with_reducible assumption)).size) (cell_later (grew hb4' (fin4 (by with_reducible assumption))) C0.out)).mono ?_; rintro e w6 ⟨rfl, hb6⟩))
    rename _ ∧ _ => hS
    have hB6 := hid hS.2.2.2.2
    clear hS
    have hb6' := grew hb4' hB6.out
    have ha6 := (ha4.later hB6.out).mono hB6.out.size
    go_wp2_with (first
      | (go_at_call 12; refine (toPointS_e l _ _ _ _ hl h20 ((HA.out.later hb6').mono hb6'.size)).mono ?_; rintro e w7 ⟨b7, rfl, hc7, hb7⟩; have ha7 := hc7.at; have hb7' := grew hb6' hb7; have ha67 := (ha6.later hb7).mono hb7.size; clear hc7)
      | (go_at_call 16; refine (eqPointS_c l l _ _ _ _ _ _ _ hl hl h20 h20 ha67 ha7).mono ?_; rintro e w8 ⟨rfl, hb8⟩))
    all_goals go_ret
    all_goals exact ⟨rfl, grew hb7' hb8⟩
  · have hn : (1048576 : Int) < (len : Int) := by omega
    go_enter Tryd.func8, Tryd.ntmps8
    go_wp2_with (go_at_call 10; refine (szPointS_f _ _ _ _ ?_ ?_ hm _).mono ?_; (omega); (omega); rintro e w' ⟨rfl, rfl⟩)
    go_ret
    exact ⟨rfl, by go_grown⟩
end Go.Proofs.YtegmlemejmahiaaDoor.fnExactIsTangent
