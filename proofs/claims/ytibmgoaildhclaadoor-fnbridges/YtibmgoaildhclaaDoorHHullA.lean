/-
  Hulls of sets, in the specification and in the program (contracts for the walks).
  Conditions: as each theorem states them.
-/
import Derived.Test.YtibmgoaildhclaaDoorB2
namespace Go.Proofs.YtibmgoaildhclaaDoor
open Go.RowKit Go.Shelf
set_option linter.unusedVariables false
set_option maxRecDepth 8000
def hulL (l : List (Int × Int)) : List (Int × Int) := if goodL l then hullB slB l else []
theorem hulL_len (l : List (Int × Int)) (h : l.length ≤ 1048576) : (hulL l).length ≤ 1048576 := by
  unfold hulL
  split
  · rename_i hG
    have h1 := goodL_few hG
    have h2 := hullB_len (t := slB) l
    omega
  · simp
theorem chainB_short {t : Int × Int → Int × Int → Int × Int → Bool} {l : List (Int × Int)} (h : l.length < 2) : chainB t l = l := by
  match l, h with
  | [], _ => rfl
  | [p], _ => rfl
theorem cells_at {N b off : Nat} {l : List (Int × Int)} {w : World} (hA : At N (some ⟨b, off, none⟩) l w) : ∀ j u, (cells l)[j]? = some u → w.cell? ((⟨b, off, none⟩ : Addr).add j) = some u := by
  intro j u hu
  have := cells_pre hA (k := l.length) (ao := some ⟨b, off, none⟩) (fun _ => rfl) _ rfl j u
  rw [List.take_length] at this
  exact this hu
theorem At.dropLast {N : Nat} {a : Option Addr} {l : List (Int × Int)} {w : World} (h : At N a l w) : At N a l.dropLast w := fun i hi => by
  rw [List.length_dropLast] at hi
  obtain ⟨b, off, e, hb, h0, h1⟩ := h i (by omega)
  have hil : i < l.length := by omega
  refine ⟨b, off, e, hb, ?_, ?_⟩
  · rw [h0]; simp [px, hi, hil]
  · rw [h1]; simp [py, hi, hil]
theorem OwnC.some {N n cap : Nat} {a : Option Addr} {l : List (Int × Int)} {w : World} (h : OwnC N (.slice a n cap) l w) (hn : 0 < l.length) : ∃ g, a = some ⟨g, 0, none⟩ := by
  rcases h with ⟨rfl, e⟩ | ⟨g, c, M, f, e, _⟩
  · simp at hn
  · simp at e; exact ⟨g, e.1⟩
end Go.Proofs.YtibmgoaildhclaaDoor
