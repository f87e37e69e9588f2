/-
  Two tests sift a grid in either order; the first two points of a line are in their range; no program.
-/
import Derived.Test.YtcebhcamegdmaaaBtw
import Derived.Test.YtcebhcamegdmaaaSetMath
namespace Go.Proofs.Ytcebhcamegdmaaa
open Go.RowKit

theorem filter_comm {α : Type} (f g : α → Bool) (xs : List α) : (xs.filter f).filter g = (xs.filter g).filter f := by
  rw [List.filter_filter, List.filter_filter]
  exact List.filter_congr fun x _ => Bool.and_comm _ _
theorem sift_both (f g : Int → Int → Bool) (m : Nat) : (gridL f m m).filter (fun x => g x.1 x.2) = (gridL g m m).filter (fun x => f x.1 x.2) := by
  rw [grid_filter f, grid_filter g, filter_comm]
theorem sq_rF {p l1 l2 l3 : Int} (hp : isP p = true) : (0 ≤ sqS1 p l1 l2 l3 ∧ sqS1 p l1 l2 l3 ≤ 31) ∧ (0 ≤ sqS2 p l1 l2 l3 ∧ sqS2 p l1 l2 l3 ≤ 31) ∧ (0 ≤ sqN1 p l1 l2 l3 ∧ sqN1 p l1 l2 l3 ≤ 31) ∧ (0 ≤ sqN2 p l1 l2 l3 ∧ sqN2 p l1 l2 l3 ≤ 31) := by
  have h1 := modR31 (-l3) hp
  have h2 := modR31 (-l3 * inv p l2) hp
  have h3 := modR31 (-(l1 + l3) * inv p l2) hp
  unfold sqS1 sqS2 sqN1 sqN2
  cases h : (l2 == 0) <;> simp <;> omega

end Go.Proofs.Ytcebhcamegdmaaa
