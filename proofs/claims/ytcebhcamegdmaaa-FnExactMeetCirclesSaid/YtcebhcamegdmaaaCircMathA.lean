/-
  Circles: their numbers; no program.
-/
import Derived.Test.YtcebhcamegdmaaaBaseMath
import Derived.LoopN
namespace Go.Proofs.Ytcebhcamegdmaaa
open Go.RowKit

theorem calloc {W : World} {b j : Nat} (o : Obj) (h : b < W.heap.size) : (W.alloc o).cell? ⟨b, j, none⟩ = W.cell? ⟨b, j, none⟩ := World.cell?_of_block (Below.heap_alloc W o b h)
theorem numsIn1 (p c : Int) : numsIn p [c] = inB c 0 (p - 1) := by simp [numsIn]
theorem numsApp21 (p a b c : Int) : numsIn p [a, b, c] = (numsIn p [a, b] && numsIn p [c]) := by
  simp [numsIn, Bool.and_assoc]

end Go.Proofs.Ytcebhcamegdmaaa
