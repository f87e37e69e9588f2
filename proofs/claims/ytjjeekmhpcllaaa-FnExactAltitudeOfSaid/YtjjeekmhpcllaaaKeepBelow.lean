/-
  A world that is below as it was: what keeps it so; no program.
-/
import Derived.Test.YtjjeekmhpcllaaaMath
namespace Go.Proofs.Ytjjeekmhpcllaaa
open Go.RowKit

theorem bundrew {B : Nat} {a W : World} (h : Below B a W.drew) : Below B a W := ⟨h.os, h.tape, h.output, h.size, h.block⟩
theorem bback {a W : World} {o : Obj} (hB : a.heap.size ≤ W.heap.size) (h : Below a.heap.size a (W.alloc o)) : Below a.heap.size a W :=
  ⟨h.os, h.tape, h.output, hB, fun k hk => by rw [← h.block k hk, Below.heap_alloc _ _ _ (by omega)]⟩
theorem brealloc {a W : World} {o o' : Obj} (hB : a.heap.size ≤ W.heap.size) (h : Below a.heap.size a (W.alloc o)) : Below a.heap.size a (W.alloc o') := (bback hB h).alloc hB o'
/-- What a cell below holds. -/
theorem bholds {a W : World} {b j : Nat} {v : Value} (h : a.cell? ⟨b, j, none⟩ = some v) (hB : Below a.heap.size a W) : W.cell? ⟨b, j, none⟩ = some v := kcall hB h

end Go.Proofs.Ytjjeekmhpcllaaa
