/-
  The last statement of a block or a round: what follows gets a name, so that the walk can be cut there; and a name for the world.
-/
import Derived.LoopN
import Derived.Test.YtodabjolblamgaaBaseMath
namespace Go.Proofs.Ytodabjolblamgaa
open Go.RowKit

theorem wp_last {P : Program} {c : Code} {Q : Exit → Act → World → Prop} {a : Act} {w : World}
    (h : ∀ K : Act → World → Prop, (∀ a w, Q .normal a w → K a w) → c.wp P (Exit.then K Q) a w) : c.wp P Q a w :=
  wp_mono (h (fun a w => Q .normal a w) (fun _ _ h => h)) (by intro e a w hq; cases e <;> exact hq)

theorem wp_name {P : Program} {c : Code} {Q : Exit → Act → World → Prop} {a : Act} {w : World} (h : ∀ W : World, W = w → c.wp P Q a W) : c.wp P Q a w := h w rfl

theorem brealloc2 {a W : World} {o1 o1' o2 o2' : Obj} (hB : a.heap.size ≤ W.heap.size) (h : Below a.heap.size a ((W.alloc o1).alloc o2)) : Below a.heap.size a ((W.alloc o1').alloc o2') :=
  balloc (brealloc hB (bback (Nat.le_trans hB (by simp)) h)) o2'

end Go.Proofs.Ytodabjolblamgaa
