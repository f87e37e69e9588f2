/-
  A slice of three or more taken as an array of three.
-/
import Derived.Test.YtkkaicneabkkdaaRows
import Derived.Test.YtkkaicneabkkdaaMgq0

namespace Go.Proofs.Ytkkaicneabkkdaa
open Go.RowKit

theorem arrayAt3 {P : Program} {t e : TypeId} (h : P.underlying t = some (.array 3 e)) (a : Addr) (c : Nat) (w : World) : (Instr.arrayAt t (.slice (some a) 3 c)).run P w = .ok (.pointer (some a)) w := by
  simp [Instr.arrayAt, run_underlying h]

end Go.Proofs.Ytkkaicneabkkdaa
