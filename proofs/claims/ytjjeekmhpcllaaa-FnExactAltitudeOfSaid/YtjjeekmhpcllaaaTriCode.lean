/-
  The code of a prime, a check and a triangle; no program.
-/
import Derived.Test.YtjjeekmhpcllaaaTriVals
namespace Go.Proofs.Ytjjeekmhpcllaaa
open Go.RowKit

def tcC (p : Int) (r : Bool) (a1 a2 b1 b2 c1 c2 : Int) : Int := if isP p = true then (if (r && numsIn p [a1, a2, b1, b2, c1, c2]) = true then (if (area p a1 a2 b1 b2 c1 c2 == 0) = true then 5 else 0) else 2) else 1
theorem colB0 : colB 0 = true := rfl

end Go.Proofs.Ytjjeekmhpcllaaa
