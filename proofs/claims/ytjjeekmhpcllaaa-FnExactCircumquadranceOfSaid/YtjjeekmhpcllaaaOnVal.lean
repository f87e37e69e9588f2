/-
  Whether a point is on a line; no program.
-/
import Derived.Test.YtjjeekmhpcllaaaMath
namespace Go.Proofs.Ytjjeekmhpcllaaa

/-- Whether the point is on the line. -/
def onB (p a1 a2 l1 l2 l3 : Int) : Bool := (l1 * a1 + l2 * a2 + l3) % p == 0

end Go.Proofs.Ytjjeekmhpcllaaa
