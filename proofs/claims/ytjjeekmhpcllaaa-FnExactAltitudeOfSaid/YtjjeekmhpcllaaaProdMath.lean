/-
  Products and quadrances by colour; no program.
-/
import Derived.Test.YtjjeekmhpcllaaaLineVals
import Derived.Test.YtjjeekmhpcllaaaColMath
namespace Go.Proofs.Ytjjeekmhpcllaaa
open Go.RowKit

/-- The product of two points by a colour. -/
def prd (p c a1 a2 b1 b2 : Int) : Int := (if c = 0 then a1 * b1 + a2 * b2 else if c = 1 then a1 * b1 - a2 * b2 else a1 * b2 + a2 * b1) % p
theorem prd_0 (p a1 a2 b1 b2 : Int) : prd p 0 a1 a2 b1 b2 = (a1 * b1 + a2 * b2) % p := rfl
theorem prd_1 (p a1 a2 b1 b2 : Int) : prd p 1 a1 a2 b1 b2 = (a1 * b1 - a2 * b2) % p := rfl
theorem prd_2 (p a1 a2 b1 b2 : Int) : prd p 2 a1 a2 b1 b2 = (a1 * b2 + a2 * b1) % p := rfl
theorem prd_r (c a1 a2 b1 b2 : Int) {p : Int} (h : isP p = true) : 0 ≤ prd p c a1 a2 b1 b2 ∧ prd p c a1 a2 b1 b2 ≤ 31 := modR31 _ h
theorem prd_lt (c a1 a2 b1 b2 : Int) {p : Int} (h : isP p = true) : 0 ≤ prd p c a1 a2 b1 b2 ∧ prd p c a1 a2 b1 b2 < p := modR _ h
/-- The quadrance of two points by a colour. -/
def qdr (p c a1 a2 b1 b2 : Int) : Int := prd p c ((b1 - a1) % p) ((b2 - a2) % p) ((b1 - a1) % p) ((b2 - a2) % p)
/-- Whether two directions are perpendicular. -/
def perpB (p c l1 l2 m1 m2 : Int) : Bool := prd p c (-l2 % p) l1 (-m2 % p) m1 == 0

end Go.Proofs.Ytjjeekmhpcllaaa
