/-
  The codes of functions that take a move; no program.
-/
import Derived.Test.YthfckpfiechloaaMoveMath
namespace Go.Proofs.Ythfckpfiechloaa
open Go.RowKit

def mvCb (b : Bool) (p c m1 m2 m3 m4 m5 m6 : Int) : Int := if isP p = true then (if (b && (colB c && numsIn p [m1, m2, m3, m4, m5, m6])) = true then (if mvB p c m1 m2 m3 m4 = true then 0 else 5) else 2) else 1

end Go.Proofs.Ythfckpfiechloaa
