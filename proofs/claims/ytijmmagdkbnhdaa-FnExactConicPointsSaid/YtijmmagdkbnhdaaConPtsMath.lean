/-
  The points of a conic, in order: their row; no program.
-/
import Derived.Test.YtijmmagdkbnhdaaConMath
import Derived.Test.YtijmmagdkbnhdaaFixMath
namespace Go.Proofs.Ytijmmagdkbnhdaa
open Go.RowKit

def onC (p m1 m2 m3 m4 m5 m6 x y : Int) : Bool := cvl p m1 m2 m3 m4 m5 m6 x y == 0
def cpR (p m1 m2 m3 m4 m5 m6 : Int) : List (Int × Int) := gridL (fun x y => onC p m1 m2 m3 m4 m5 m6 x y) p.toNat p.toNat

end Go.Proofs.Ytijmmagdkbnhdaa
