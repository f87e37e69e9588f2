/-
  Points that a map keeps: their row; no program.
-/
import Derived.Test.YtijmmagdkbnhdaaMoveMath
import Derived.Test.YtijmmagdkbnhdaaSeqAll
import Derived.Test.YtijmmagdkbnhdaaSetMath
namespace Go.Proofs.Ytijmmagdkbnhdaa
open Go.RowKit

def fixB (p m1 m2 m3 m4 m5 m6 x y : Int) : Bool := mv p m1 m2 m5 x y == x && mv p m3 m4 m6 x y == y
/-- The points that a map keeps, in order. -/
def fxL (p m1 m2 m3 m4 m5 m6 : Int) : List (Int × Int) := gridL (fun x y => fixB p m1 m2 m3 m4 m5 m6 x y) p.toNat p.toNat
def flF (f : Int → Int → Bool) (L : List Pt32) : List (Int × Int) := (L.map toP).filter fun x => f x.1 x.2
theorem flF_yes (f : Int → Int → Bool) (L : List Pt32) {x : Pt32} (h : f (toP x).1 (toP x).2 = true) : flF f (L ++ [x]) = flF f L ++ [toP x] := by simp [flF, h]
theorem flF_no (f : Int → Int → Bool) (L : List Pt32) {x : Pt32} (h : f (toP x).1 (toP x).2 = false) : flF f (L ++ [x]) = flF f L := by simp [flF, h]
theorem flF_le (f : Int → Int → Bool) (L : List Pt32) : (flF f L).length ≤ L.length := by
  have := List.length_filter_le (fun x => f x.1 x.2) (L.map toP)
  simpa [flF] using this
theorem flF_all (f : Int → Int → Bool) {m : Nat} (hm : m ≤ 32) : flF f (allF m m 0) = gridL f m m := by
  rw [flF, allF_back hm hm]
  exact (grid_filter f m m).symm

end Go.Proofs.Ytijmmagdkbnhdaa
