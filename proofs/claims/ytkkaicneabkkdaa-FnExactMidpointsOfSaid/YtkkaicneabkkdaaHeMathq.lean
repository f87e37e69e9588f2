/-
  Equal quadrances; no program.
-/
import Derived.Test.YtkkaicneabkkdaaMgq0

namespace Go.Proofs.Ytkkaicneabkkdaa
open Go.RowKit

/-- Whether two quadrances are told and equal, by the program. -/
def heB (p m1 m2 m3 a1 a2 a3 b1 b2 b3 : Int) : Bool := if quZ p m1 m2 m3 a1 a2 a3 = true then false else if quZ p m1 m2 m3 b1 b2 b3 = true then plq p m1 m2 m3 a1 a2 a3 == 0 else plq p m1 m2 m3 a1 a2 a3 == plq p m1 m2 m3 b1 b2 b3
/-- The same, by the model. -/
def meB (p m1 m2 m3 a1 a2 a3 b1 b2 b3 : Int) : Bool := !(ppd p m1 m2 m3 m1 m2 m3 == 0) && plq p a1 a2 a3 m1 m2 m3 == plq p b1 b2 b3 m1 m2 m3
set_option linter.unusedSimpArgs false in
theorem plq_comm (p x1 x2 x3 y1 y2 y3 : Int) : plq p x1 x2 x3 y1 y2 y3 = plq p y1 y2 y3 x1 x2 x3 := by
  unfold plq; rw [ppd_comm p x1 x2 x3 y1 y2 y3, Int.mul_comm (ppd p x1 x2 x3 x1 x2 x3)]
set_option linter.unusedSimpArgs false in
theorem heB_meB {p a1 a2 a3 b1 b2 b3 : Int} (ha : (ppd p a1 a2 a3 a1 a2 a3 == 0) = false) (hb : (ppd p b1 b2 b3 b1 b2 b3 == 0) = false) (m1 m2 m3 : Int) : heB p m1 m2 m3 a1 a2 a3 b1 b2 b3 = meB p m1 m2 m3 a1 a2 a3 b1 b2 b3 := by
  unfold heB meB quZ
  rw [ha, hb, plq_comm p a1 a2 a3, plq_comm p b1 b2 b3]
  cases (ppd p m1 m2 m3 m1 m2 m3 == 0) <;> simp

end Go.Proofs.Ytkkaicneabkkdaa
