/-
  ParabolaOf: its values.
-/
import Derived.Test.YtijmmagdkbnhdaaParMath
import Derived.Test.YtijmmagdkbnhdaaBaseMath
namespace Go.Proofs.Ytijmmagdkbnhdaa
open Go.RowKit

set_option linter.unusedVariables false in
def paB (p col a1 a2 l1 l2 l3 : Int) : Bool := colB col && (numsIn p [a1, a2] && lineB p l1 l2 l3)
set_option linter.unusedVariables false in
def paS (p col a1 a2 l1 l2 l3 : Int) : Int := if perpB p col l1 l2 l1 l2 = true then 5 else 0
set_option linter.unusedVariables false in
def paC (p col a1 a2 l1 l2 l3 : Int) : Int := if isP p = true then (if paB p col a1 a2 l1 l2 l3 = true then paS p col a1 a2 l1 l2 l3 else 2) else 1
set_option linter.unusedVariables false in
def paW1 (p col a1 a2 l1 l2 l3 : Int) : Int := if paC p col a1 a2 l1 l2 l3 = 0 then pa1 p col a1 a2 l1 l2 l3 else 0
set_option linter.unusedVariables false in
def paW2 (p col a1 a2 l1 l2 l3 : Int) : Int := if paC p col a1 a2 l1 l2 l3 = 0 then pa2 p col a1 a2 l1 l2 l3 else 0
set_option linter.unusedVariables false in
def paW3 (p col a1 a2 l1 l2 l3 : Int) : Int := if paC p col a1 a2 l1 l2 l3 = 0 then pa3 p col a1 a2 l1 l2 l3 else 0
set_option linter.unusedVariables false in
def paW4 (p col a1 a2 l1 l2 l3 : Int) : Int := if paC p col a1 a2 l1 l2 l3 = 0 then pa4 p col a1 a2 l1 l2 l3 else 0
set_option linter.unusedVariables false in
def paW5 (p col a1 a2 l1 l2 l3 : Int) : Int := if paC p col a1 a2 l1 l2 l3 = 0 then pa5 p col a1 a2 l1 l2 l3 else 0
set_option linter.unusedVariables false in
def paW6 (p col a1 a2 l1 l2 l3 : Int) : Int := if paC p col a1 a2 l1 l2 l3 = 0 then pa6 p col a1 a2 l1 l2 l3 else 0
theorem pa_zero {p col a1 a2 l1 l2 l3 k : Int} (h : paC p col a1 a2 l1 l2 l3 = k) (hk : k ≠ 0) : paW1 p col a1 a2 l1 l2 l3 = 0 ∧ paW2 p col a1 a2 l1 l2 l3 = 0 ∧ paW3 p col a1 a2 l1 l2 l3 = 0 ∧ paW4 p col a1 a2 l1 l2 l3 = 0 ∧ paW5 p col a1 a2 l1 l2 l3 = 0 ∧ paW6 p col a1 a2 l1 l2 l3 = 0 ∧ paC p col a1 a2 l1 l2 l3 = k := by
  have hn : ¬ (paC p col a1 a2 l1 l2 l3 = 0) := fun e => hk (h.symm.trans e)
  exact ⟨if_neg hn, if_neg hn, if_neg hn, if_neg hn, if_neg hn, if_neg hn, h⟩
theorem pa_no {p col a1 a2 l1 l2 l3 : Int} (h : isP p = false) : paW1 p col a1 a2 l1 l2 l3 = 0 ∧ paW2 p col a1 a2 l1 l2 l3 = 0 ∧ paW3 p col a1 a2 l1 l2 l3 = 0 ∧ paW4 p col a1 a2 l1 l2 l3 = 0 ∧ paW5 p col a1 a2 l1 l2 l3 = 0 ∧ paW6 p col a1 a2 l1 l2 l3 = 0 ∧ paC p col a1 a2 l1 l2 l3 = 1 := pa_zero (by simp [paC, h]) (by decide)
theorem pa_out {p col a1 a2 l1 l2 l3 : Int} (hp : isP p = true) (h : paB p col a1 a2 l1 l2 l3 = false) : paW1 p col a1 a2 l1 l2 l3 = 0 ∧ paW2 p col a1 a2 l1 l2 l3 = 0 ∧ paW3 p col a1 a2 l1 l2 l3 = 0 ∧ paW4 p col a1 a2 l1 l2 l3 = 0 ∧ paW5 p col a1 a2 l1 l2 l3 = 0 ∧ paW6 p col a1 a2 l1 l2 l3 = 0 ∧ paC p col a1 a2 l1 l2 l3 = 2 := pa_zero (by simp [paC, hp, h]) (by decide)
theorem pa_st {p col a1 a2 l1 l2 l3 k : Int} (hp : isP p = true) (h : paB p col a1 a2 l1 l2 l3 = true) (hs : paS p col a1 a2 l1 l2 l3 = k) (hk : k ≠ 0) : paW1 p col a1 a2 l1 l2 l3 = 0 ∧ paW2 p col a1 a2 l1 l2 l3 = 0 ∧ paW3 p col a1 a2 l1 l2 l3 = 0 ∧ paW4 p col a1 a2 l1 l2 l3 = 0 ∧ paW5 p col a1 a2 l1 l2 l3 = 0 ∧ paW6 p col a1 a2 l1 l2 l3 = 0 ∧ paC p col a1 a2 l1 l2 l3 = k := pa_zero (by simp [paC, hp, h, hs]) hk
theorem pa_good {p col a1 a2 l1 l2 l3 : Int} (hp : isP p = true) (h : paB p col a1 a2 l1 l2 l3 = true) (hs : paS p col a1 a2 l1 l2 l3 = 0) : paW1 p col a1 a2 l1 l2 l3 = pa1 p col a1 a2 l1 l2 l3 ∧ paW2 p col a1 a2 l1 l2 l3 = pa2 p col a1 a2 l1 l2 l3 ∧ paW3 p col a1 a2 l1 l2 l3 = pa3 p col a1 a2 l1 l2 l3 ∧ paW4 p col a1 a2 l1 l2 l3 = pa4 p col a1 a2 l1 l2 l3 ∧ paW5 p col a1 a2 l1 l2 l3 = pa5 p col a1 a2 l1 l2 l3 ∧ paW6 p col a1 a2 l1 l2 l3 = pa6 p col a1 a2 l1 l2 l3 ∧ paC p col a1 a2 l1 l2 l3 = 0 := by
  have h' : paC p col a1 a2 l1 l2 l3 = 0 := by simp [paC, hp, h, hs]
  exact ⟨if_pos h', if_pos h', if_pos h', if_pos h', if_pos h', if_pos h', h'⟩

end Go.Proofs.Ytijmmagdkbnhdaa
