/-
  laws.big, and what the named laws share.
-/
import Derived.Test.YtodabjolblamgaaDrawS
import Derived.Test.YtodabjolblamgaaLast
import Derived.Test.YtodabjolblamgaaPtCells
import Derived.Test.YtodabjolblamgaaBaseMath
import Derived.Deep.RegionHeld3
import Derived.Deep.DeepCutAuto
namespace Go.Proofs.Ytodabjolblamgaa
open Go.RowKit

set_option maxRecDepth 20000 in
set_option maxHeartbeats 1000000 in
theorem big_small {m c : Nat} {a : Option Addr} (hm : m ≤ 4096) (w : World) :
    Calls Try.prog 7 #[.slice a m c] w fun e w' => e = .returned (.bool false) ∧ w = w' := by
  have h : decide ((4096 : Int) < m) = false := decide_eq_false (by omega)
  go_enter Try.func7, Try.ntmps7
  go_wp2
  (refine bodyPost_ret (v := .bool (decide ((4096 : Int) < m))) (by simp [results, Try.results7, go_sem, *]) rfl ⟨by rw [h], rfl⟩)
set_option maxRecDepth 20000 in
set_option maxHeartbeats 1000000 in
theorem big_large {m c : Nat} {a : Option Addr} (hm : ¬ m ≤ 4096) (w : World) :
    Calls Try.prog 7 #[.slice a m c] w fun e w' => e = .returned (.bool true) ∧ w = w' := by
  have h : decide ((4096 : Int) < m) = true := decide_eq_true (by omega)
  go_enter Try.func7, Try.ntmps7
  go_wp2
  (refine bodyPost_ret (v := .bool (decide ((4096 : Int) < m))) (by simp [results, Try.results7, go_sem, *]) rfl ⟨by rw [h], rfl⟩)

theorem tmod0 {x p : Int} (h : x % p = 0) : (x.tmod p == 0) = true := beq_iff_eq.2 (Int.tmod_eq_zero_of_dvd (Int.dvd_of_emod_eq_zero h))
theorem tmod0_iff {x p : Int} : (x.tmod p == 0) = (x % p == 0) := by
  apply Bool.eq_iff_iff.2
  rw [beq_iff_eq, beq_iff_eq, ← Int.dvd_iff_tmod_eq_zero, ← Int.dvd_iff_emod_eq_zero]
theorem code0 {p : Int} {b : Bool} : codeOf p b = 0 ↔ isP p = true ∧ b = true := by
  unfold codeOf; cases isP p <;> cases b <;> simp
theorem sz_le {m : Nat} (h : m ≤ 4096) : m ≤ 9223372036854775807 := by omega

end Go.Proofs.Ytodabjolblamgaa
