/-
  laws.FnRightAngles: the whole walk.
-/
import Derived.Test.YtodabjolblamgaaLawRightAngles
namespace Go.Proofs.Ytodabjolblamgaa
open Go.RowKit
theorem fnRightAngles_walk (a : Option Addr) (m c : Nat) (w : World) (_hm : m ≤ 9223372036854775807) (hc : m ≤ 4096 → CodeAt w w.heap.size a m) :
    Calls Try.prog 4 #[.slice a m c] w fun e w' => e = .returned (.bool true) ∧ Below w.heap.size w w' := by
  by_cases h : m ≤ 4096
  · exact fnRightAngles_dc (hc h) h
  · go_enter Try.func4, Try.ntmps4
    (go_wp2_with fail; refine Calls.mono (big_large h _) ?_; rintro e w' ⟨rfl, rfl⟩)
    go_wp2
    (refine bodyPost_ret (v := .bool true) (by simp [results, Try.results4, go_sem, *]) rfl ⟨rfl, Below.refl _ _⟩)

end Go.Proofs.Ytodabjolblamgaa
