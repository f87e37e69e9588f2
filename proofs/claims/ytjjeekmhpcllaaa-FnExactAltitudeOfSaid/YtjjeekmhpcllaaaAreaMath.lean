/-
  Doubled areas; no program.
-/
import Derived.Test.YtjjeekmhpcllaaaLineVals
namespace Go.Proofs.Ytjjeekmhpcllaaa
open Go.RowKit

def area (p a1 a2 b1 b2 c1 c2 : Int) : Int := ((b1 - a1) * (c2 - a2) - (b2 - a2) * (c1 - a1)) % p
theorem area_impl {p : Int} (a1 a2 b1 b2 c1 c2 : Int) (hp : isP p = true) :
    ((b1 - a1) % p * ((c2 - a2) % p) - (b2 - a2) % p * ((c1 - a1) % p)) % p = area p a1 a2 b1 b2 c1 c2 := by
  obtain ⟨n, rfl⟩ := Int.eq_ofNat_of_zero_le (by have := isP_range hp; omega : 0 ≤ p)
  haveI := neZero_of hp
  rw [area, ← K_ext]
  simp only [K_sub, K_mul, K_mod]

end Go.Proofs.Ytjjeekmhpcllaaa
