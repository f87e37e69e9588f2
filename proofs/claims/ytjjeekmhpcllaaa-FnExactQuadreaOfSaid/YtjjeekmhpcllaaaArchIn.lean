/-
  The numbers of Archimedes of three numbers that are in their range.
-/
import Derived.Test.YtjjeekmhpcllaaaIArchimedesOf
namespace Go.Proofs.Ytjjeekmhpcllaaa
open Go.RowKit

def arcO (p a b c : Int) : Int := ((a + b + c) * (a + b + c) - 2 * (a * a + b * b + c * c)) % p
theorem arcO_r {p : Int} (a b c : Int) (h : isP p = true) : 0 ≤ arcO p a b c ∧ arcO p a b c < p := modR _ h
theorem specArchIn (p a b c : Int) (w : World) (hp : isP p = true) (ha : 0 ≤ a ∧ a ≤ 31) (hb : 0 ≤ b ∧ b ≤ 31) (hc : 0 ≤ c ∧ c ≤ 31) :
    Calls Try.prog 91 #[.int .i64 p, .int .i64 a, .int .i64 b, .int .i64 c] w fun e w' => e = .returned (.int .i64 (arcO p a b c)) ∧ w = w' := specArch_any p a b c w hp ha hb hc
theorem implArchIn (p a b c : Int) (w : World) (hp : isP p = true) (ha : 0 ≤ a ∧ a < p) (hb : 0 ≤ b ∧ b < p) (hc : 0 ≤ c ∧ c < p) :
    Calls Try.prog 55 #[.int .i64 p, .int .i64 a, .int .i64 b, .int .i64 c] w fun e w' => e = .returned (.tuple #[.int .i64 (arcO p a b c), .int .i64 0]) ∧ Below w.heap.size w w' := by
  have hn : numsIn p [a, b, c] = true := by rw [numsIn3, inB_true (by omega), inB_true (by omega), inB_true (by omega)]; rfl
  have h := ao_good (codeOf_in hp hn)
  refine Calls.mono (implArchimedesOf_any p a b c w) ?_
  rintro e w' ⟨rfl, hB⟩
  refine ⟨?_, hB⟩
  rw [aoR, h.1, h.2]; rfl

end Go.Proofs.Ytjjeekmhpcllaaa
