/-
  impl.solve at the rows of three places.
-/
import Derived.Test.YtkkaicneabkkdaaSolve
import Derived.Test.YtkkaicneabkkdaaInLine
namespace Go.Proofs.Ytkkaicneabkkdaa
open Go.RowKit

set_option linter.unusedSimpArgs false in
theorem pl_num {p a1 a2 a3 : Int} (hp : isP p = true) (ha : plB p a1 a2 a3 = true) : (0 ≤ a1 ∧ a1 < p) ∧ (0 ≤ a2 ∧ a2 < p) ∧ (0 ≤ -a3 % p ∧ -a3 % p < p) := ⟨(plB_rng ha).1, (plB_rng ha).2.1, modR _ hp⟩
set_option linter.unusedSimpArgs false in
theorem solveLine_any (p a1 a2 a3 b1 b2 b3 c1 c2 c3 : Int) (R B cap : Nat) (w : World) (hp : isP p = true) (ha : plB p a1 a2 a3 = true) (hb : plB p b1 b2 b3 = true) (hc : plB p c1 c2 c3 = true) (hcap : 3 ≤ cap)
    (hL : LayM w R B 3 3 (fun i => i * 3) (fun i j => ([a1, a2, -a3 % p, b1, b2, -b3 % p, c1, c2, -c3 % p] : List Int).getD (i * 3 + j) 0)) :
    Calls Try.prog 39 #[.int .i64 p, .slice (some ⟨R, 0, none⟩) 3 cap] w fun e w' => ∃ (la : Option Addr) (r lc : Nat), e = .returned (.slice la r lc) ∧ decide (r < 3) = ilB p a1 a2 a3 b1 b2 b3 c1 c2 c3 ∧ r ≤ 3 ∧ Apart2 R B w w' := by
  obtain ⟨n, rfl⟩ := Int.eq_ofNat_of_zero_le (by have := isP_range hp; omega : 0 ≤ p)
  haveI := neZero_of hp
  obtain ⟨qa1, qa2, qa3⟩ := pl_num hp ha
  obtain ⟨qb1, qb2, qb3⟩ := pl_num hp hb
  obtain ⟨qc1, qc2, qc3⟩ := pl_num hp hc
  refine Calls.mono (solve_any n 3 3 R B cap _ _ w hp hL (by decide) (by decide) (by decide) (by decide) hcap (fun i j hi hj => ?_)) ?_
  · have h1 : i = 0 ∨ i = 1 ∨ i = 2 := by omega
    have h2 : j = 0 ∨ j = 1 ∨ j = 2 := by omega
    rcases h1 with rfl | rfl | rfl <;> rcases h2 with rfl | rfl | rfl <;> first | exact qa1 | exact qa2 | exact qa3 | exact qb1 | exact qb2 | exact qb3 | exact qc1 | exact qc2 | exact qc3
  · rintro e w' ⟨la, r, lc, L, o, M, rfl, hM⟩
    exact ⟨la, r, lc, rfl, inLine_rank hp ha hb hc rfl hM.rrf hM.sol, hM.rrf.rN, hM.apt⟩

end Go.Proofs.Ytkkaicneabkkdaa
