/-
  impl.LineOf at numbers in range.
-/
import Derived.Test.YtijmmagdkbnhdaaILineOf
namespace Go.Proofs.Ytijmmagdkbnhdaa
open Go.RowKit

def lnC (a b : Int) : Int := if (a == 0 && b == 0) = true then 5 else 0
def ln1 (p a b c : Int) : Int := if (a == 0 && b == 0) = true then 0 else mk1 p a b c
def ln2 (p a b c : Int) : Int := if (a == 0 && b == 0) = true then 0 else mk2 p a b c
def ln3 (p a b c : Int) : Int := if (a == 0 && b == 0) = true then 0 else mk3 p a b c
set_option linter.unusedSimpArgs false in
theorem implLineIn (p a b c : Int) (w : World) (hp : isP p = true) (ha : 0 ≤ a ∧ a < p) (hb : 0 ≤ b ∧ b < p) (hc : 0 ≤ c ∧ c < p) :
    Calls Try.prog 90 #[.int .i64 p, .int .i64 a, .int .i64 b, .int .i64 c] w fun e w' => e = .returned (.tuple #[.agg #[.int .i64 (ln1 p a b c), .int .i64 (ln2 p a b c), .int .i64 (ln3 p a b c)], .int .i64 (lnC a b)]) ∧ Below w.heap.size w w' := by
  have hn : numsIn p [a, b, c] = true := by simp [numsIn, inB]; omega
  have hco := codeOf_in (b := numsIn p [a, b, c]) hp hn
  refine Calls.mono (implLineOf_any p a b c w) ?_
  rintro e w' ⟨rfl, hB⟩
  refine ⟨?_, hB⟩
  by_cases h : a = 0 ∧ b = 0
  · obtain ⟨rfl, rfl⟩ := h
    have hz := lo_zero hco
    rw [loR, hz.1, hz.2.1, hz.2.2.1, hz.2.2.2]
    simp [ln1, ln2, ln3, lnC]
  · have hg := lo_good hco h
    have hf : (a == 0 && b == 0) = false := by
      rw [Bool.eq_false_iff]; intro e; rw [Bool.and_eq_true_iff] at e; exact h ⟨beq_iff_eq.1 e.1, beq_iff_eq.1 e.2⟩
    rw [loR, hg.1, hg.2.1, hg.2.2.1, hg.2.2.2]
    simp [ln1, ln2, ln3, lnC, hf]

end Go.Proofs.Ytijmmagdkbnhdaa
