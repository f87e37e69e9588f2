/-
  How many places there are at each quadrance; no program.
-/
import Derived.Test.YtgklnlblghookaaSiftQ
import Derived.Test.YtgklnlblghookaaCoefMath
namespace Go.Proofs.Ytgklnlblghookaa
open Go.RowKit

def plqQ (p a1 a2 a3 : Int) (x : Pl32) : Int := plq p a1 a2 a3 (toQ x).1 (toQ x).2.1 (toQ x).2.2
def cqF (p a1 a2 a3 : Int) (L : List Pl32) (i : Nat) : Int := ((L.filter fun x => !nulQ p x && plqQ p a1 a2 a3 x == (i : Int)).length : Nat)
def cqT (p a1 a2 a3 : Int) : List Int := tab p.toNat (cqF p a1 a2 a3 (allQ p.toNat))
set_option linter.unusedSimpArgs false in
theorem cq_nil (p a1 a2 a3 : Int) (i : Nat) : cqF p a1 a2 a3 [] i = 0 := rfl
set_option linter.unusedSimpArgs false in
theorem cq_skip {p a1 a2 a3 : Int} {x : Pl32} (L : List Pl32) (h : nulQ p x = true) (i : Nat) : cqF p a1 a2 a3 (L ++ [x]) i = cqF p a1 a2 a3 L i := by simp [cqF, h]
set_option linter.unusedSimpArgs false in
theorem cq_count {p a1 a2 a3 : Int} {x : Pl32} (L : List Pl32) {k : Nat} (h : nulQ p x = false) (hk : plqQ p a1 a2 a3 x = (k : Int)) (i : Nat) : cqF p a1 a2 a3 (L ++ [x]) i = if i = k then cqF p a1 a2 a3 L k + 1 else cqF p a1 a2 a3 L i := by
  unfold cqF
  by_cases e : i = k
  · subst e; rw [if_pos rfl]; simp [h, hk]
  · rw [if_neg e, List.filter_append, List.length_append]
    have : ((k : Int) == (i : Int)) = false := by rw [beq_eq_false_iff_ne]; omega
    simp [h, hk, this]
set_option linter.unusedSimpArgs false in
theorem cq_r (p a1 a2 a3 : Int) (L : List Pl32) (i : Nat) : 0 ≤ cqF p a1 a2 a3 L i ∧ cqF p a1 a2 a3 L i ≤ L.length := by
  have := List.length_filter_le (fun x => !nulQ p x && plqQ p a1 a2 a3 x == (i : Int)) L
  unfold cqF; omega
set_option linter.unusedSimpArgs false in
theorem plqQ_nat {p a1 a2 a3 : Int} (hp : isP p = true) (x : Pl32) : ∃ k : Nat, plqQ p a1 a2 a3 x = (k : Int) ∧ k < p.toNat := by
  have h := plq_r a1 a2 a3 (toQ x).1 (toQ x).2.1 (toQ x).2.2 hp
  obtain ⟨k, hk⟩ := Int.eq_ofNat_of_zero_le h.1
  exact ⟨k, hk, by omega⟩

end Go.Proofs.Ytgklnlblghookaa
