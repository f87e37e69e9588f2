/-
  How many lines there are at each spread; no program.
-/
import Derived.Test.YtmpgpmcmhbpjeaaMgc0
import Derived.Test.YtmpgpmcmhbpjeaaCoefMathc

namespace Go.Proofs.Ytmpgpmcmhbpjeaa
open Go.RowKit

def cbF (p c l1 l2 : Int) (L : List (Int × Int × Int)) (i : Nat) : Int := ((L.filter fun x => spO p c l1 l2 x.1 x.2.1 == (i : Int)).length : Nat)
def cbT (p c l1 l2 : Int) : List Int := tab p.toNat (cbF p c l1 l2 (nnP p c 0 0))
set_option linter.unusedSimpArgs false in
theorem cb_nil (p c l1 l2 : Int) (i : Nat) : cbF p c l1 l2 [] i = 0 := rfl
set_option linter.unusedSimpArgs false in
theorem cb_count {p c l1 l2 : Int} {x : Int × Int × Int} (L : List (Int × Int × Int)) {k : Nat} (hk : spO p c l1 l2 x.1 x.2.1 = (k : Int)) (i : Nat) : cbF p c l1 l2 (L ++ [x]) i = if i = k then cbF p c l1 l2 L k + 1 else cbF p c l1 l2 L i := by
  unfold cbF
  by_cases e : i = k
  · subst e; rw [if_pos rfl]; simp [hk]
  · rw [if_neg e, List.filter_append, List.length_append]
    have : ((k : Int) == (i : Int)) = false := by rw [beq_eq_false_iff_ne]; omega
    simp [hk, this]
theorem cb_r (p c l1 l2 : Int) (L : List (Int × Int × Int)) (i : Nat) : 0 ≤ cbF p c l1 l2 L i ∧ cbF p c l1 l2 L i ≤ L.length := by
  have := List.length_filter_le (fun x => spO p c l1 l2 x.1 x.2.1 == (i : Int)) L
  unfold cbF; omega
theorem sp_nat {p : Int} (c l1 l2 m1 m2 : Int) (hp : isP p = true) : ∃ k : Nat, spO p c l1 l2 m1 m2 = (k : Int) ∧ k < p.toNat := by
  have h := spO_r c l1 l2 m1 m2 hp
  obtain ⟨k, hk⟩ := Int.eq_ofNat_of_zero_le h.1
  exact ⟨k, hk, by omega⟩
theorem rows3_len {w : World} {base n : Nat} {e : TypeId} {v : Value} {xs : List (Int × Int × Int)} (h : w.ownsRow base e 3 v n (ints (flat3 xs))) : n = xs.length := by
  have := h.1
  rw [ints_length, flat3_length] at this
  omega
theorem spV_in {p c l1 l2 m1 m2 : Int} (hl : nullB p c l1 l2 = false) : spV p c l1 l2 m1 m2 = (if nullB p c m1 m2 = true then 0 else spO p c l1 l2 m1 m2) ∧ crT p c l1 l2 m1 m2 = if nullB p c m1 m2 = true then 5 else 0 := by
  unfold spV crT; rw [hl]; simp

end Go.Proofs.Ytmpgpmcmhbpjeaa
