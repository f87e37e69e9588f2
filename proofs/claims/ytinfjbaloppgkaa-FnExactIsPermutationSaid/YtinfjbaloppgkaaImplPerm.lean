/-
  Lists of bools that a call has made; the list of the values.
-/
import Derived.Test.YtinfjbaloppgkaaSortInts
import Derived.Test.YtinfjbaloppgkaaSpecValues
namespace Go.Proofs.Ytinfjbaloppgkaa
open Go.RowKit

theorem valL_r {p n : Int} (hp : isP p = true) {x : Int} (h : x ∈ valL p n p.toNat) : 0 ≤ x ∧ x < p := by
  obtain ⟨s, hs, rfl⟩ := List.mem_map.1 h
  have := List.mem_range.1 hs
  have hr := isP_range hp
  exact sv_r hp (by omega) (by omega) _
/-- Whether S(n) has all numbers as its values. -/
def permB (p n : Int) : Bool := decide (valL p n p.toNat).Nodup
theorem perm_len (p n : Int) (hp : isP p = true) : (((Lib.compact (srt (valL p n p.toNat))).length : Int) == p) = permB p n := by
  have hr := isP_range hp
  have h := compact_iff (valL p n p.toNat)
  rw [valL_length] at h
  unfold permB
  by_cases hd : (valL p n p.toNat).Nodup
  · rw [decide_eq_true hd, beq_iff_eq]
    have := h.2 hd
    omega
  · rw [decide_eq_false hd, beq_eq_false_iff_ne]
    intro e
    exact hd (h.1 (by omega))

end Go.Proofs.Ytinfjbaloppgkaa
