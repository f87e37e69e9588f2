/-
  A sorted list without its repeats is as long as the list just if there are none; no program.
-/
import Derived.Test.YtinfjbaloppgkaaBaseMath
import Derived.Lib.SlicesCompact
namespace Go.Proofs.Ytinfjbaloppgkaa
open Go.RowKit

def srt (zs : List Int) : List Int := zs.mergeSort fun x y => decide (x ≤ y)
theorem srt_length (zs : List Int) : (srt zs).length = zs.length := List.length_mergeSort zs
theorem srt_perm (zs : List Int) : (srt zs).Perm zs := List.mergeSort_perm zs _
theorem srt_sorted (zs : List Int) : (srt zs).Pairwise fun a b => a ≤ b := by
  have h := List.pairwise_mergeSort (le := fun x y : Int => decide (x ≤ y)) (fun a b c h1 h2 => by simp at *; omega) (fun a b => by simp; omega) zs
  exact h.imp fun h => by simpa using h
theorem nodup_perm {l l' : List Int} (h : l.Perm l') : l.Nodup ↔ l'.Nodup := h.nodup_iff
theorem compact_full {zs : List Int} (h : (Lib.compact zs).length = zs.length) (hs : zs.Pairwise fun a b => a ≤ b) : zs.Nodup := by
  have hk : ∀ j, j < zs.length → Lib.keeps zs.toArray j = true := by
    have h1 : ((List.range zs.length).filter (Lib.keeps zs.toArray)).length = (List.range zs.length).length := by
      have h2 : (Lib.compact zs).length = ((List.range zs.length).filter (Lib.keeps zs.toArray)).length := by simp [Lib.compact, Lib.compactUpTo]
      rw [List.length_range, ← h2, h]
    rw [List.length_filter_eq_length_iff] at h1
    exact fun j hj => h1 j (List.mem_range.2 hj)
  rw [List.Nodup, List.pairwise_iff_getElem]
  rw [List.pairwise_iff_getElem] at hs
  intro i j hi hj hij e
  have h1 := hs i (j - 1) hi (by omega)
  have h2 := hs (j - 1) j (by omega) hj (by omega)
  have h3 := hk j hj
  have h4 : zs[j] ≠ zs[j - 1] := by
    simp [Lib.keeps] at h3
    rcases h3 with h3 | h3
    · omega
    · simpa [hj, show j - 1 < zs.length by omega] using h3
  rcases Nat.lt_or_eq_of_le (Nat.le_sub_one_of_lt hij) with h5 | h5
  · have := h1 h5; omega
  · subst h5; exact h4 e.symm
theorem compact_nodup {zs : List Int} (h : zs.Nodup) : Lib.compact zs = zs := by
  refine Lib.compact_all zs fun j hj => ?_
  rcases Nat.eq_zero_or_pos j with h0 | h0
  · subst h0; exact Lib.keeps_lt_one _ 0 (by omega)
  · refine Lib.keeps_pos ?_
    rw [List.Nodup, List.pairwise_iff_getElem] at h
    have h2 := h (j - 1) j (by omega) hj (by omega)
    simp
    simp [hj, show j - 1 < zs.length by omega]
    exact fun e => h2 e.symm
theorem compact_iff (zs : List Int) : ((Lib.compact (srt zs)).length = zs.length) ↔ zs.Nodup := by
  rw [← nodup_perm (srt_perm zs), ← srt_length zs]
  exact ⟨fun h => compact_full h (srt_sorted zs), fun h => by rw [compact_nodup h]⟩

end Go.Proofs.Ytinfjbaloppgkaa
