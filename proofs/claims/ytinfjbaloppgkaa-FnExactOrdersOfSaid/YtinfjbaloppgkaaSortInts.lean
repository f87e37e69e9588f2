/-
  slices.Sort, slices.Compact at numbers.
-/
import Derived.Test.YtinfjbaloppgkaaPermMath
import Derived.Test.YtinfjbaloppgkaaSlice
import Derived.Test.YtinfjbaloppgkaaShelfS
import Derived.Sort.Grow
import Derived.Lib.OwnBridge
namespace Go.Proofs.Ytinfjbaloppgkaa
open Go.RowKit Go.Sort

theorem below_growB {B : Nat} {a w : World} (h : Go.RowKit.Below B a w) (hB : B ≤ w.heap.size) (os : Array Obj) : Go.RowKit.Below B a (grow w os) :=
  ⟨h.os, h.tape, h.output, by have := h.size; simp [grow]; omega, fun k hk => by
    rw [← h.block k hk]
    show (w.heap ++ os)[k]? = w.heap[k]?
    exact Array.getElem?_append_left (by omega)⟩

theorem sortI_any (g cap : Nat) (zs : List Int) (w : World) (hg : g < w.heap.size) (hH : Holds (Value.int .i64) w g 0 zs.toArray) (hl : zs.length ≤ 1000) :
    Calls Try.prog 79 #[.slice (some ⟨g, 0, none⟩) zs.length cap] w fun e w' => e = .returned (.tuple #[]) ∧ Holds (Value.int .i64) w' g 0 (srt zs).toArray ∧ (∀ B, B ≤ g → Go.RowKit.Below B w w') ∧ w.heap.size ≤ w'.heap.size := by
  have h := AnyM.slices_Sort_int Try.sortI g 0 cap zs w hH hg (by omega)
  refine Calls.mono h ?_
  rintro e w' ⟨he, n, os, rfl⟩
  have hb : ∀ B, B ≤ g → Go.RowKit.Below B w (grow (putRow (Value.int .i64) (Sort.ahead w n) g 0 (srt zs).toArray) os) := fun B hB => below_growB (Lib.below_putRow (Below.refl _ _) hB) (by simp [putRow, mapBlock, Sort.ahead]; omega) os
  exact ⟨he, holds_grow _ _ os g 0 _ (by simpa [putRow, mapBlock, Sort.ahead] using hg) (holds_putRow _ _ g 0 _ _ (holds_ahead _ w n g 0 _ hH) (by simp)), hb, (hb 0 (Nat.zero_le _)).size⟩
theorem compactI_any (g cap : Nat) (zs : List Int) (w : World) (hH : Holds (Value.int .i64) w g 0 zs.toArray) (hl : zs.length ≤ 1000) (hc : zs.length ≤ cap) :
    Calls Try.prog 80 #[.slice (some ⟨g, 0, none⟩) zs.length cap] w fun e w' => e = .returned (.slice (some ⟨g, 0, none⟩) (Lib.compact zs).length cap) ∧ (∀ B, B ≤ g → Go.RowKit.Below B w w') := by
  have h := AnyG.slices_Compact_int Try.compactI g 0 cap zs w hH (by omega) hc
  refine Calls.mono h ?_
  rintro e w' ⟨he, q, rfl⟩
  exact ⟨he, fun B hB => Lib.below_putRow (Below.refl _ _) hB⟩

end Go.Proofs.Ytinfjbaloppgkaa
