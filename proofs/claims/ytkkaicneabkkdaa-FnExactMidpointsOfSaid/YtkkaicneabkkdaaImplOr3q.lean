/-
  cmp.Or at three numbers.
-/
import Derived.Test.YtkkaicneabkkdaaMgq0
import Derived.Deep.RegionHeld3
import Derived.Deep.DeepCutAuto
import Derived.LoopN

namespace Go.Proofs.Ytkkaicneabkkdaa
open Go.RowKit

set_option linter.unusedVariables false in
set_option linter.unusedSimpArgs false in
set_option maxRecDepth 20000 in
set_option maxHeartbeats 4000000 in
theorem or3c_any (x1 x2 x3 : Int) (b0 : Nat)  (w : World) (kb0_0 : w.cell? ⟨b0, 0, none⟩ = some (.int .i64 x1)) (kb0_1 : w.cell? ⟨b0, 1, none⟩ = some (.int .i64 x2)) (kb0_2 : w.cell? ⟨b0, 2, none⟩ = some (.int .i64 x3)) :
    Calls Try.prog 74 #[.slice (some ⟨b0, 0, none⟩) 3 3] w fun e w' =>
      e = .returned (.int .i64 (ld3 x1 x2 x3)) ∧ Below w.heap.size w w' := by
  have lb0 := World.block_lt_of_cell? w ⟨b0, 0, none⟩ kb0_0
  simp only at lb0
  go_enter Try.func74, Try.ntmps74
  go_wp2
  refine wp_loop_rounds 8 ?_
  rw [rounds_succ]
  rcases bool_ways (x1 == 0) with hd1 | hd1
  · have hd1n : (x1 != 0) = true := by rw [bne, hd1]; rfl
    have Hhd1p := Lib.hid (beq_eq_false_iff_ne.1 hd1)
    have HV := Lib.hid (show ld3 x1 x2 x3 = x1 from by simp [ld3, hd1])
    go_wp2
    (refine bodyPost_ret (v := .int .i64 (ld3 x1 x2 x3)) (by simp [results, Try.results74, go_sem, HV.out, *]) rfl ⟨?_, ?_⟩)
    · rfl
    · (repeat (first | with_reducible exact Below.refl _ _ | with_reducible refine balloc ?_ _ | with_reducible refine bdrewN ?_ _ | with_reducible refine Below.drew ?_ | with_reducible refine bthen ?_ (by with_reducible assumption) | with_reducible refine Below.setCell ?_ (by first | (simp; done) | (simp; omega)) _))
  · have hd1n : (x1 != 0) = false := by rw [bne, hd1]; rfl
    have Hhd1p := Lib.hid (beq_iff_eq.1 hd1)
    go_wp2
    rw [rounds_succ]
    rcases bool_ways (x2 == 0) with hd2 | hd2
    · have hd2n : (x2 != 0) = true := by rw [bne, hd2]; rfl
      have Hhd2p := Lib.hid (beq_eq_false_iff_ne.1 hd2)
      have HV := Lib.hid (show ld3 x1 x2 x3 = x2 from by simp [ld3, hd1, hd2, beq_iff_eq.1 hd1])
      go_wp2
      (refine bodyPost_ret (v := .int .i64 (ld3 x1 x2 x3)) (by simp [results, Try.results74, go_sem, HV.out, *]) rfl ⟨?_, ?_⟩)
      · rfl
      · (repeat (first | with_reducible exact Below.refl _ _ | with_reducible refine balloc ?_ _ | with_reducible refine bdrewN ?_ _ | with_reducible refine Below.drew ?_ | with_reducible refine bthen ?_ (by with_reducible assumption) | with_reducible refine Below.setCell ?_ (by first | (simp; done) | (simp; omega)) _))
    · have hd2n : (x2 != 0) = false := by rw [bne, hd2]; rfl
      have Hhd2p := Lib.hid (beq_iff_eq.1 hd2)
      go_wp2
      rw [rounds_succ]
      rcases bool_ways (x3 == 0) with hd3 | hd3
      · have hd3n : (x3 != 0) = true := by rw [bne, hd3]; rfl
        have Hhd3p := Lib.hid (beq_eq_false_iff_ne.1 hd3)
        have HV := Lib.hid (show ld3 x1 x2 x3 = x3 from by simp [ld3, hd1, hd2, hd3, beq_iff_eq.1 hd1, beq_iff_eq.1 hd2])
        go_wp2
        (refine bodyPost_ret (v := .int .i64 (ld3 x1 x2 x3)) (by simp [results, Try.results74, go_sem, HV.out, *]) rfl ⟨?_, ?_⟩)
        · rfl
        · (repeat (first | with_reducible exact Below.refl _ _ | with_reducible refine balloc ?_ _ | with_reducible refine bdrewN ?_ _ | with_reducible refine Below.drew ?_ | with_reducible refine bthen ?_ (by with_reducible assumption) | with_reducible refine Below.setCell ?_ (by first | (simp; done) | (simp; omega)) _))
      · have hd3n : (x3 != 0) = false := by rw [bne, hd3]; rfl
        have Hhd3p := Lib.hid (beq_iff_eq.1 hd3)
        go_wp2
        rw [rounds_succ]
        have HV := Lib.hid (show ld3 x1 x2 x3 = 0 from by simp [ld3, hd1, hd2, hd3, beq_iff_eq.1 hd1, beq_iff_eq.1 hd2, beq_iff_eq.1 hd3])
        go_wp2
        (refine bodyPost_ret (v := .int .i64 (ld3 x1 x2 x3)) (by simp [results, Try.results74, go_sem, HV.out, *]) rfl ⟨?_, ?_⟩)
        · rfl
        · (repeat (first | with_reducible exact Below.refl _ _ | with_reducible refine balloc ?_ _ | with_reducible refine bdrewN ?_ _ | with_reducible refine Below.drew ?_ | with_reducible refine bthen ?_ (by with_reducible assumption) | with_reducible refine Below.setCell ?_ (by first | (simp; done) | (simp; omega)) _))

end Go.Proofs.Ytkkaicneabkkdaa
