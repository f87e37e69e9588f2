/-
  Lines: impl.areLines of one and two lines.
-/
import Derived.Test.YtmpgpmcmhbpjeaaImplNumsc
import Derived.Test.YtmpgpmcmhbpjeaaMgc0
import Derived.LoopN

namespace Go.Proofs.Ytmpgpmcmhbpjeaa
open Go.RowKit

set_option maxRecDepth 20000 in
set_option maxHeartbeats 2000000 in
theorem implLines1 (p a1 a2 a3 : Int) (b : Nat) (w : World) (hb : b = w.heap.size) :
    Calls Try.prog 38 #[.int .i64 p, .slice (some ⟨b, 0, none⟩) 1 1] (w.alloc (.cells #[.int .i64 a1, .int .i64 a2, .int .i64 a3] 30)) fun e w' => e = .returned (.bool (lineB p a1 a2 a3)) ∧ Below w.heap.size w w' := by
  subst hb
  rcases leadB_ways a1 a2 with ⟨rfl, hl0⟩ | ⟨rfl, rfl, hl0⟩ | ⟨rfl, e0, hl0⟩ | ⟨d0, e0, hl0⟩
  · have HL0 := Lib.hid hl0
    clear hl0
    cases h0 : numsIn p [1, a2, a3]
    · have HV := Lib.hid (show (lineB p 1 a2 a3) = false by rw [lineB_no2 h0])
      go_enter Try.func38, Try.ntmps38
      go_wp2
      refine wp_loop_rounds 2 ?_
      rw [rounds_succ]
      go_wp2_with (go_at_call 57; refine Calls.mono (areNums_any _ _ _ _ _ [1, a2, a3] _ rfl (by simp) (by exact cells_at (by simp) [1, a2, a3] _)) ?_; rintro e w' ⟨rfl, rfl⟩)
      go_ret
      exact ⟨ret_bool (by first | exact HV.out.symm | rfl), by (repeat (first | exact Below.refl _ _ | assumption | refine balloc ?_ _ | refine bdrewN ?_ _ | refine Below.drew ?_ | refine Below.setCell ?_ (by first | (simp; done) | (simp; omega)) _))⟩
    · have HV := Lib.hid (show (lineB p 1 a2 a3) = true by rw [lineB_of HL0.out h0])
      go_enter Try.func38, Try.ntmps38
      go_wp2
      refine wp_loop_rounds 2 ?_
      rw [rounds_succ]
      go_wp2_with (go_at_call 57; refine Calls.mono (areNums_any _ _ _ _ _ [1, a2, a3] _ rfl (by simp) (by exact cells_at (by simp) [1, a2, a3] _)) ?_; rintro e w' ⟨rfl, rfl⟩)
      rw [rounds_succ]
      go_wp2
      go_ret
      exact ⟨ret_bool (by first | exact HV.out.symm | rfl), by (repeat (first | exact Below.refl _ _ | assumption | refine balloc ?_ _ | refine bdrewN ?_ _ | refine Below.drew ?_ | refine Below.setCell ?_ (by first | (simp; done) | (simp; omega)) _))⟩
  · have HL0 := Lib.hid hl0
    clear hl0
    cases h0 : numsIn p [0, 1, a3]
    · have HV := Lib.hid (show (lineB p 0 1 a3) = false by rw [lineB_no2 h0])
      go_enter Try.func38, Try.ntmps38
      go_wp2
      refine wp_loop_rounds 2 ?_
      rw [rounds_succ]
      go_wp2_with (go_at_call 57; refine Calls.mono (areNums_any _ _ _ _ _ [0, 1, a3] _ rfl (by simp) (by exact cells_at (by simp) [0, 1, a3] _)) ?_; rintro e w' ⟨rfl, rfl⟩)
      go_ret
      exact ⟨ret_bool (by first | exact HV.out.symm | rfl), by (repeat (first | exact Below.refl _ _ | assumption | refine balloc ?_ _ | refine bdrewN ?_ _ | refine Below.drew ?_ | refine Below.setCell ?_ (by first | (simp; done) | (simp; omega)) _))⟩
    · have HV := Lib.hid (show (lineB p 0 1 a3) = true by rw [lineB_of HL0.out h0])
      go_enter Try.func38, Try.ntmps38
      go_wp2
      refine wp_loop_rounds 2 ?_
      rw [rounds_succ]
      go_wp2_with (go_at_call 57; refine Calls.mono (areNums_any _ _ _ _ _ [0, 1, a3] _ rfl (by simp) (by exact cells_at (by simp) [0, 1, a3] _)) ?_; rintro e w' ⟨rfl, rfl⟩)
      rw [rounds_succ]
      go_wp2
      go_ret
      exact ⟨ret_bool (by first | exact HV.out.symm | rfl), by (repeat (first | exact Below.refl _ _ | assumption | refine balloc ?_ _ | refine bdrewN ?_ _ | refine Below.drew ?_ | refine Below.setCell ?_ (by first | (simp; done) | (simp; omega)) _))⟩
  · have HL0 := Lib.hid hl0
    clear hl0
    have HV := Lib.hid (show (lineB p 0 a2 a3) = false by rw [lineB_no1 HL0.out])
    go_enter Try.func38, Try.ntmps38
    go_wp2
    refine wp_loop_rounds 2 ?_
    rw [rounds_succ]
    go_wp2_with (go_at_call 57; refine Calls.mono (areNums_any _ _ _ _ _ [0, a2, a3] _ rfl (by simp) (by exact cells_at (by simp) [0, a2, a3] _)) ?_; rintro e w' ⟨rfl, rfl⟩)
    go_ret
    exact ⟨ret_bool (by first | exact HV.out.symm | rfl), by (repeat (first | exact Below.refl _ _ | assumption | refine balloc ?_ _ | refine bdrewN ?_ _ | refine Below.drew ?_ | refine Below.setCell ?_ (by first | (simp; done) | (simp; omega)) _))⟩
  · have HL0 := Lib.hid hl0
    clear hl0
    have HV := Lib.hid (show (lineB p a1 a2 a3) = false by rw [lineB_no1 HL0.out])
    go_enter Try.func38, Try.ntmps38
    go_wp2
    refine wp_loop_rounds 2 ?_
    rw [rounds_succ]
    go_wp2_with (go_at_call 57; refine Calls.mono (areNums_any _ _ _ _ _ [a1, a2, a3] _ rfl (by simp) (by exact cells_at (by simp) [a1, a2, a3] _)) ?_; rintro e w' ⟨rfl, rfl⟩)
    go_ret
    exact ⟨ret_bool (by first | exact HV.out.symm | rfl), by (repeat (first | exact Below.refl _ _ | assumption | refine balloc ?_ _ | refine bdrewN ?_ _ | refine Below.drew ?_ | refine Below.setCell ?_ (by first | (simp; done) | (simp; omega)) _))⟩

set_option maxRecDepth 20000 in
set_option maxHeartbeats 2000000 in
theorem implLines2 (p a1 a2 a3 b1 b2 b3 : Int) (b : Nat) (w : World) (hb : b = w.heap.size) :
    Calls Try.prog 38 #[.int .i64 p, .slice (some ⟨b, 0, none⟩) 2 2] (w.alloc (.cells #[.int .i64 a1, .int .i64 a2, .int .i64 a3, .int .i64 b1, .int .i64 b2, .int .i64 b3] 30)) fun e w' => e = .returned (.bool (lineB p a1 a2 a3 && lineB p b1 b2 b3)) ∧ Below w.heap.size w w' := by
  subst hb
  rcases leadB_ways a1 a2 with ⟨rfl, hl0⟩ | ⟨rfl, rfl, hl0⟩ | ⟨rfl, e0, hl0⟩ | ⟨d0, e0, hl0⟩
  · have HL0 := Lib.hid hl0
    clear hl0
    cases h0 : numsIn p [1, a2, a3]
    · have HV := Lib.hid (show (lineB p 1 a2 a3 && lineB p b1 b2 b3) = false by rw [lineB_no2 h0]; rfl)
      go_enter Try.func38, Try.ntmps38
      go_wp2
      refine wp_loop_rounds 3 ?_
      rw [rounds_succ]
      go_wp2_with (go_at_call 57; refine Calls.mono (areNums_any _ _ _ _ _ [1, a2, a3] _ rfl (by simp) (by exact cells_at (by simp) [1, a2, a3] _)) ?_; rintro e w' ⟨rfl, rfl⟩)
      go_ret
      exact ⟨ret_bool (by first | exact HV.out.symm | rfl), by (repeat (first | exact Below.refl _ _ | assumption | refine balloc ?_ _ | refine bdrewN ?_ _ | refine Below.drew ?_ | refine Below.setCell ?_ (by first | (simp; done) | (simp; omega)) _))⟩
    · rcases leadB_ways b1 b2 with ⟨rfl, hl1⟩ | ⟨rfl, rfl, hl1⟩ | ⟨rfl, e1, hl1⟩ | ⟨d1, e1, hl1⟩
      · have HL1 := Lib.hid hl1
        clear hl1
        cases h1 : numsIn p [1, b2, b3]
        · have HV := Lib.hid (show (lineB p 1 a2 a3 && lineB p 1 b2 b3) = false by rw [lineB_of HL0.out h0, lineB_no2 h1]; rfl)
          go_enter Try.func38, Try.ntmps38
          go_wp2
          refine wp_loop_rounds 3 ?_
          rw [rounds_succ]
          go_wp2_with (go_at_call 57; refine Calls.mono (areNums_any _ _ _ _ _ [1, a2, a3] _ rfl (by simp) (by exact cells_at (by simp) [1, a2, a3] _)) ?_; rintro e w' ⟨rfl, rfl⟩)
          rw [rounds_succ]
          go_wp2_with (go_at_call 57; refine Calls.mono (areNums_any _ _ _ _ _ [1, b2, b3] _ rfl (by simp) (by exact cells_at (by simp) [1, b2, b3] _)) ?_; rintro e w' ⟨rfl, rfl⟩)
          go_ret
          exact ⟨ret_bool (by first | exact HV.out.symm | rfl), by (repeat (first | exact Below.refl _ _ | assumption | refine balloc ?_ _ | refine bdrewN ?_ _ | refine Below.drew ?_ | refine Below.setCell ?_ (by first | (simp; done) | (simp; omega)) _))⟩
        · have HV := Lib.hid (show (lineB p 1 a2 a3 && lineB p 1 b2 b3) = true by rw [lineB_of HL0.out h0, lineB_of HL1.out h1]; rfl)
          go_enter Try.func38, Try.ntmps38
          go_wp2
          refine wp_loop_rounds 3 ?_
          rw [rounds_succ]
          go_wp2_with (go_at_call 57; refine Calls.mono (areNums_any _ _ _ _ _ [1, a2, a3] _ rfl (by simp) (by exact cells_at (by simp) [1, a2, a3] _)) ?_; rintro e w' ⟨rfl, rfl⟩)
          rw [rounds_succ]
          go_wp2_with (go_at_call 57; refine Calls.mono (areNums_any _ _ _ _ _ [1, b2, b3] _ rfl (by simp) (by exact cells_at (by simp) [1, b2, b3] _)) ?_; rintro e w' ⟨rfl, rfl⟩)
          rw [rounds_succ]
          go_wp2
          go_ret
          exact ⟨ret_bool (by first | exact HV.out.symm | rfl), by (repeat (first | exact Below.refl _ _ | assumption | refine balloc ?_ _ | refine bdrewN ?_ _ | refine Below.drew ?_ | refine Below.setCell ?_ (by first | (simp; done) | (simp; omega)) _))⟩
      · have HL1 := Lib.hid hl1
        clear hl1
        cases h1 : numsIn p [0, 1, b3]
        · have HV := Lib.hid (show (lineB p 1 a2 a3 && lineB p 0 1 b3) = false by rw [lineB_of HL0.out h0, lineB_no2 h1]; rfl)
          go_enter Try.func38, Try.ntmps38
          go_wp2
          refine wp_loop_rounds 3 ?_
          rw [rounds_succ]
          go_wp2_with (go_at_call 57; refine Calls.mono (areNums_any _ _ _ _ _ [1, a2, a3] _ rfl (by simp) (by exact cells_at (by simp) [1, a2, a3] _)) ?_; rintro e w' ⟨rfl, rfl⟩)
          rw [rounds_succ]
          go_wp2_with (go_at_call 57; refine Calls.mono (areNums_any _ _ _ _ _ [0, 1, b3] _ rfl (by simp) (by exact cells_at (by simp) [0, 1, b3] _)) ?_; rintro e w' ⟨rfl, rfl⟩)
          go_ret
          exact ⟨ret_bool (by first | exact HV.out.symm | rfl), by (repeat (first | exact Below.refl _ _ | assumption | refine balloc ?_ _ | refine bdrewN ?_ _ | refine Below.drew ?_ | refine Below.setCell ?_ (by first | (simp; done) | (simp; omega)) _))⟩
        · have HV := Lib.hid (show (lineB p 1 a2 a3 && lineB p 0 1 b3) = true by rw [lineB_of HL0.out h0, lineB_of HL1.out h1]; rfl)
          go_enter Try.func38, Try.ntmps38
          go_wp2
          refine wp_loop_rounds 3 ?_
          rw [rounds_succ]
          go_wp2_with (go_at_call 57; refine Calls.mono (areNums_any _ _ _ _ _ [1, a2, a3] _ rfl (by simp) (by exact cells_at (by simp) [1, a2, a3] _)) ?_; rintro e w' ⟨rfl, rfl⟩)
          rw [rounds_succ]
          go_wp2_with (go_at_call 57; refine Calls.mono (areNums_any _ _ _ _ _ [0, 1, b3] _ rfl (by simp) (by exact cells_at (by simp) [0, 1, b3] _)) ?_; rintro e w' ⟨rfl, rfl⟩)
          rw [rounds_succ]
          go_wp2
          go_ret
          exact ⟨ret_bool (by first | exact HV.out.symm | rfl), by (repeat (first | exact Below.refl _ _ | assumption | refine balloc ?_ _ | refine bdrewN ?_ _ | refine Below.drew ?_ | refine Below.setCell ?_ (by first | (simp; done) | (simp; omega)) _))⟩
      · have HL1 := Lib.hid hl1
        clear hl1
        have HV := Lib.hid (show (lineB p 1 a2 a3 && lineB p 0 b2 b3) = false by rw [lineB_of HL0.out h0, lineB_no1 HL1.out]; rfl)
        go_enter Try.func38, Try.ntmps38
        go_wp2
        refine wp_loop_rounds 3 ?_
        rw [rounds_succ]
        go_wp2_with (go_at_call 57; refine Calls.mono (areNums_any _ _ _ _ _ [1, a2, a3] _ rfl (by simp) (by exact cells_at (by simp) [1, a2, a3] _)) ?_; rintro e w' ⟨rfl, rfl⟩)
        rw [rounds_succ]
        go_wp2_with (go_at_call 57; refine Calls.mono (areNums_any _ _ _ _ _ [0, b2, b3] _ rfl (by simp) (by exact cells_at (by simp) [0, b2, b3] _)) ?_; rintro e w' ⟨rfl, rfl⟩)
        go_ret
        exact ⟨ret_bool (by first | exact HV.out.symm | rfl), by (repeat (first | exact Below.refl _ _ | assumption | refine balloc ?_ _ | refine bdrewN ?_ _ | refine Below.drew ?_ | refine Below.setCell ?_ (by first | (simp; done) | (simp; omega)) _))⟩
      · have HL1 := Lib.hid hl1
        clear hl1
        have HV := Lib.hid (show (lineB p 1 a2 a3 && lineB p b1 b2 b3) = false by rw [lineB_of HL0.out h0, lineB_no1 HL1.out]; rfl)
        go_enter Try.func38, Try.ntmps38
        go_wp2
        refine wp_loop_rounds 3 ?_
        rw [rounds_succ]
        go_wp2_with (go_at_call 57; refine Calls.mono (areNums_any _ _ _ _ _ [1, a2, a3] _ rfl (by simp) (by exact cells_at (by simp) [1, a2, a3] _)) ?_; rintro e w' ⟨rfl, rfl⟩)
        rw [rounds_succ]
        go_wp2_with (go_at_call 57; refine Calls.mono (areNums_any _ _ _ _ _ [b1, b2, b3] _ rfl (by simp) (by exact cells_at (by simp) [b1, b2, b3] _)) ?_; rintro e w' ⟨rfl, rfl⟩)
        go_ret
        exact ⟨ret_bool (by first | exact HV.out.symm | rfl), by (repeat (first | exact Below.refl _ _ | assumption | refine balloc ?_ _ | refine bdrewN ?_ _ | refine Below.drew ?_ | refine Below.setCell ?_ (by first | (simp; done) | (simp; omega)) _))⟩
  · have HL0 := Lib.hid hl0
    clear hl0
    cases h0 : numsIn p [0, 1, a3]
    · have HV := Lib.hid (show (lineB p 0 1 a3 && lineB p b1 b2 b3) = false by rw [lineB_no2 h0]; rfl)
      go_enter Try.func38, Try.ntmps38
      go_wp2
      refine wp_loop_rounds 3 ?_
      rw [rounds_succ]
      go_wp2_with (go_at_call 57; refine Calls.mono (areNums_any _ _ _ _ _ [0, 1, a3] _ rfl (by simp) (by exact cells_at (by simp) [0, 1, a3] _)) ?_; rintro e w' ⟨rfl, rfl⟩)
      go_ret
      exact ⟨ret_bool (by first | exact HV.out.symm | rfl), by (repeat (first | exact Below.refl _ _ | assumption | refine balloc ?_ _ | refine bdrewN ?_ _ | refine Below.drew ?_ | refine Below.setCell ?_ (by first | (simp; done) | (simp; omega)) _))⟩
    · rcases leadB_ways b1 b2 with ⟨rfl, hl1⟩ | ⟨rfl, rfl, hl1⟩ | ⟨rfl, e1, hl1⟩ | ⟨d1, e1, hl1⟩
      · have HL1 := Lib.hid hl1
        clear hl1
        cases h1 : numsIn p [1, b2, b3]
        · have HV := Lib.hid (show (lineB p 0 1 a3 && lineB p 1 b2 b3) = false by rw [lineB_of HL0.out h0, lineB_no2 h1]; rfl)
          go_enter Try.func38, Try.ntmps38
          go_wp2
          refine wp_loop_rounds 3 ?_
          rw [rounds_succ]
          go_wp2_with (go_at_call 57; refine Calls.mono (areNums_any _ _ _ _ _ [0, 1, a3] _ rfl (by simp) (by exact cells_at (by simp) [0, 1, a3] _)) ?_; rintro e w' ⟨rfl, rfl⟩)
          rw [rounds_succ]
          go_wp2_with (go_at_call 57; refine Calls.mono (areNums_any _ _ _ _ _ [1, b2, b3] _ rfl (by simp) (by exact cells_at (by simp) [1, b2, b3] _)) ?_; rintro e w' ⟨rfl, rfl⟩)
          go_ret
          exact ⟨ret_bool (by first | exact HV.out.symm | rfl), by (repeat (first | exact Below.refl _ _ | assumption | refine balloc ?_ _ | refine bdrewN ?_ _ | refine Below.drew ?_ | refine Below.setCell ?_ (by first | (simp; done) | (simp; omega)) _))⟩
        · have HV := Lib.hid (show (lineB p 0 1 a3 && lineB p 1 b2 b3) = true by rw [lineB_of HL0.out h0, lineB_of HL1.out h1]; rfl)
          go_enter Try.func38, Try.ntmps38
          go_wp2
          refine wp_loop_rounds 3 ?_
          rw [rounds_succ]
          go_wp2_with (go_at_call 57; refine Calls.mono (areNums_any _ _ _ _ _ [0, 1, a3] _ rfl (by simp) (by exact cells_at (by simp) [0, 1, a3] _)) ?_; rintro e w' ⟨rfl, rfl⟩)
          rw [rounds_succ]
          go_wp2_with (go_at_call 57; refine Calls.mono (areNums_any _ _ _ _ _ [1, b2, b3] _ rfl (by simp) (by exact cells_at (by simp) [1, b2, b3] _)) ?_; rintro e w' ⟨rfl, rfl⟩)
          rw [rounds_succ]
          go_wp2
          go_ret
          exact ⟨ret_bool (by first | exact HV.out.symm | rfl), by (repeat (first | exact Below.refl _ _ | assumption | refine balloc ?_ _ | refine bdrewN ?_ _ | refine Below.drew ?_ | refine Below.setCell ?_ (by first | (simp; done) | (simp; omega)) _))⟩
      · have HL1 := Lib.hid hl1
        clear hl1
        cases h1 : numsIn p [0, 1, b3]
        · have HV := Lib.hid (show (lineB p 0 1 a3 && lineB p 0 1 b3) = false by rw [lineB_of HL0.out h0, lineB_no2 h1]; rfl)
          go_enter Try.func38, Try.ntmps38
          go_wp2
          refine wp_loop_rounds 3 ?_
          rw [rounds_succ]
          go_wp2_with (go_at_call 57; refine Calls.mono (areNums_any _ _ _ _ _ [0, 1, a3] _ rfl (by simp) (by exact cells_at (by simp) [0, 1, a3] _)) ?_; rintro e w' ⟨rfl, rfl⟩)
          rw [rounds_succ]
          go_wp2_with (go_at_call 57; refine Calls.mono (areNums_any _ _ _ _ _ [0, 1, b3] _ rfl (by simp) (by exact cells_at (by simp) [0, 1, b3] _)) ?_; rintro e w' ⟨rfl, rfl⟩)
          go_ret
          exact ⟨ret_bool (by first | exact HV.out.symm | rfl), by (repeat (first | exact Below.refl _ _ | assumption | refine balloc ?_ _ | refine bdrewN ?_ _ | refine Below.drew ?_ | refine Below.setCell ?_ (by first | (simp; done) | (simp; omega)) _))⟩
        · have HV := Lib.hid (show (lineB p 0 1 a3 && lineB p 0 1 b3) = true by rw [lineB_of HL0.out h0, lineB_of HL1.out h1]; rfl)
          go_enter Try.func38, Try.ntmps38
          go_wp2
          refine wp_loop_rounds 3 ?_
          rw [rounds_succ]
          go_wp2_with (go_at_call 57; refine Calls.mono (areNums_any _ _ _ _ _ [0, 1, a3] _ rfl (by simp) (by exact cells_at (by simp) [0, 1, a3] _)) ?_; rintro e w' ⟨rfl, rfl⟩)
          rw [rounds_succ]
          go_wp2_with (go_at_call 57; refine Calls.mono (areNums_any _ _ _ _ _ [0, 1, b3] _ rfl (by simp) (by exact cells_at (by simp) [0, 1, b3] _)) ?_; rintro e w' ⟨rfl, rfl⟩)
          rw [rounds_succ]
          go_wp2
          go_ret
          exact ⟨ret_bool (by first | exact HV.out.symm | rfl), by (repeat (first | exact Below.refl _ _ | assumption | refine balloc ?_ _ | refine bdrewN ?_ _ | refine Below.drew ?_ | refine Below.setCell ?_ (by first | (simp; done) | (simp; omega)) _))⟩
      · have HL1 := Lib.hid hl1
        clear hl1
        have HV := Lib.hid (show (lineB p 0 1 a3 && lineB p 0 b2 b3) = false by rw [lineB_of HL0.out h0, lineB_no1 HL1.out]; rfl)
        go_enter Try.func38, Try.ntmps38
        go_wp2
        refine wp_loop_rounds 3 ?_
        rw [rounds_succ]
        go_wp2_with (go_at_call 57; refine Calls.mono (areNums_any _ _ _ _ _ [0, 1, a3] _ rfl (by simp) (by exact cells_at (by simp) [0, 1, a3] _)) ?_; rintro e w' ⟨rfl, rfl⟩)
        rw [rounds_succ]
        go_wp2_with (go_at_call 57; refine Calls.mono (areNums_any _ _ _ _ _ [0, b2, b3] _ rfl (by simp) (by exact cells_at (by simp) [0, b2, b3] _)) ?_; rintro e w' ⟨rfl, rfl⟩)
        go_ret
        exact ⟨ret_bool (by first | exact HV.out.symm | rfl), by (repeat (first | exact Below.refl _ _ | assumption | refine balloc ?_ _ | refine bdrewN ?_ _ | refine Below.drew ?_ | refine Below.setCell ?_ (by first | (simp; done) | (simp; omega)) _))⟩
      · have HL1 := Lib.hid hl1
        clear hl1
        have HV := Lib.hid (show (lineB p 0 1 a3 && lineB p b1 b2 b3) = false by rw [lineB_of HL0.out h0, lineB_no1 HL1.out]; rfl)
        go_enter Try.func38, Try.ntmps38
        go_wp2
        refine wp_loop_rounds 3 ?_
        rw [rounds_succ]
        go_wp2_with (go_at_call 57; refine Calls.mono (areNums_any _ _ _ _ _ [0, 1, a3] _ rfl (by simp) (by exact cells_at (by simp) [0, 1, a3] _)) ?_; rintro e w' ⟨rfl, rfl⟩)
        rw [rounds_succ]
        go_wp2_with (go_at_call 57; refine Calls.mono (areNums_any _ _ _ _ _ [b1, b2, b3] _ rfl (by simp) (by exact cells_at (by simp) [b1, b2, b3] _)) ?_; rintro e w' ⟨rfl, rfl⟩)
        go_ret
        exact ⟨ret_bool (by first | exact HV.out.symm | rfl), by (repeat (first | exact Below.refl _ _ | assumption | refine balloc ?_ _ | refine bdrewN ?_ _ | refine Below.drew ?_ | refine Below.setCell ?_ (by first | (simp; done) | (simp; omega)) _))⟩
  · have HL0 := Lib.hid hl0
    clear hl0
    have HV := Lib.hid (show (lineB p 0 a2 a3 && lineB p b1 b2 b3) = false by rw [lineB_no1 HL0.out]; rfl)
    go_enter Try.func38, Try.ntmps38
    go_wp2
    refine wp_loop_rounds 3 ?_
    rw [rounds_succ]
    go_wp2_with (go_at_call 57; refine Calls.mono (areNums_any _ _ _ _ _ [0, a2, a3] _ rfl (by simp) (by exact cells_at (by simp) [0, a2, a3] _)) ?_; rintro e w' ⟨rfl, rfl⟩)
    go_ret
    exact ⟨ret_bool (by first | exact HV.out.symm | rfl), by (repeat (first | exact Below.refl _ _ | assumption | refine balloc ?_ _ | refine bdrewN ?_ _ | refine Below.drew ?_ | refine Below.setCell ?_ (by first | (simp; done) | (simp; omega)) _))⟩
  · have HL0 := Lib.hid hl0
    clear hl0
    have HV := Lib.hid (show (lineB p a1 a2 a3 && lineB p b1 b2 b3) = false by rw [lineB_no1 HL0.out]; rfl)
    go_enter Try.func38, Try.ntmps38
    go_wp2
    refine wp_loop_rounds 3 ?_
    rw [rounds_succ]
    go_wp2_with (go_at_call 57; refine Calls.mono (areNums_any _ _ _ _ _ [a1, a2, a3] _ rfl (by simp) (by exact cells_at (by simp) [a1, a2, a3] _)) ?_; rintro e w' ⟨rfl, rfl⟩)
    go_ret
    exact ⟨ret_bool (by first | exact HV.out.symm | rfl), by (repeat (first | exact Below.refl _ _ | assumption | refine balloc ?_ _ | refine bdrewN ?_ _ | refine Below.drew ?_ | refine Below.setCell ?_ (by first | (simp; done) | (simp; omega)) _))⟩

end Go.Proofs.Ytmpgpmcmhbpjeaa
