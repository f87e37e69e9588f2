/-
  Points: impl.arePoints of one, two and three points.
-/
import Derived.Test.YtodabjolblamgaaImplNums
import Derived.LoopN
namespace Go.Proofs.Ytodabjolblamgaa
open Go.RowKit

set_option maxRecDepth 20000 in
set_option maxHeartbeats 2000000 in
theorem implPoints1 (p a1 a2 : Int) (b : Nat) (w : World) (hb : b = w.heap.size) :
    Calls Try.prog 59 #[.int .i64 p, .slice (some ⟨b, 0, none⟩) 1 1] (w.alloc (.cells #[.int .i64 a1, .int .i64 a2] 25)) fun e w' => e = .returned (.bool (numsIn p [a1, a2])) ∧ Below w.heap.size w w' := by
  subst hb
  cases h0 : numsIn p [a1, a2]
  · have HV := Lib.hid (show (numsIn p [a1, a2]) = false by simp [h0])
    go_enter Try.func59, Try.ntmps59
    go_wp2
    refine wp_loop_rounds 2 ?_
    rw [rounds_succ]
    go_wp2_with (go_at_call 72; refine Calls.mono (areNums_any _ _ _ _ _ [a1, a2] _ rfl (by simp) (by exact cells_at (by simp) [a1, a2] _)) ?_; rintro e w' ⟨rfl, rfl⟩)
    go_ret
    exact ⟨ret_bool (by first | exact HV.out.symm | rfl), by (repeat (first | exact Below.refl _ _ | assumption | refine balloc ?_ _ | refine bdrewN ?_ _ | refine Below.drew ?_ | refine Below.setCell ?_ (by first | (simp; done) | (simp; omega)) _))⟩
  · have HV := Lib.hid (show (numsIn p [a1, a2]) = true by simp [h0])
    go_enter Try.func59, Try.ntmps59
    go_wp2
    refine wp_loop_rounds 2 ?_
    rw [rounds_succ]
    go_wp2_with (go_at_call 72; refine Calls.mono (areNums_any _ _ _ _ _ [a1, a2] _ rfl (by simp) (by exact cells_at (by simp) [a1, a2] _)) ?_; rintro e w' ⟨rfl, rfl⟩)
    rw [rounds_succ]
    go_wp2
    go_ret
    exact ⟨ret_bool (by first | exact HV.out.symm | rfl), by (repeat (first | exact Below.refl _ _ | assumption | refine balloc ?_ _ | refine bdrewN ?_ _ | refine Below.drew ?_ | refine Below.setCell ?_ (by first | (simp; done) | (simp; omega)) _))⟩

set_option maxRecDepth 20000 in
set_option maxHeartbeats 2000000 in
theorem implPoints2 (p a1 a2 b1 b2 : Int) (b : Nat) (w : World) (hb : b = w.heap.size) :
    Calls Try.prog 59 #[.int .i64 p, .slice (some ⟨b, 0, none⟩) 2 2] (w.alloc (.cells #[.int .i64 a1, .int .i64 a2, .int .i64 b1, .int .i64 b2] 25)) fun e w' => e = .returned (.bool (numsIn p [a1, a2, b1, b2])) ∧ Below w.heap.size w w' := by
  subst hb
  cases h0 : numsIn p [a1, a2]
  · have HV := Lib.hid (show (numsIn p [a1, a2, b1, b2]) = false by simp [numsApp2, h0])
    go_enter Try.func59, Try.ntmps59
    go_wp2
    refine wp_loop_rounds 3 ?_
    rw [rounds_succ]
    go_wp2_with (go_at_call 72; refine Calls.mono (areNums_any _ _ _ _ _ [a1, a2] _ rfl (by simp) (by exact cells_at (by simp) [a1, a2] _)) ?_; rintro e w' ⟨rfl, rfl⟩)
    go_ret
    exact ⟨ret_bool (by first | exact HV.out.symm | rfl), by (repeat (first | exact Below.refl _ _ | assumption | refine balloc ?_ _ | refine bdrewN ?_ _ | refine Below.drew ?_ | refine Below.setCell ?_ (by first | (simp; done) | (simp; omega)) _))⟩
  · cases h1 : numsIn p [b1, b2]
    · have HV := Lib.hid (show (numsIn p [a1, a2, b1, b2]) = false by simp [numsApp2, h0, h1])
      go_enter Try.func59, Try.ntmps59
      go_wp2
      refine wp_loop_rounds 3 ?_
      rw [rounds_succ]
      go_wp2_with (go_at_call 72; refine Calls.mono (areNums_any _ _ _ _ _ [a1, a2] _ rfl (by simp) (by exact cells_at (by simp) [a1, a2] _)) ?_; rintro e w' ⟨rfl, rfl⟩)
      rw [rounds_succ]
      go_wp2_with (go_at_call 72; refine Calls.mono (areNums_any _ _ _ _ _ [b1, b2] _ rfl (by simp) (by exact cells_at (by simp) [b1, b2] _)) ?_; rintro e w' ⟨rfl, rfl⟩)
      go_ret
      exact ⟨ret_bool (by first | exact HV.out.symm | rfl), by (repeat (first | exact Below.refl _ _ | assumption | refine balloc ?_ _ | refine bdrewN ?_ _ | refine Below.drew ?_ | refine Below.setCell ?_ (by first | (simp; done) | (simp; omega)) _))⟩
    · have HV := Lib.hid (show (numsIn p [a1, a2, b1, b2]) = true by simp [numsApp2, h0, h1])
      go_enter Try.func59, Try.ntmps59
      go_wp2
      refine wp_loop_rounds 3 ?_
      rw [rounds_succ]
      go_wp2_with (go_at_call 72; refine Calls.mono (areNums_any _ _ _ _ _ [a1, a2] _ rfl (by simp) (by exact cells_at (by simp) [a1, a2] _)) ?_; rintro e w' ⟨rfl, rfl⟩)
      rw [rounds_succ]
      go_wp2_with (go_at_call 72; refine Calls.mono (areNums_any _ _ _ _ _ [b1, b2] _ rfl (by simp) (by exact cells_at (by simp) [b1, b2] _)) ?_; rintro e w' ⟨rfl, rfl⟩)
      rw [rounds_succ]
      go_wp2
      go_ret
      exact ⟨ret_bool (by first | exact HV.out.symm | rfl), by (repeat (first | exact Below.refl _ _ | assumption | refine balloc ?_ _ | refine bdrewN ?_ _ | refine Below.drew ?_ | refine Below.setCell ?_ (by first | (simp; done) | (simp; omega)) _))⟩

set_option maxRecDepth 20000 in
set_option maxHeartbeats 2000000 in
theorem implPoints3 (p a1 a2 b1 b2 c1 c2 : Int) (b : Nat) (w : World) (hb : b = w.heap.size) :
    Calls Try.prog 59 #[.int .i64 p, .slice (some ⟨b, 0, none⟩) 3 3] (w.alloc (.cells #[.int .i64 a1, .int .i64 a2, .int .i64 b1, .int .i64 b2, .int .i64 c1, .int .i64 c2] 25)) fun e w' => e = .returned (.bool (numsIn p [a1, a2, b1, b2, c1, c2])) ∧ Below w.heap.size w w' := by
  subst hb
  cases h0 : numsIn p [a1, a2]
  · have HV := Lib.hid (show (numsIn p [a1, a2, b1, b2, c1, c2]) = false by simp [numsApp3, h0])
    go_enter Try.func59, Try.ntmps59
    go_wp2
    refine wp_loop_rounds 4 ?_
    rw [rounds_succ]
    go_wp2_with (go_at_call 72; refine Calls.mono (areNums_any _ _ _ _ _ [a1, a2] _ rfl (by simp) (by exact cells_at (by simp) [a1, a2] _)) ?_; rintro e w' ⟨rfl, rfl⟩)
    go_ret
    exact ⟨ret_bool (by first | exact HV.out.symm | rfl), by (repeat (first | exact Below.refl _ _ | assumption | refine balloc ?_ _ | refine bdrewN ?_ _ | refine Below.drew ?_ | refine Below.setCell ?_ (by first | (simp; done) | (simp; omega)) _))⟩
  · cases h1 : numsIn p [b1, b2]
    · have HV := Lib.hid (show (numsIn p [a1, a2, b1, b2, c1, c2]) = false by simp [numsApp3, h0, h1])
      go_enter Try.func59, Try.ntmps59
      go_wp2
      refine wp_loop_rounds 4 ?_
      rw [rounds_succ]
      go_wp2_with (go_at_call 72; refine Calls.mono (areNums_any _ _ _ _ _ [a1, a2] _ rfl (by simp) (by exact cells_at (by simp) [a1, a2] _)) ?_; rintro e w' ⟨rfl, rfl⟩)
      rw [rounds_succ]
      go_wp2_with (go_at_call 72; refine Calls.mono (areNums_any _ _ _ _ _ [b1, b2] _ rfl (by simp) (by exact cells_at (by simp) [b1, b2] _)) ?_; rintro e w' ⟨rfl, rfl⟩)
      go_ret
      exact ⟨ret_bool (by first | exact HV.out.symm | rfl), by (repeat (first | exact Below.refl _ _ | assumption | refine balloc ?_ _ | refine bdrewN ?_ _ | refine Below.drew ?_ | refine Below.setCell ?_ (by first | (simp; done) | (simp; omega)) _))⟩
    · cases h2 : numsIn p [c1, c2]
      · have HV := Lib.hid (show (numsIn p [a1, a2, b1, b2, c1, c2]) = false by simp [numsApp3, h0, h1, h2])
        go_enter Try.func59, Try.ntmps59
        go_wp2
        refine wp_loop_rounds 4 ?_
        rw [rounds_succ]
        go_wp2_with (go_at_call 72; refine Calls.mono (areNums_any _ _ _ _ _ [a1, a2] _ rfl (by simp) (by exact cells_at (by simp) [a1, a2] _)) ?_; rintro e w' ⟨rfl, rfl⟩)
        rw [rounds_succ]
        go_wp2_with (go_at_call 72; refine Calls.mono (areNums_any _ _ _ _ _ [b1, b2] _ rfl (by simp) (by exact cells_at (by simp) [b1, b2] _)) ?_; rintro e w' ⟨rfl, rfl⟩)
        rw [rounds_succ]
        go_wp2_with (go_at_call 72; refine Calls.mono (areNums_any _ _ _ _ _ [c1, c2] _ rfl (by simp) (by exact cells_at (by simp) [c1, c2] _)) ?_; rintro e w' ⟨rfl, rfl⟩)
        go_ret
        exact ⟨ret_bool (by first | exact HV.out.symm | rfl), by (repeat (first | exact Below.refl _ _ | assumption | refine balloc ?_ _ | refine bdrewN ?_ _ | refine Below.drew ?_ | refine Below.setCell ?_ (by first | (simp; done) | (simp; omega)) _))⟩
      · have HV := Lib.hid (show (numsIn p [a1, a2, b1, b2, c1, c2]) = true by simp [numsApp3, h0, h1, h2])
        go_enter Try.func59, Try.ntmps59
        go_wp2
        refine wp_loop_rounds 4 ?_
        rw [rounds_succ]
        go_wp2_with (go_at_call 72; refine Calls.mono (areNums_any _ _ _ _ _ [a1, a2] _ rfl (by simp) (by exact cells_at (by simp) [a1, a2] _)) ?_; rintro e w' ⟨rfl, rfl⟩)
        rw [rounds_succ]
        go_wp2_with (go_at_call 72; refine Calls.mono (areNums_any _ _ _ _ _ [b1, b2] _ rfl (by simp) (by exact cells_at (by simp) [b1, b2] _)) ?_; rintro e w' ⟨rfl, rfl⟩)
        rw [rounds_succ]
        go_wp2_with (go_at_call 72; refine Calls.mono (areNums_any _ _ _ _ _ [c1, c2] _ rfl (by simp) (by exact cells_at (by simp) [c1, c2] _)) ?_; rintro e w' ⟨rfl, rfl⟩)
        rw [rounds_succ]
        go_wp2
        go_ret
        exact ⟨ret_bool (by first | exact HV.out.symm | rfl), by (repeat (first | exact Below.refl _ _ | assumption | refine balloc ?_ _ | refine bdrewN ?_ _ | refine Below.drew ?_ | refine Below.setCell ?_ (by first | (simp; done) | (simp; omega)) _))⟩

end Go.Proofs.Ytodabjolblamgaa
