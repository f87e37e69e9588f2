/-
  impl.arePoints of the points of a desk.
-/
import Derived.Test.YtibfbdgenamlkaaImplPts
namespace Go.Proofs.Ytibfbdgenamlkaa
open Go.RowKit

set_option maxRecDepth 20000 in
set_option maxHeartbeats 1000000 in
theorem implPoints3At (p a1 a2 b1 b2 c1 c2 : Int) (b : Nat) (w : World) (h0' : w.cell? ⟨b, 2, none⟩ = some (.int .i64 a1)) (h1' : w.cell? ⟨b, 3, none⟩ = some (.int .i64 a2)) (h2' : w.cell? ⟨b, 4, none⟩ = some (.int .i64 b1)) (h3' : w.cell? ⟨b, 5, none⟩ = some (.int .i64 b2)) (h4' : w.cell? ⟨b, 6, none⟩ = some (.int .i64 c1)) (h5' : w.cell? ⟨b, 7, none⟩ = some (.int .i64 c2)) :
    Calls Try.prog 34 #[.int .i64 p, .slice (some ⟨b, 2, none⟩) 3 3] w fun e w' => e = .returned (.bool (numsIn p [a1, a2, b1, b2, c1, c2])) ∧ Below w.heap.size w w' := by
  have hbl := World.block_lt_of_cell? w ⟨b, 2, none⟩ h0'
  simp only at hbl
  cases h0 : numsIn p [a1, a2]
  · have HV := Lib.hid (show (numsIn p [a1, a2, b1, b2, c1, c2]) = false by simp [numsApp3, h0])
    go_enter Try.func34, Try.ntmps34
    go_wp2
    refine wp_loop_rounds 4 ?_
    rw [rounds_succ]
    go_wp2_with (go_at_call 60; refine Calls.mono (areNums_any _ _ _ _ _ [a1, a2] _ rfl (by simp) (by exact cells_at (by simp) [a1, a2] _)) ?_; rintro e w' ⟨rfl, rfl⟩)
    go_ret
    exact ⟨ret_bool (by first | exact HV.out.symm | rfl), by (repeat (first | exact Below.refl _ _ | assumption | refine balloc ?_ _ | refine bdrewN ?_ _ | refine Below.drew ?_ | refine Below.setCell ?_ (by first | (simp; done) | (simp; omega)) _))⟩
  · cases h1 : numsIn p [b1, b2]
    · have HV := Lib.hid (show (numsIn p [a1, a2, b1, b2, c1, c2]) = false by simp [numsApp3, h0, h1])
      go_enter Try.func34, Try.ntmps34
      go_wp2
      refine wp_loop_rounds 4 ?_
      rw [rounds_succ]
      go_wp2_with (go_at_call 60; refine Calls.mono (areNums_any _ _ _ _ _ [a1, a2] _ rfl (by simp) (by exact cells_at (by simp) [a1, a2] _)) ?_; rintro e w' ⟨rfl, rfl⟩)
      rw [rounds_succ]
      go_wp2_with (go_at_call 60; refine Calls.mono (areNums_any _ _ _ _ _ [b1, b2] _ rfl (by simp) (by exact cells_at (by simp) [b1, b2] _)) ?_; rintro e w' ⟨rfl, rfl⟩)
      go_ret
      exact ⟨ret_bool (by first | exact HV.out.symm | rfl), by (repeat (first | exact Below.refl _ _ | assumption | refine balloc ?_ _ | refine bdrewN ?_ _ | refine Below.drew ?_ | refine Below.setCell ?_ (by first | (simp; done) | (simp; omega)) _))⟩
    · cases h2 : numsIn p [c1, c2]
      · have HV := Lib.hid (show (numsIn p [a1, a2, b1, b2, c1, c2]) = false by simp [numsApp3, h0, h1, h2])
        go_enter Try.func34, Try.ntmps34
        go_wp2
        refine wp_loop_rounds 4 ?_
        rw [rounds_succ]
        go_wp2_with (go_at_call 60; refine Calls.mono (areNums_any _ _ _ _ _ [a1, a2] _ rfl (by simp) (by exact cells_at (by simp) [a1, a2] _)) ?_; rintro e w' ⟨rfl, rfl⟩)
        rw [rounds_succ]
        go_wp2_with (go_at_call 60; refine Calls.mono (areNums_any _ _ _ _ _ [b1, b2] _ rfl (by simp) (by exact cells_at (by simp) [b1, b2] _)) ?_; rintro e w' ⟨rfl, rfl⟩)
        rw [rounds_succ]
        go_wp2_with (go_at_call 60; refine Calls.mono (areNums_any _ _ _ _ _ [c1, c2] _ rfl (by simp) (by exact cells_at (by simp) [c1, c2] _)) ?_; rintro e w' ⟨rfl, rfl⟩)
        go_ret
        exact ⟨ret_bool (by first | exact HV.out.symm | rfl), by (repeat (first | exact Below.refl _ _ | assumption | refine balloc ?_ _ | refine bdrewN ?_ _ | refine Below.drew ?_ | refine Below.setCell ?_ (by first | (simp; done) | (simp; omega)) _))⟩
      · have HV := Lib.hid (show (numsIn p [a1, a2, b1, b2, c1, c2]) = true by simp [numsApp3, h0, h1, h2])
        go_enter Try.func34, Try.ntmps34
        go_wp2
        refine wp_loop_rounds 4 ?_
        rw [rounds_succ]
        go_wp2_with (go_at_call 60; refine Calls.mono (areNums_any _ _ _ _ _ [a1, a2] _ rfl (by simp) (by exact cells_at (by simp) [a1, a2] _)) ?_; rintro e w' ⟨rfl, rfl⟩)
        rw [rounds_succ]
        go_wp2_with (go_at_call 60; refine Calls.mono (areNums_any _ _ _ _ _ [b1, b2] _ rfl (by simp) (by exact cells_at (by simp) [b1, b2] _)) ?_; rintro e w' ⟨rfl, rfl⟩)
        rw [rounds_succ]
        go_wp2_with (go_at_call 60; refine Calls.mono (areNums_any _ _ _ _ _ [c1, c2] _ rfl (by simp) (by exact cells_at (by simp) [c1, c2] _)) ?_; rintro e w' ⟨rfl, rfl⟩)
        rw [rounds_succ]
        go_wp2
        go_ret
        exact ⟨ret_bool (by first | exact HV.out.symm | rfl), by (repeat (first | exact Below.refl _ _ | assumption | refine balloc ?_ _ | refine bdrewN ?_ _ | refine Below.drew ?_ | refine Below.setCell ?_ (by first | (simp; done) | (simp; omega)) _))⟩

end Go.Proofs.Ytibfbdgenamlkaa
