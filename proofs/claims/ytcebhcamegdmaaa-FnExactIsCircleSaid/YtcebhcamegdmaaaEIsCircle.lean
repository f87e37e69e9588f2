/-
  IsCircle: the program's and the model's.
-/
import Derived.Test.YtcebhcamegdmaaaSpecIsCircle
import Derived.Test.YtcebhcamegdmaaaImplCircles
import Derived.Test.YtcebhcamegdmaaaCode
import Derived.Deep.RegionHeld3
import Derived.Deep.DeepCutAuto
import Derived.Test.YtcebhcamegdmaaaBaseMath
namespace Go.Proofs.Ytcebhcamegdmaaa
open Go.RowKit

set_option linter.unusedVariables false in
def icV (p k1 k2 k3 : Int) : Bool := isP p && numsIn p [k1, k2, k3]
def icC (p : Int) : Int := if isP p = true then 0 else 1
set_option linter.unusedVariables false in
abbrev icD (p k1 k2 k3 : Int) : Int := icC p
set_option linter.unusedSimpArgs false in
set_option maxRecDepth 20000 in
set_option maxHeartbeats 4000000 in
theorem specIsCircle_any (p k1 k2 k3 : Int) (w : World) :
    Calls Try.prog 19 #[.int .i64 p, .agg #[.int .i64 k1, .int .i64 k2, .int .i64 k3]] w fun e w' =>
      e = .returned (.tuple #[.bool (icV p k1 k2 k3), .int .i64 (icC p)]) ∧ Below w.heap.size w w' := by
  go_enter Try.func19, Try.ntmps19
  go_wp2_with fail
  refine Calls.mono (field_any _ _ ) ?_
  rintro e w' ⟨rfl, rfl⟩
  rcases bool_ways (isP p) with hd1 | hd1
  · skip
    have HV := Lib.hid (show icV p k1 k2 k3 = false ∧ icC p = 1 from by simp [icV, icC, hd1])
    go_wp2
    (refine bodyPost_ret (v := .tuple #[.bool (icV p k1 k2 k3), .int .i64 (icC p)]) (by simp [results, Try.results19, go_sem, HV.out.1, HV.out.2, *]) rfl ⟨?_, ?_⟩)
    · rfl
    · (repeat (first | with_reducible exact Below.refl _ _ | with_reducible refine balloc ?_ _ | with_reducible refine bdrewN ?_ _ | with_reducible refine Below.drew ?_ | with_reducible refine bthen ?_ (by with_reducible assumption) | with_reducible refine Below.setCell ?_ (by first | (simp; done) | (simp; omega)) _))
  · have hp := hd1
    have hr := isP_range hp
    go_wp2_with fail
    refine Calls.mono (specIs_any _ _ _ _ _ hp) ?_
    rintro e w1 ⟨rfl, hB1⟩
    (obtain ⟨hB1c, hB1f⟩ := bcell hB1; have hB1s := hB1.size; (try simp at hB1s); (try have hB1q1 := Nat.lt_of_succ_le hB1s); (try have hB1q2 := Nat.lt_of_succ_lt hB1q1); (try have hB1q3 := Nat.lt_of_succ_lt hB1q2); (try have hB1zw0 : w.heap.size < w1.heap.size := (by omega)); (try have hB1zw1 : w.heap.size + 1 < w1.heap.size := (by omega)); (try have hB1zw2 : w.heap.size + 1 + 1 < w1.heap.size := (by omega)); (try have hB1zw3 : w.heap.size + 1 + 1 + 1 < w1.heap.size := (by omega)); (try have hB1zw4 : w.heap.size + 1 + 1 + 1 + 1 < w1.heap.size := (by omega)))
    have HV := Lib.hid (show icV p k1 k2 k3 = numsIn p [k1, k2, k3] ∧ icC p = 0 from by simp [icV, icC, hd1])
    go_wp2
    (refine bodyPost_ret (v := .tuple #[.bool (icV p k1 k2 k3), .int .i64 (icC p)]) (by simp [results, Try.results19, go_sem, HV.out.1, HV.out.2, *]) rfl ⟨?_, ?_⟩)
    · rfl
    · (repeat (first | with_reducible exact Below.refl _ _ | with_reducible refine balloc ?_ _ | with_reducible refine bdrewN ?_ _ | with_reducible refine Below.drew ?_ | with_reducible refine bthen ?_ (by with_reducible assumption) | with_reducible refine Below.setCell ?_ (by first | (simp; done) | (simp; omega)) _))

set_option linter.unusedSimpArgs false in
set_option maxRecDepth 20000 in
set_option maxHeartbeats 4000000 in
theorem implIsCircle_any (p k1 k2 k3 : Int) (w : World) :
    Calls Try.prog 21 #[.int .i64 p, .agg #[.int .i64 k1, .int .i64 k2, .int .i64 k3]] w fun e w' =>
      e = .returned (.tuple #[.bool (icV p k1 k2 k3), .int .i64 (icC p)]) ∧ Below w.heap.size w w' := by
  go_enter Try.func21, Try.ntmps21
  go_wp2_with fail
  refine Calls.mono (isField_any _ _ ) ?_
  rintro e w' ⟨rfl, rfl⟩
  rcases bool_ways (isP p) with hd1 | hd1
  · skip
    have HV := Lib.hid (show icV p k1 k2 k3 = false ∧ icC p = 1 from by simp [icV, icC, hd1])
    go_wp2
    (refine bodyPost_ret (v := .tuple #[.bool (icV p k1 k2 k3), .int .i64 (icC p)]) (by simp [results, Try.results21, go_sem, HV.out.1, HV.out.2, *]) rfl ⟨?_, ?_⟩)
    · rfl
    · (repeat (first | with_reducible exact Below.refl _ _ | with_reducible refine balloc ?_ _ | with_reducible refine bdrewN ?_ _ | with_reducible refine Below.drew ?_ | with_reducible refine bthen ?_ (by with_reducible assumption) | with_reducible refine Below.setCell ?_ (by first | (simp; done) | (simp; omega)) _))
  · have hp := hd1
    have hr := isP_range hp
    go_wp2_with fail
    refine Calls.mono (implCircles1 _ _ _ _ _ _ (by first | rfl | (simp; done))) ?_
    rintro e w1 ⟨rfl, hB1⟩
    (obtain ⟨hB1c, hB1f⟩ := bcell hB1; have hB1s := hB1.size; (try simp at hB1s); (try have hB1q1 := Nat.lt_of_succ_le hB1s); (try have hB1q2 := Nat.lt_of_succ_lt hB1q1); (try have hB1q3 := Nat.lt_of_succ_lt hB1q2); (try have hB1zw0 : w.heap.size < w1.heap.size := (by omega)); (try have hB1zw1 : w.heap.size + 1 < w1.heap.size := (by omega)); (try have hB1zw2 : w.heap.size + 1 + 1 < w1.heap.size := (by omega)); (try have hB1zw3 : w.heap.size + 1 + 1 + 1 < w1.heap.size := (by omega)); (try have hB1zw4 : w.heap.size + 1 + 1 + 1 + 1 < w1.heap.size := (by omega)))
    have HV := Lib.hid (show icV p k1 k2 k3 = numsIn p [k1, k2, k3] ∧ icC p = 0 from by simp [icV, icC, hd1])
    go_wp2
    (refine bodyPost_ret (v := .tuple #[.bool (icV p k1 k2 k3), .int .i64 (icC p)]) (by simp [results, Try.results21, go_sem, HV.out.1, HV.out.2, *]) rfl ⟨?_, ?_⟩)
    · rfl
    · (repeat (first | with_reducible exact Below.refl _ _ | with_reducible refine balloc ?_ _ | with_reducible refine bdrewN ?_ _ | with_reducible refine Below.drew ?_ | with_reducible refine bthen ?_ (by with_reducible assumption) | with_reducible refine Below.setCell ?_ (by first | (simp; done) | (simp; omega)) _))

end Go.Proofs.Ytcebhcamegdmaaa
