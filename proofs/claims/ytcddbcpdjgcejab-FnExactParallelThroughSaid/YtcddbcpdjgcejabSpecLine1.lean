/-
  The model's points on lines and parallels: spec.l01Both, spec.l01On, spec.l01Parallel.
-/
import Derived.Test.YtcddbcpdjgcejabSpecPts
import Derived.Test.YtcddbcpdjgcejabSpecLins
import Derived.Test.YtcddbcpdjgcejabMod
import Derived.Test.YtcddbcpdjgcejabLineVals
namespace Go.Proofs.Ytcddbcpdjgcejab
open Go.RowKit

set_option maxHeartbeats 1000000 in
theorem both_any (p a1 a2 l1 l2 l3 : Int) (w : World) :
    Calls Try.prog 34 #[.int .i64 p, .agg #[.int .i64 a1, .int .i64 a2], .agg #[.int .i64 l1, .int .i64 l2, .int .i64 l3]] w fun e w' =>
      e = .returned (.int .i64 (codeOf p (numsIn p [a1, a2] && lineB p l1 l2 l3))) ∧ Below w.heap.size w w' := by
  rcases code_cases p (numsIn p [a1, a2]) with ⟨h0, hp, hn⟩ | h0 | h0
  · have HV := Lib.hid (show codeOf p (numsIn p [a1, a2] && lineB p l1 l2 l3) = codeOf p (lineB p l1 l2 l3) by rw [hn, Bool.true_and])
    clear hn
    go_enter Try.func34, Try.ntmps34
    (go_wp2_with fail; refine Calls.mono (specCode1 _ _ _ _ _ (by simp)) ?_; rintro e w1 ⟨rfl, hB1⟩; obtain ⟨hB1c, hB1f⟩ := bcell hB1; have hB1s := hB1.size; (try simp at hB1s); (try have hB1q1 := Nat.lt_of_succ_le hB1s); (try have hB1q2 := Nat.lt_of_succ_lt hB1q1); (try have hB1q3 := Nat.lt_of_succ_lt hB1q2); (try have hB1zw0 : w.heap.size < w1.heap.size := (by omega)); (try have hB1zw1 : w.heap.size + 1 < w1.heap.size := (by omega)); (try have hB1zw2 : w.heap.size + 1 + 1 < w1.heap.size := (by omega)))
    (go_wp2_with fail; refine Calls.mono (specLines1 _ _ _ _ _ _ rfl) ?_; rintro e w2 ⟨rfl, hB2⟩; obtain ⟨hB2c, hB2f⟩ := bcell hB2; have hB2s := hB2.size; (try simp at hB2s); (try have hB2q1 := Nat.lt_of_succ_le hB2s); (try have hB2q2 := Nat.lt_of_succ_lt hB2q1); (try have hB2q3 := Nat.lt_of_succ_lt hB2q2); (try have hB2zw0 : w.heap.size < w2.heap.size := (by omega)); (try have hB2zw1 : w.heap.size + 1 < w2.heap.size := (by omega)); (try have hB2zw2 : w.heap.size + 1 + 1 < w2.heap.size := (by omega)))
    go_wp2
    go_ret
    exact ⟨ret_int HV.out.symm, by (repeat (first | exact Below.refl _ _ | refine balloc ?_ _ | refine bdrewN ?_ _ | refine Below.drew ?_ | refine bthen ?_ hB1 | refine bthen ?_ hB2 | refine Below.setCell ?_ (by first | (simp; done) | (simp; omega)) _))⟩
  · have HV := Lib.hid (show codeOf p (numsIn p [a1, a2] && lineB p l1 l2 l3) = 1 by
      cases hp : isP p
      · exact codeOf_no hp
      · revert h0; cases numsIn p [a1, a2] <;> simp [codeOf, hp])
    go_enter Try.func34, Try.ntmps34
    (go_wp2_with fail; refine Calls.mono (specCode1 _ _ _ _ _ (by simp)) ?_; rintro e w1 ⟨rfl, hB1⟩; obtain ⟨hB1c, hB1f⟩ := bcell hB1; have hB1s := hB1.size; (try simp at hB1s); (try have hB1q1 := Nat.lt_of_succ_le hB1s); (try have hB1q2 := Nat.lt_of_succ_lt hB1q1); (try have hB1q3 := Nat.lt_of_succ_lt hB1q2); (try have hB1zw0 : w.heap.size < w1.heap.size := (by omega)); (try have hB1zw1 : w.heap.size + 1 < w1.heap.size := (by omega)); (try have hB1zw2 : w.heap.size + 1 + 1 < w1.heap.size := (by omega)))
    go_wp2
    go_ret
    exact ⟨ret_int HV.out.symm, by (repeat (first | exact Below.refl _ _ | refine balloc ?_ _ | refine bdrewN ?_ _ | refine Below.drew ?_ | refine bthen ?_ hB1 | refine Below.setCell ?_ (by first | (simp; done) | (simp; omega)) _))⟩
  · have HV := Lib.hid (show codeOf p (numsIn p [a1, a2] && lineB p l1 l2 l3) = 2 by
      cases hp : isP p
      · rw [codeOf_no hp] at h0; omega
      · revert h0; cases numsIn p [a1, a2] <;> simp [codeOf, hp])
    go_enter Try.func34, Try.ntmps34
    (go_wp2_with fail; refine Calls.mono (specCode1 _ _ _ _ _ (by simp)) ?_; rintro e w1 ⟨rfl, hB1⟩; obtain ⟨hB1c, hB1f⟩ := bcell hB1; have hB1s := hB1.size; (try simp at hB1s); (try have hB1q1 := Nat.lt_of_succ_le hB1s); (try have hB1q2 := Nat.lt_of_succ_lt hB1q1); (try have hB1q3 := Nat.lt_of_succ_lt hB1q2); (try have hB1zw0 : w.heap.size < w1.heap.size := (by omega)); (try have hB1zw1 : w.heap.size + 1 < w1.heap.size := (by omega)); (try have hB1zw2 : w.heap.size + 1 + 1 < w1.heap.size := (by omega)))
    go_wp2
    go_ret
    exact ⟨ret_int HV.out.symm, by (repeat (first | exact Below.refl _ _ | refine balloc ?_ _ | refine bdrewN ?_ _ | refine Below.drew ?_ | refine bthen ?_ hB1 | refine Below.setCell ?_ (by first | (simp; done) | (simp; omega)) _))⟩

/-- Whether the point is on the line. -/
def onB (p a1 a2 l1 l2 l3 : Int) : Bool := (l1 * a1 + l2 * a2 + l3) % p == 0

set_option maxHeartbeats 400000 in
theorem specOn_any (p a1 a2 l1 l2 l3 : Int) (w : World) (hp : isP p = true) (ha1 : 0 ≤ a1 ∧ a1 ≤ 31) (ha2 : 0 ≤ a2 ∧ a2 ≤ 31) (hl1 : 0 ≤ l1 ∧ l1 ≤ 31) (hl2 : 0 ≤ l2 ∧ l2 ≤ 31) (hl3 : 0 ≤ l3 ∧ l3 ≤ 31) :
    Calls Try.prog 35 #[.int .i64 p, .agg #[.int .i64 a1, .int .i64 a2], .agg #[.int .i64 l1, .int .i64 l2, .int .i64 l3]] w fun e w' =>
      e = .returned (.bool (onB p a1 a2 l1 l2 l3)) ∧ Below w.heap.size w w' := by
  have hr := isP_range hp
  have m1 := mulP hl1 ha1
  have m2 := mulP hl2 ha2
  cases hb : ((l1 * a1 + l2 * a2 + l3) % p == 0)
  all_goals
    have HV := Lib.hid (show onB p a1 a2 l1 l2 l3 = _ from hb)
    go_enter Try.func35, Try.ntmps35
    go_wp2
    go_ret
    exact ⟨ret_bool HV.out.symm, by (repeat (first | exact Below.refl _ _ | assumption | refine balloc ?_ _ | refine bdrewN ?_ _ | refine Below.drew ?_ | refine Below.setCell ?_ (by first | (simp; done) | (simp; omega)) _))⟩

/-- The third number of the parallel through a point. -/
def par3 (p a1 a2 l1 l2 : Int) : Int := (-l1 * a1 - l2 * a2) % p

set_option maxHeartbeats 400000 in
theorem specParallel_any (p a1 a2 l1 l2 l3 : Int) (w : World) (hp : isP p = true) (ha1 : 0 ≤ a1 ∧ a1 ≤ 31) (ha2 : 0 ≤ a2 ∧ a2 ≤ 31) (hl1 : 0 ≤ l1 ∧ l1 ≤ 31) (hl2 : 0 ≤ l2 ∧ l2 ≤ 31) :
    Calls Try.prog 42 #[.int .i64 p, .agg #[.int .i64 l1, .int .i64 l2, .int .i64 l3], .agg #[.int .i64 a1, .int .i64 a2]] w fun e w' =>
      e = .returned (.agg #[.int .i64 l1, .int .i64 l2, .int .i64 (par3 p a1 a2 l1 l2)]) ∧ Below w.heap.size w w' := by
  have hr := isP_range hp
  have m1 := mulP hl1 ha1
  have m2 := mulP hl2 ha2
  have m3 := mulB (a := -l1) (b := a1) (by omega) (by omega)
  have e1 : IntKind.i64.wrap (-l1) = -l1 := IntWalk.i64_in _ (by omega)
  have e2 : IntKind.i64.wrap (-l1 * a1) = -l1 * a1 := IntWalk.i64_in _ (by omega)
  have e3 : IntKind.i64.wrap (l2 * a2) = l2 * a2 := IntWalk.i64_in _ (by omega)
  have e4 : IntKind.i64.wrap (-l1 * a1 - l2 * a2) = -l1 * a1 - l2 * a2 := IntWalk.i64_in _ (by omega)
  have HV := Lib.hid (show par3 p a1 a2 l1 l2 = (-l1 * a1 - l2 * a2) % p from rfl)
  go_enter Try.func42, Try.ntmps42
  go_wp2_with fail
  (refine region_tail 19 (by kernel_rfl) (by kernel_rfl) ?_; simp only [List.take_succ_cons, List.take_zero, List.drop_succ_cons, List.drop_zero]; repeat still_step)
  (still_call (stillOf (mod_any _ _ _ (by omega) (by omega) (by omega) (by omega))); repeat still_step)
  refine wpStill_nil ?_
  go_wp2
  (refine bodyPost_ret (v := .agg #[.int .i64 l1, .int .i64 l2, .int .i64 (par3 p a1 a2 l1 l2)]) (by simp [results, Try.results42, go_sem, HV.out]) rfl ⟨?_, ?_⟩)
  · rfl
  · (repeat (first | exact Below.refl _ _ | assumption | refine balloc ?_ _ | refine bdrewN ?_ _ | refine Below.drew ?_ | refine Below.setCell ?_ (by first | (simp; done) | (simp; omega)) _))

end Go.Proofs.Ytcddbcpdjgcejab
