/-
  spec.l01Both.
-/
import Derived.Test.YtijmmagdkbnhdaaSpecPts
import Derived.Test.YtijmmagdkbnhdaaSpecLins
namespace Go.Proofs.Ytijmmagdkbnhdaa
open Go.RowKit

set_option maxRecDepth 20000 in
set_option maxHeartbeats 1000000 in
theorem both_any (p a1 a2 l1 l2 l3 : Int) (w : World) :
    Calls Try.prog 101 #[.int .i64 p, .agg #[.int .i64 a1, .int .i64 a2], .agg #[.int .i64 l1, .int .i64 l2, .int .i64 l3]] w fun e w' =>
      e = .returned (.int .i64 (codeOf p (numsIn p [a1, a2] && lineB p l1 l2 l3))) ∧ Below w.heap.size w w' := by
  rcases code_cases p (numsIn p [a1, a2]) with ⟨h0, hp, hn⟩ | h0 | h0
  · have HV := Lib.hid (show codeOf p (numsIn p [a1, a2] && lineB p l1 l2 l3) = codeOf p (lineB p l1 l2 l3) by rw [hn, Bool.true_and])
    clear hn
    go_enter Try.func101, Try.ntmps101
    (go_wp2_with fail; refine Calls.mono (specCode1 _ _ _ _ _ (by simp)) ?_; rintro e w1 ⟨rfl, hB1⟩; obtain ⟨hB1c, hB1f⟩ := bcell hB1; have hB1s := hB1.size; (try simp at hB1s); (try have hB1q1 := Nat.lt_of_succ_le hB1s); (try have hB1q2 := Nat.lt_of_succ_lt hB1q1); (try have hB1q3 := Nat.lt_of_succ_lt hB1q2); (try have hB1zw0 : w.heap.size < w1.heap.size := (by omega)); (try have hB1zw1 : w.heap.size + 1 < w1.heap.size := (by omega)); (try have hB1zw2 : w.heap.size + 1 + 1 < w1.heap.size := (by omega)); (try have hB1zw3 : w.heap.size + 1 + 1 + 1 < w1.heap.size := (by omega)); (try have hB1zw4 : w.heap.size + 1 + 1 + 1 + 1 < w1.heap.size := (by omega)))
    (go_wp2_with fail; refine Calls.mono (specLines1 _ _ _ _ _ _ rfl) ?_; rintro e w2 ⟨rfl, hB2⟩; obtain ⟨hB2c, hB2f⟩ := bcell hB2; have hB2s := hB2.size; (try simp at hB2s); (try have hB2q1 := Nat.lt_of_succ_le hB2s); (try have hB2q2 := Nat.lt_of_succ_lt hB2q1); (try have hB2q3 := Nat.lt_of_succ_lt hB2q2); (try have hB2zw0 : w.heap.size < w2.heap.size := (by omega)); (try have hB2zw1 : w.heap.size + 1 < w2.heap.size := (by omega)); (try have hB2zw2 : w.heap.size + 1 + 1 < w2.heap.size := (by omega)); (try have hB2zw3 : w.heap.size + 1 + 1 + 1 < w2.heap.size := (by omega)); (try have hB2zw4 : w.heap.size + 1 + 1 + 1 + 1 < w2.heap.size := (by omega)))
    go_wp2
    go_ret
    exact ⟨ret_int HV.out.symm, by (repeat (first | exact Below.refl _ _ | refine balloc ?_ _ | refine bdrewN ?_ _ | refine Below.drew ?_ | refine bthen ?_ hB1 | refine bthen ?_ hB2 | refine Below.setCell ?_ (by first | (simp; done) | (simp; omega)) _))⟩
  · have HV := Lib.hid (show codeOf p (numsIn p [a1, a2] && lineB p l1 l2 l3) = 1 by
      cases hp : isP p
      · exact codeOf_no hp
      · revert h0; cases numsIn p [a1, a2] <;> simp [codeOf, hp])
    go_enter Try.func101, Try.ntmps101
    (go_wp2_with fail; refine Calls.mono (specCode1 _ _ _ _ _ (by simp)) ?_; rintro e w1 ⟨rfl, hB1⟩; obtain ⟨hB1c, hB1f⟩ := bcell hB1; have hB1s := hB1.size; (try simp at hB1s); (try have hB1q1 := Nat.lt_of_succ_le hB1s); (try have hB1q2 := Nat.lt_of_succ_lt hB1q1); (try have hB1q3 := Nat.lt_of_succ_lt hB1q2); (try have hB1zw0 : w.heap.size < w1.heap.size := (by omega)); (try have hB1zw1 : w.heap.size + 1 < w1.heap.size := (by omega)); (try have hB1zw2 : w.heap.size + 1 + 1 < w1.heap.size := (by omega)); (try have hB1zw3 : w.heap.size + 1 + 1 + 1 < w1.heap.size := (by omega)); (try have hB1zw4 : w.heap.size + 1 + 1 + 1 + 1 < w1.heap.size := (by omega)))
    go_wp2
    go_ret
    exact ⟨ret_int HV.out.symm, by (repeat (first | exact Below.refl _ _ | refine balloc ?_ _ | refine bdrewN ?_ _ | refine Below.drew ?_ | refine bthen ?_ hB1 | refine Below.setCell ?_ (by first | (simp; done) | (simp; omega)) _))⟩
  · have HV := Lib.hid (show codeOf p (numsIn p [a1, a2] && lineB p l1 l2 l3) = 2 by
      cases hp : isP p
      · rw [codeOf_no hp] at h0; omega
      · revert h0; cases numsIn p [a1, a2] <;> simp [codeOf, hp])
    go_enter Try.func101, Try.ntmps101
    (go_wp2_with fail; refine Calls.mono (specCode1 _ _ _ _ _ (by simp)) ?_; rintro e w1 ⟨rfl, hB1⟩; obtain ⟨hB1c, hB1f⟩ := bcell hB1; have hB1s := hB1.size; (try simp at hB1s); (try have hB1q1 := Nat.lt_of_succ_le hB1s); (try have hB1q2 := Nat.lt_of_succ_lt hB1q1); (try have hB1q3 := Nat.lt_of_succ_lt hB1q2); (try have hB1zw0 : w.heap.size < w1.heap.size := (by omega)); (try have hB1zw1 : w.heap.size + 1 < w1.heap.size := (by omega)); (try have hB1zw2 : w.heap.size + 1 + 1 < w1.heap.size := (by omega)); (try have hB1zw3 : w.heap.size + 1 + 1 + 1 < w1.heap.size := (by omega)); (try have hB1zw4 : w.heap.size + 1 + 1 + 1 + 1 < w1.heap.size := (by omega)))
    go_wp2
    go_ret
    exact ⟨ret_int HV.out.symm, by (repeat (first | exact Below.refl _ _ | refine balloc ?_ _ | refine bdrewN ?_ _ | refine Below.drew ?_ | refine bthen ?_ hB1 | refine Below.setCell ?_ (by first | (simp; done) | (simp; omega)) _))⟩

end Go.Proofs.Ytijmmagdkbnhdaa
