/-
  impl.shadeOf and the shades' products behind their interface.
-/
import Derived.Test.YtmpgpmcmhbpjeaaImplProd1c
import Derived.Test.YtmpgpmcmhbpjeaaMgc0

namespace Go.Proofs.Ytmpgpmcmhbpjeaa
open Go.RowKit

/-- The value of a colour behind the interface. -/
def shV (c : Int) : Value := if c = 0 then .iface 128 (.agg #[]) else if c = 1 then .iface 129 (.agg #[]) else .iface 130 (.agg #[])
/-- The method that a call through the interface comes to. -/
theorem shV_0 : shV 0 = .iface 128 (.agg #[]) := rfl
theorem shV_1 : shV 1 = .iface 129 (.agg #[]) := rfl
theorem shV_2 : shV 2 = .iface 130 (.agg #[]) := rfl
theorem nil_blue (n : Nat) (w : World) : (nilAhead (n + 1) 128 (.agg #[]) "loop.example/g01370/impl.productOf").run Try.prog w = .ok (some false) w := by kernel_rfl
theorem nil_red (n : Nat) (w : World) : (nilAhead (n + 1) 129 (.agg #[]) "loop.example/g01370/impl.productOf").run Try.prog w = .ok (some false) w := by kernel_rfl
theorem nil_green (n : Nat) (w : World) : (nilAhead (n + 1) 130 (.agg #[]) "loop.example/g01370/impl.productOf").run Try.prog w = .ok (some false) w := by kernel_rfl
theorem meth_blue (n : Nat) (w : World) : (method (n + 1) 128 (.agg #[]) "loop.example/g01370/impl.productOf").run Try.prog w = .ok (151, .agg #[]) w := by kernel_rfl
theorem meth_red (n : Nat) (w : World) : (method (n + 1) 129 (.agg #[]) "loop.example/g01370/impl.productOf").run Try.prog w = .ok (152, .agg #[]) w := by kernel_rfl
theorem meth_green (n : Nat) (w : World) : (method (n + 1) 130 (.agg #[]) "loop.example/g01370/impl.productOf").run Try.prog w = .ok (153, .agg #[]) w := by kernel_rfl

set_option maxRecDepth 20000 in
set_option maxHeartbeats 400000 in
theorem shadeOf_any (c : Int) (w : World) (hc : colB c = true) :
    Calls Try.prog 63 #[.int .i64 c] w fun e w' => e = .returned (shV c) ∧ Below w.heap.size w w' := by
  rcases colB_ways hc with rfl | rfl | rfl
  all_goals
    go_enter Try.func63, Try.ntmps63
    go_wp2
    go_ret
    exact ⟨rfl, by (repeat (first | exact Below.refl _ _ | assumption | refine balloc ?_ _ | refine bdrewN ?_ _ | refine Below.drew ?_ | refine Below.setCell ?_ (by first | (simp; done) | (simp; omega)) _))⟩

set_option maxRecDepth 20000 in
set_option maxHeartbeats 400000 in
theorem sh0_any (a1 a2 b1 b2 : Int) (w : World) (ha1 : 0 ≤ a1 ∧ a1 ≤ 31) (ha2 : 0 ≤ a2 ∧ a2 ≤ 31) (hb1 : 0 ≤ b1 ∧ b1 ≤ 31) (hb2 : 0 ≤ b2 ∧ b2 ≤ 31) :
    Calls Try.prog 151 #[.agg #[], .agg #[.int .i64 a1, .int .i64 a2], .agg #[.int .i64 b1, .int .i64 b2]] w fun e w' =>
      e = .returned (.int .i64 (rawp 0 a1 a2 b1 b2)) ∧ Below w.heap.size w w' := by
  have HV := Lib.hid (show rawp 0 a1 a2 b1 b2 = a1 * b1 + a2 * b2 from rfl)
  go_enter Try.func151, Try.ntmps151
  (go_wp2_with fail; refine Calls.mono (blue_any _ _ _ _ _ (by omega) (by omega) (by omega) (by omega)) ?_; rintro e w1 ⟨rfl, hB1⟩; obtain ⟨hB1c, hB1f⟩ := bcell hB1; have hB1s := hB1.size; (try simp at hB1s); (try have hB1q1 := Nat.lt_of_succ_le hB1s); (try have hB1q2 := Nat.lt_of_succ_lt hB1q1); (try have hB1q3 := Nat.lt_of_succ_lt hB1q2); (try have hB1zw0 : w.heap.size < w1.heap.size := (by omega)); (try have hB1zw1 : w.heap.size + 1 < w1.heap.size := (by omega)); (try have hB1zw2 : w.heap.size + 1 + 1 < w1.heap.size := (by omega)); (try have hB1zw3 : w.heap.size + 1 + 1 + 1 < w1.heap.size := (by omega)); (try have hB1zw4 : w.heap.size + 1 + 1 + 1 + 1 < w1.heap.size := (by omega)))
  go_wp2
  go_ret
  exact ⟨ret_int HV.out.symm, by (repeat (first | exact Below.refl _ _ | refine balloc ?_ _ | refine bdrewN ?_ _ | refine Below.drew ?_ | refine bthen ?_ hB1 | refine Below.setCell ?_ (by first | (simp; done) | (simp; omega)) _))⟩

set_option maxRecDepth 20000 in
set_option maxHeartbeats 400000 in
theorem sh1_any (a1 a2 b1 b2 : Int) (w : World) (ha1 : 0 ≤ a1 ∧ a1 ≤ 31) (ha2 : 0 ≤ a2 ∧ a2 ≤ 31) (hb1 : 0 ≤ b1 ∧ b1 ≤ 31) (hb2 : 0 ≤ b2 ∧ b2 ≤ 31) :
    Calls Try.prog 152 #[.agg #[], .agg #[.int .i64 a1, .int .i64 a2], .agg #[.int .i64 b1, .int .i64 b2]] w fun e w' =>
      e = .returned (.int .i64 (rawp 1 a1 a2 b1 b2)) ∧ Below w.heap.size w w' := by
  have HV := Lib.hid (show rawp 1 a1 a2 b1 b2 = a1 * b1 - a2 * b2 from rfl)
  go_enter Try.func152, Try.ntmps152
  (go_wp2_with fail; refine Calls.mono (red_any _ _ _ _ _ (by omega) (by omega) (by omega) (by omega)) ?_; rintro e w1 ⟨rfl, hB1⟩; obtain ⟨hB1c, hB1f⟩ := bcell hB1; have hB1s := hB1.size; (try simp at hB1s); (try have hB1q1 := Nat.lt_of_succ_le hB1s); (try have hB1q2 := Nat.lt_of_succ_lt hB1q1); (try have hB1q3 := Nat.lt_of_succ_lt hB1q2); (try have hB1zw0 : w.heap.size < w1.heap.size := (by omega)); (try have hB1zw1 : w.heap.size + 1 < w1.heap.size := (by omega)); (try have hB1zw2 : w.heap.size + 1 + 1 < w1.heap.size := (by omega)); (try have hB1zw3 : w.heap.size + 1 + 1 + 1 < w1.heap.size := (by omega)); (try have hB1zw4 : w.heap.size + 1 + 1 + 1 + 1 < w1.heap.size := (by omega)))
  go_wp2
  go_ret
  exact ⟨ret_int HV.out.symm, by (repeat (first | exact Below.refl _ _ | refine balloc ?_ _ | refine bdrewN ?_ _ | refine Below.drew ?_ | refine bthen ?_ hB1 | refine Below.setCell ?_ (by first | (simp; done) | (simp; omega)) _))⟩

set_option maxRecDepth 20000 in
set_option maxHeartbeats 400000 in
theorem sh2_any (a1 a2 b1 b2 : Int) (w : World) (ha1 : 0 ≤ a1 ∧ a1 ≤ 31) (ha2 : 0 ≤ a2 ∧ a2 ≤ 31) (hb1 : 0 ≤ b1 ∧ b1 ≤ 31) (hb2 : 0 ≤ b2 ∧ b2 ≤ 31) :
    Calls Try.prog 153 #[.agg #[], .agg #[.int .i64 a1, .int .i64 a2], .agg #[.int .i64 b1, .int .i64 b2]] w fun e w' =>
      e = .returned (.int .i64 (rawp 2 a1 a2 b1 b2)) ∧ Below w.heap.size w w' := by
  have HV := Lib.hid (show rawp 2 a1 a2 b1 b2 = a1 * b2 + a2 * b1 from rfl)
  go_enter Try.func153, Try.ntmps153
  (go_wp2_with fail; refine Calls.mono (green_any _ _ _ _ _ (by omega) (by omega) (by omega) (by omega)) ?_; rintro e w1 ⟨rfl, hB1⟩; obtain ⟨hB1c, hB1f⟩ := bcell hB1; have hB1s := hB1.size; (try simp at hB1s); (try have hB1q1 := Nat.lt_of_succ_le hB1s); (try have hB1q2 := Nat.lt_of_succ_lt hB1q1); (try have hB1q3 := Nat.lt_of_succ_lt hB1q2); (try have hB1zw0 : w.heap.size < w1.heap.size := (by omega)); (try have hB1zw1 : w.heap.size + 1 < w1.heap.size := (by omega)); (try have hB1zw2 : w.heap.size + 1 + 1 < w1.heap.size := (by omega)); (try have hB1zw3 : w.heap.size + 1 + 1 + 1 < w1.heap.size := (by omega)); (try have hB1zw4 : w.heap.size + 1 + 1 + 1 + 1 < w1.heap.size := (by omega)))
  go_wp2
  go_ret
  exact ⟨ret_int HV.out.symm, by (repeat (first | exact Below.refl _ _ | refine balloc ?_ _ | refine bdrewN ?_ _ | refine Below.drew ?_ | refine bthen ?_ hB1 | refine Below.setCell ?_ (by first | (simp; done) | (simp; omega)) _))⟩

end Go.Proofs.Ytmpgpmcmhbpjeaa
