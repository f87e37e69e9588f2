/-
  ParallelThrough: the program's and the model's.
-/
import Derived.Test.YtcddbcpdjgcejabCode
import Derived.Test.YtcddbcpdjgcejabSpecLine1
import Derived.Test.YtcddbcpdjgcejabImplPts
import Derived.Test.YtcddbcpdjgcejabImplLins
import Derived.Test.YtcddbcpdjgcejabImplRest
import Derived.Test.YtcddbcpdjgcejabArr
import Derived.Test.YtcddbcpdjgcejabArrLine
namespace Go.Proofs.Ytcddbcpdjgcejab
open Go.RowKit

def ptC (p l1 l2 l3 a1 a2 : Int) : Int := codeOf p (numsIn p [a1, a2] && lineB p l1 l2 l3)
def ptV1 (p l1 l2 l3 a1 a2 : Int) : Int := if ptC p l1 l2 l3 a1 a2 = 0 then l1 else 0
def ptV2 (p l1 l2 l3 a1 a2 : Int) : Int := if ptC p l1 l2 l3 a1 a2 = 0 then l2 else 0
def ptV3 (p l1 l2 l3 a1 a2 : Int) : Int := if ptC p l1 l2 l3 a1 a2 = 0 then par3 p a1 a2 l1 l2 else 0
abbrev ptR (p l1 l2 l3 a1 a2 : Int) : Value := .tuple #[.agg #[.int .i64 (ptV1 p l1 l2 l3 a1 a2), .int .i64 (ptV2 p l1 l2 l3 a1 a2), .int .i64 (ptV3 p l1 l2 l3 a1 a2)], .int .i64 (ptC p l1 l2 l3 a1 a2)]
theorem pt_err {p l1 l2 l3 a1 a2 k : Int} (h : ptC p l1 l2 l3 a1 a2 = k) (hk : k ≠ 0) : ptV1 p l1 l2 l3 a1 a2 = 0 ∧ ptV2 p l1 l2 l3 a1 a2 = 0 ∧ ptV3 p l1 l2 l3 a1 a2 = 0 ∧ ptC p l1 l2 l3 a1 a2 = k := by
  simp [ptV1, ptV2, ptV3, h, hk]
theorem pt_good {p l1 l2 l3 a1 a2 : Int} (h : ptC p l1 l2 l3 a1 a2 = 0) : ptV1 p l1 l2 l3 a1 a2 = l1 ∧ ptV2 p l1 l2 l3 a1 a2 = l2 ∧ ptV3 p l1 l2 l3 a1 a2 = par3 p a1 a2 l1 l2 ∧ ptC p l1 l2 l3 a1 a2 = 0 := by
  simp [ptV1, ptV2, ptV3, h]

set_option maxHeartbeats 2000000 in
theorem specParallelThrough_any (p l1 l2 l3 a1 a2 : Int) (w : World) :
    Calls Try.prog 21 #[.int .i64 p, .agg #[.int .i64 l1, .int .i64 l2, .int .i64 l3], .agg #[.int .i64 a1, .int .i64 a2]] w fun e w' => e = .returned (ptR p l1 l2 l3 a1 a2) ∧ Below w.heap.size w w' := by
  rcases code_cases p (numsIn p [a1, a2] && lineB p l1 l2 l3) with ⟨h0, hp, hn⟩ | h0 | h0
  · have hr := isP_range hp
    have hx := Bool.and_eq_true_iff.1 hn
    have hq := nums2 hx.1
    have hl := nums3 (lineB_in hx.2).2
    have HV := Lib.hid (pt_good (l3 := l3) h0)
    clear hn hx
    go_enter Try.func21, Try.ntmps21
    (go_wp2_with fail; refine Calls.mono (both_any _ _ _ _ _ _ _) ?_; rintro e w1 ⟨rfl, hB1⟩; obtain ⟨hB1c, hB1f⟩ := bcell hB1; have hB1s := hB1.size; (try simp at hB1s); (try have hB1q1 := Nat.lt_of_succ_le hB1s); (try have hB1q2 := Nat.lt_of_succ_lt hB1q1); (try have hB1q3 := Nat.lt_of_succ_lt hB1q2); (try have hB1zw0 : w.heap.size < w1.heap.size := (by omega)); (try have hB1zw1 : w.heap.size + 1 < w1.heap.size := (by omega)); (try have hB1zw2 : w.heap.size + 1 + 1 < w1.heap.size := (by omega)))
    (go_wp2_with fail; refine Calls.mono (specParallel_any _ _ _ _ _ _ _ hp (by omega) (by omega) (by omega) (by omega)) ?_; rintro e w2 ⟨rfl, hB2⟩; obtain ⟨hB2c, hB2f⟩ := bcell hB2; have hB2s := hB2.size; (try simp at hB2s); (try have hB2q1 := Nat.lt_of_succ_le hB2s); (try have hB2q2 := Nat.lt_of_succ_lt hB2q1); (try have hB2q3 := Nat.lt_of_succ_lt hB2q2); (try have hB2zw0 : w.heap.size < w2.heap.size := (by omega)); (try have hB2zw1 : w.heap.size + 1 < w2.heap.size := (by omega)); (try have hB2zw2 : w.heap.size + 1 + 1 < w2.heap.size := (by omega)); (try have hB2zw10 : w1.heap.size < w2.heap.size := (by omega)); (try have hB2zw11 : w1.heap.size + 1 < w2.heap.size := (by omega)); (try have hB2zw12 : w1.heap.size + 1 + 1 < w2.heap.size := (by omega)))
    go_wp2
    (refine bodyPost_ret (v := ptR p l1 l2 l3 a1 a2) (by simp [results, Try.results21, go_sem, HV.out.1, HV.out.2.1, HV.out.2.2.1, HV.out.2.2.2, *]) rfl ⟨?_, ?_⟩)
    · rfl
    · (repeat (first | exact Below.refl _ _ | refine balloc ?_ _ | refine bdrewN ?_ _ | refine Below.drew ?_ | refine bthen ?_ hB1 | refine bthen ?_ hB2 | refine Below.setCell ?_ (by first | (simp; done) | (simp; omega)) _))
  all_goals
    have HV := Lib.hid (pt_err (l3 := l3) h0 (by omega))
    go_enter Try.func21, Try.ntmps21
    (go_wp2_with fail; refine Calls.mono (both_any _ _ _ _ _ _ _) ?_; rintro e w1 ⟨rfl, hB1⟩; obtain ⟨hB1c, hB1f⟩ := bcell hB1; have hB1s := hB1.size; (try simp at hB1s); (try have hB1q1 := Nat.lt_of_succ_le hB1s); (try have hB1q2 := Nat.lt_of_succ_lt hB1q1); (try have hB1q3 := Nat.lt_of_succ_lt hB1q2); (try have hB1zw0 : w.heap.size < w1.heap.size := (by omega)); (try have hB1zw1 : w.heap.size + 1 < w1.heap.size := (by omega)); (try have hB1zw2 : w.heap.size + 1 + 1 < w1.heap.size := (by omega)))
    go_wp2
    (refine bodyPost_ret (v := ptR p l1 l2 l3 a1 a2) (by simp [results, Try.results21, go_sem, HV.out.1, HV.out.2.1, HV.out.2.2.1, HV.out.2.2.2, *]) rfl ⟨?_, ?_⟩)
    · rfl
    · (repeat (first | exact Below.refl _ _ | refine balloc ?_ _ | refine bdrewN ?_ _ | refine Below.drew ?_ | refine bthen ?_ hB1 | refine Below.setCell ?_ (by first | (simp; done) | (simp; omega)) _))

set_option maxHeartbeats 2000000 in
theorem implParallelThrough_any (p l1 l2 l3 a1 a2 : Int) (w : World) :
    Calls Try.prog 22 #[.int .i64 p, .agg #[.int .i64 l1, .int .i64 l2, .int .i64 l3], .agg #[.int .i64 a1, .int .i64 a2]] w fun e w' => e = .returned (ptR p l1 l2 l3 a1 a2) ∧ Below w.heap.size w w' := by
  cases hL : lineB p l1 l2 l3
  · rcases code_cases p false with ⟨_, _, h⟩ | h0 | h0
    · cases h
    all_goals
      have HV := Lib.hid (pt_err (p := p) (l1 := l1) (l2 := l2) (l3 := l3) (a1 := a1) (a2 := a2) (show _ = _ by rw [ptC, hL, Bool.and_false, h0]) (by omega))
      go_enter Try.func22, Try.ntmps22
      (go_wp2_with fail; refine Calls.mono (implLines1 _ _ _ _ _ _ (by simp)) ?_; rintro e w1 ⟨rfl, hB1⟩; obtain ⟨hB1c, hB1f⟩ := bcell hB1; have hB1s := hB1.size; (try simp at hB1s); (try have hB1q1 := Nat.lt_of_succ_le hB1s); (try have hB1q2 := Nat.lt_of_succ_lt hB1q1); (try have hB1q3 := Nat.lt_of_succ_lt hB1q2); (try have hB1zw0 : w.heap.size < w1.heap.size := (by omega)); (try have hB1zw1 : w.heap.size + 1 < w1.heap.size := (by omega)); (try have hB1zw2 : w.heap.size + 1 + 1 < w1.heap.size := (by omega)))
      (go_wp2_with fail; refine Calls.mono (codeFor_any _ _ _) ?_; rintro e w' ⟨rfl, rfl⟩)
      go_wp2
      (refine bodyPost_ret (v := ptR p l1 l2 l3 a1 a2) (by simp [results, Try.results22, go_sem, HV.out.1, HV.out.2.1, HV.out.2.2.1, HV.out.2.2.2, *]) rfl ⟨?_, ?_⟩)
      · rfl
      · (repeat (first | exact Below.refl _ _ | refine balloc ?_ _ | refine bdrewN ?_ _ | refine Below.drew ?_ | refine bthen ?_ hB1 | refine Below.setCell ?_ (by first | (simp; done) | (simp; omega)) _))
  · rcases code_cases p (numsIn p [a1, a2]) with ⟨h0, hp, hn⟩ | h0 | h0
    · have hr := isP_range hp
      have hq := nums2 hn
      have hl := nums3 (lineB_in hL).2
      have m1 := mulP (a := l1) (b := a1) (by omega) (by omega)
      have m2 := mulP (a := l2) (b := a2) (by omega) (by omega)
      have m3 := mulB (a := -l1) (b := a1) (by omega) (by omega)
      have e1 : IntKind.i64.wrap (-l1) = -l1 := wrapI _ (by omega)
      have e2 : IntKind.i64.wrap (-l1 * a1) = -l1 * a1 := wrapI _ (by omega)
      have e3 : IntKind.i64.wrap (l2 * a2) = l2 * a2 := wrapI _ (by omega)
      have e4 : IntKind.i64.wrap (-l1 * a1 - l2 * a2) = -l1 * a1 - l2 * a2 := wrapI _ (by omega)
      have HP := Lib.hid (show par3 p a1 a2 l1 l2 = (-l1 * a1 - l2 * a2) % p from rfl)
      have HV := Lib.hid (pt_good (p := p) (l1 := l1) (l2 := l2) (l3 := l3) (a1 := a1) (a2 := a2) (show _ = _ by rw [ptC, hL, Bool.and_true, h0]))
      clear hn
      go_enter Try.func22, Try.ntmps22
      (go_wp2_with fail; refine Calls.mono (implLines1 _ _ _ _ _ _ (by simp)) ?_; rintro e w1 ⟨rfl, hB1⟩; obtain ⟨hB1c, hB1f⟩ := bcell hB1; have hB1s := hB1.size; (try simp at hB1s); (try have hB1q1 := Nat.lt_of_succ_le hB1s); (try have hB1q2 := Nat.lt_of_succ_lt hB1q1); (try have hB1q3 := Nat.lt_of_succ_lt hB1q2); (try have hB1zw0 : w.heap.size < w1.heap.size := (by omega)); (try have hB1zw1 : w.heap.size + 1 < w1.heap.size := (by omega)); (try have hB1zw2 : w.heap.size + 1 + 1 < w1.heap.size := (by omega)))
      (go_wp2_with fail; refine Calls.mono (implPoints1 _ _ _ _ _ (by simp)) ?_; rintro e w2 ⟨rfl, hB2⟩; obtain ⟨hB2c, hB2f⟩ := bcell hB2; have hB2s := hB2.size; (try simp at hB2s); (try have hB2q1 := Nat.lt_of_succ_le hB2s); (try have hB2q2 := Nat.lt_of_succ_lt hB2q1); (try have hB2q3 := Nat.lt_of_succ_lt hB2q2); (try have hB2zw0 : w.heap.size < w2.heap.size := (by omega)); (try have hB2zw1 : w.heap.size + 1 < w2.heap.size := (by omega)); (try have hB2zw2 : w.heap.size + 1 + 1 < w2.heap.size := (by omega)); (try have hB2zw10 : w1.heap.size < w2.heap.size := (by omega)); (try have hB2zw11 : w1.heap.size + 1 < w2.heap.size := (by omega)); (try have hB2zw12 : w1.heap.size + 1 + 1 < w2.heap.size := (by omega)))
      (go_wp2_with fail; refine Calls.mono (codeFor_any _ _ _) ?_; rintro e w' ⟨rfl, rfl⟩)
      go_wp2_with fail
      (refine region_tail 19 (by kernel_rfl) (by kernel_rfl) ?_; simp only [List.take_succ_cons, List.take_zero, List.drop_succ_cons, List.drop_zero]; repeat still_step)
      (still_call (stillOf (rest_any _ _ _ (by omega) (by omega) (by omega) (by omega))); repeat still_step)
      refine wpStill_nil ?_
      go_wp2
      (refine bodyPost_ret (v := ptR p l1 l2 l3 a1 a2) (by simp [results, Try.results22, go_sem, HV.out.1, HV.out.2.1, HV.out.2.2.1, HV.out.2.2.2, HP.out, *]) rfl ⟨?_, ?_⟩)
      · rfl
      · (repeat (first | exact Below.refl _ _ | refine balloc ?_ _ | refine bdrewN ?_ _ | refine Below.drew ?_ | refine bthen ?_ hB1 | refine bthen ?_ hB2 | refine Below.setCell ?_ (by first | (simp; done) | (simp; omega)) _))
    all_goals
      have HV := Lib.hid (pt_err (p := p) (l1 := l1) (l2 := l2) (l3 := l3) (a1 := a1) (a2 := a2) (show _ = _ by rw [ptC, hL, Bool.and_true, h0]) (by omega))
      go_enter Try.func22, Try.ntmps22
      (go_wp2_with fail; refine Calls.mono (implLines1 _ _ _ _ _ _ (by simp)) ?_; rintro e w1 ⟨rfl, hB1⟩; obtain ⟨hB1c, hB1f⟩ := bcell hB1; have hB1s := hB1.size; (try simp at hB1s); (try have hB1q1 := Nat.lt_of_succ_le hB1s); (try have hB1q2 := Nat.lt_of_succ_lt hB1q1); (try have hB1q3 := Nat.lt_of_succ_lt hB1q2); (try have hB1zw0 : w.heap.size < w1.heap.size := (by omega)); (try have hB1zw1 : w.heap.size + 1 < w1.heap.size := (by omega)); (try have hB1zw2 : w.heap.size + 1 + 1 < w1.heap.size := (by omega)))
      (go_wp2_with fail; refine Calls.mono (implPoints1 _ _ _ _ _ (by simp)) ?_; rintro e w2 ⟨rfl, hB2⟩; obtain ⟨hB2c, hB2f⟩ := bcell hB2; have hB2s := hB2.size; (try simp at hB2s); (try have hB2q1 := Nat.lt_of_succ_le hB2s); (try have hB2q2 := Nat.lt_of_succ_lt hB2q1); (try have hB2q3 := Nat.lt_of_succ_lt hB2q2); (try have hB2zw0 : w.heap.size < w2.heap.size := (by omega)); (try have hB2zw1 : w.heap.size + 1 < w2.heap.size := (by omega)); (try have hB2zw2 : w.heap.size + 1 + 1 < w2.heap.size := (by omega)); (try have hB2zw10 : w1.heap.size < w2.heap.size := (by omega)); (try have hB2zw11 : w1.heap.size + 1 < w2.heap.size := (by omega)); (try have hB2zw12 : w1.heap.size + 1 + 1 < w2.heap.size := (by omega)))
      (go_wp2_with fail; refine Calls.mono (codeFor_any _ _ _) ?_; rintro e w' ⟨rfl, rfl⟩)
      go_wp2
      (refine bodyPost_ret (v := ptR p l1 l2 l3 a1 a2) (by simp [results, Try.results22, go_sem, HV.out.1, HV.out.2.1, HV.out.2.2.1, HV.out.2.2.2, *]) rfl ⟨?_, ?_⟩)
      · rfl
      · (repeat (first | exact Below.refl _ _ | refine balloc ?_ _ | refine bdrewN ?_ _ | refine Below.drew ?_ | refine bthen ?_ hB1 | refine bthen ?_ hB2 | refine Below.setCell ?_ (by first | (simp; done) | (simp; omega)) _))

end Go.Proofs.Ytcddbcpdjgcejab
