/-
  MidpointOf: the program's and the model's.
-/
import Derived.Test.YtacnlfdbpooleaaCode
import Derived.Test.YtacnlfdbpooleaaSpecPts
import Derived.Test.YtacnlfdbpooleaaImplPts
import Derived.Test.YtacnlfdbpooleaaSpecMiddle
import Derived.Test.YtacnlfdbpooleaaImplComb
import Derived.Test.YtacnlfdbpooleaaImplInv
namespace Go.Proofs.Ytacnlfdbpooleaa
open Go.RowKit

def mpC (p a1 a2 b1 b2 : Int) : Int := codeOf p (numsIn p [a1, a2, b1, b2])
def mpV1 (p a1 a2 b1 b2 : Int) : Int := if mpC p a1 a2 b1 b2 = 0 then mid p a1 b1 else 0
def mpV2 (p a1 a2 b1 b2 : Int) : Int := if mpC p a1 a2 b1 b2 = 0 then mid p a2 b2 else 0
abbrev mpR (p a1 a2 b1 b2 : Int) : Value := .tuple #[.agg #[.int .i64 (mpV1 p a1 a2 b1 b2), .int .i64 (mpV2 p a1 a2 b1 b2)], .int .i64 (mpC p a1 a2 b1 b2)]
theorem mp_err {p a1 a2 b1 b2 k : Int} (h : codeOf p (numsIn p [a1, a2, b1, b2]) = k) (hk : k ≠ 0) : mpV1 p a1 a2 b1 b2 = 0 ∧ mpV2 p a1 a2 b1 b2 = 0 ∧ mpC p a1 a2 b1 b2 = k := by
  have h' : mpC p a1 a2 b1 b2 = k := h
  simp [mpV1, mpV2, h', hk]
theorem mp_good {p a1 a2 b1 b2 : Int} (h : codeOf p (numsIn p [a1, a2, b1, b2]) = 0) : mpV1 p a1 a2 b1 b2 = mid p a1 b1 ∧ mpV2 p a1 a2 b1 b2 = mid p a2 b2 ∧ mpC p a1 a2 b1 b2 = 0 := by
  have h' : mpC p a1 a2 b1 b2 = 0 := h
  exact ⟨if_pos h', if_pos h', h'⟩

set_option maxRecDepth 20000 in
set_option maxHeartbeats 2000000 in
theorem specMidpointOf_any (p a1 a2 b1 b2 : Int) (w : World) :
    Calls Try.prog 18 #[.int .i64 p, .agg #[.int .i64 a1, .int .i64 a2], .agg #[.int .i64 b1, .int .i64 b2]] w fun e w' => e = .returned (mpR p a1 a2 b1 b2) ∧ Below w.heap.size w w' := by
  rcases code_cases p (numsIn p [a1, a2, b1, b2]) with ⟨h0, hp, hn⟩ | h0 | h0
  · have hr := isP_range hp
    have hq := nums4 hn
    have r1 := modR31 (a1 + b1) hp
    have r2 := modR31 (a2 + b2) hp
    have hh := half_two hp
    have iv := invR31 2 hp
    have HC := Lib.hid (show _ ∧ _ from ⟨mid_impl a1 b1 hp, mid_impl a2 b2 hp⟩)
    have gT : codeOf p true = 0 := codeOf_in hp rfl
    have HV := Lib.hid (mp_good h0)
    clear hn
    go_enter Try.func18, Try.ntmps18
    (go_wp2_with fail; refine Calls.mono (specCode2 _ _ _ _ _ _ _ (by first | rfl | (simp; done))) ?_; rintro e w1 ⟨rfl, hB1⟩; obtain ⟨hB1c, hB1f⟩ := bcell hB1; have hB1s := hB1.size; (try simp at hB1s); (try have hB1q1 := Nat.lt_of_succ_le hB1s); (try have hB1q2 := Nat.lt_of_succ_lt hB1q1); (try have hB1q3 := Nat.lt_of_succ_lt hB1q2); (try have hB1zw0 : w.heap.size < w1.heap.size := (by omega)); (try have hB1zw1 : w.heap.size + 1 < w1.heap.size := (by omega)); (try have hB1zw2 : w.heap.size + 1 + 1 < w1.heap.size := (by omega)); (try have hB1zw3 : w.heap.size + 1 + 1 + 1 < w1.heap.size := (by omega)); (try have hB1zw4 : w.heap.size + 1 + 1 + 1 + 1 < w1.heap.size := (by omega)))
    (go_wp2_with fail; refine Calls.mono (specMiddle_any _ _ _ _ _ _ hp (by omega) (by omega) (by omega) (by omega)) ?_; rintro e w2 ⟨rfl, hB2⟩; obtain ⟨hB2c, hB2f⟩ := bcell hB2; have hB2s := hB2.size; (try simp at hB2s); (try have hB2q1 := Nat.lt_of_succ_le hB2s); (try have hB2q2 := Nat.lt_of_succ_lt hB2q1); (try have hB2q3 := Nat.lt_of_succ_lt hB2q2); (try have hB2zw0 : w.heap.size < w2.heap.size := (by omega)); (try have hB2zw1 : w.heap.size + 1 < w2.heap.size := (by omega)); (try have hB2zw2 : w.heap.size + 1 + 1 < w2.heap.size := (by omega)); (try have hB2zw3 : w.heap.size + 1 + 1 + 1 < w2.heap.size := (by omega)); (try have hB2zw4 : w.heap.size + 1 + 1 + 1 + 1 < w2.heap.size := (by omega)); (try have hB2zw10 : w1.heap.size < w2.heap.size := (by omega)); (try have hB2zw11 : w1.heap.size + 1 < w2.heap.size := (by omega)); (try have hB2zw12 : w1.heap.size + 1 + 1 < w2.heap.size := (by omega)); (try have hB2zw13 : w1.heap.size + 1 + 1 + 1 < w2.heap.size := (by omega)); (try have hB2zw14 : w1.heap.size + 1 + 1 + 1 + 1 < w2.heap.size := (by omega)))
    go_wp2
    (refine bodyPost_ret (v := mpR p a1 a2 b1 b2) (by simp [results, Try.results18, go_sem, HV.out.1, HV.out.2.1, HV.out.2.2, *]) rfl ⟨?_, ?_⟩)
    · rfl
    · (repeat (first | exact Below.refl _ _ | refine balloc ?_ _ | refine bdrewN ?_ _ | refine Below.drew ?_ | refine bthen ?_ hB1 | refine bthen ?_ hB2 | refine Below.setCell ?_ (by first | (simp; done) | (simp; omega)) _))
  all_goals
    have HV := Lib.hid (mp_err h0 (by omega))
    go_enter Try.func18, Try.ntmps18
    (go_wp2_with fail; refine Calls.mono (specCode2 _ _ _ _ _ _ _ (by first | rfl | (simp; done))) ?_; rintro e w1 ⟨rfl, hB1⟩; obtain ⟨hB1c, hB1f⟩ := bcell hB1; have hB1s := hB1.size; (try simp at hB1s); (try have hB1q1 := Nat.lt_of_succ_le hB1s); (try have hB1q2 := Nat.lt_of_succ_lt hB1q1); (try have hB1q3 := Nat.lt_of_succ_lt hB1q2); (try have hB1zw0 : w.heap.size < w1.heap.size := (by omega)); (try have hB1zw1 : w.heap.size + 1 < w1.heap.size := (by omega)); (try have hB1zw2 : w.heap.size + 1 + 1 < w1.heap.size := (by omega)); (try have hB1zw3 : w.heap.size + 1 + 1 + 1 < w1.heap.size := (by omega)); (try have hB1zw4 : w.heap.size + 1 + 1 + 1 + 1 < w1.heap.size := (by omega)))
    go_wp2
    (refine bodyPost_ret (v := mpR p a1 a2 b1 b2) (by simp [results, Try.results18, go_sem, HV.out.1, HV.out.2.1, HV.out.2.2, *]) rfl ⟨?_, ?_⟩)
    · rfl
    · (repeat (first | exact Below.refl _ _ | refine balloc ?_ _ | refine bdrewN ?_ _ | refine Below.drew ?_ | refine bthen ?_ hB1 | refine Below.setCell ?_ (by first | (simp; done) | (simp; omega)) _))

set_option maxRecDepth 20000 in
set_option maxHeartbeats 2000000 in
theorem implMidpointOf_any (p a1 a2 b1 b2 : Int) (w : World) :
    Calls Try.prog 19 #[.int .i64 p, .agg #[.int .i64 a1, .int .i64 a2], .agg #[.int .i64 b1, .int .i64 b2]] w fun e w' => e = .returned (mpR p a1 a2 b1 b2) ∧ Below w.heap.size w w' := by
  rcases code_cases p (numsIn p [a1, a2, b1, b2]) with ⟨h0, hp, hn⟩ | h0 | h0
  · have hr := isP_range hp
    have hq := nums4 hn
    have r1 := modR31 (a1 + b1) hp
    have r2 := modR31 (a2 + b2) hp
    have hh := half_two hp
    have iv := invR31 2 hp
    have HC := Lib.hid (show _ ∧ _ from ⟨mid_impl a1 b1 hp, mid_impl a2 b2 hp⟩)
    have gT : codeOf p true = 0 := codeOf_in hp rfl
    have HV := Lib.hid (mp_good h0)
    clear hn
    go_enter Try.func19, Try.ntmps19
    (go_wp2_with fail; refine Calls.mono (implPoints2 _ _ _ _ _ _ _ (by first | rfl | (simp; done))) ?_; rintro e w1 ⟨rfl, hB1⟩; obtain ⟨hB1c, hB1f⟩ := bcell hB1; have hB1s := hB1.size; (try simp at hB1s); (try have hB1q1 := Nat.lt_of_succ_le hB1s); (try have hB1q2 := Nat.lt_of_succ_lt hB1q1); (try have hB1q3 := Nat.lt_of_succ_lt hB1q2); (try have hB1zw0 : w.heap.size < w1.heap.size := (by omega)); (try have hB1zw1 : w.heap.size + 1 < w1.heap.size := (by omega)); (try have hB1zw2 : w.heap.size + 1 + 1 < w1.heap.size := (by omega)); (try have hB1zw3 : w.heap.size + 1 + 1 + 1 < w1.heap.size := (by omega)); (try have hB1zw4 : w.heap.size + 1 + 1 + 1 + 1 < w1.heap.size := (by omega)))
    (go_wp2_with fail; refine Calls.mono (codeFor_any _ _ _) ?_; rintro e w' ⟨rfl, rfl⟩)
    go_wp2_with fail
    (refine region_tail 5 (by kernel_rfl) (by kernel_rfl) ?_; simp only [List.take_succ_cons, List.take_zero, List.drop_succ_cons, List.drop_zero]; repeat still_step)
    (still_call (stillOf (implInverse_any _ _ _ hp (by omega) (by omega))); repeat still_step)
    refine wpStill_nil ?_
    (go_wp2_with fail; refine Calls.mono (implComb_any _ _ _ _ _ _ _ hp (by omega) (by omega) (by omega) (by omega) (by omega)) ?_; rintro e w2 ⟨rfl, hB2⟩; obtain ⟨hB2c, hB2f⟩ := bcell hB2; have hB2s := hB2.size; (try simp at hB2s); (try have hB2q1 := Nat.lt_of_succ_le hB2s); (try have hB2q2 := Nat.lt_of_succ_lt hB2q1); (try have hB2q3 := Nat.lt_of_succ_lt hB2q2); (try have hB2zw0 : w.heap.size < w2.heap.size := (by omega)); (try have hB2zw1 : w.heap.size + 1 < w2.heap.size := (by omega)); (try have hB2zw2 : w.heap.size + 1 + 1 < w2.heap.size := (by omega)); (try have hB2zw3 : w.heap.size + 1 + 1 + 1 < w2.heap.size := (by omega)); (try have hB2zw4 : w.heap.size + 1 + 1 + 1 + 1 < w2.heap.size := (by omega)); (try have hB2zw10 : w1.heap.size < w2.heap.size := (by omega)); (try have hB2zw11 : w1.heap.size + 1 < w2.heap.size := (by omega)); (try have hB2zw12 : w1.heap.size + 1 + 1 < w2.heap.size := (by omega)); (try have hB2zw13 : w1.heap.size + 1 + 1 + 1 < w2.heap.size := (by omega)); (try have hB2zw14 : w1.heap.size + 1 + 1 + 1 + 1 < w2.heap.size := (by omega)))
    (have rb0 : w2.cell? ⟨w.heap.size + 1 + 1, 0, none⟩ = some (.int .i64 0) := (by ((try with_reducible refine kdrew ?_); refine kcall hB2 ?_; (try with_reducible refine kdrew ?_); refine kcall hB1 ?_; (try with_reducible refine kdrew ?_); repeat (first | exact kfresh (by first | rfl | (simp; done)) (by rfl) | refine kalloc _ ?_))); have rf0 : w2.frozen? ⟨w.heap.size + 1 + 1, 0, none⟩ = false := (by ((try with_reducible refine fdrew ?_); refine kfro hB2 (by first | with_reducible assumption | (simp; done) | (simp; omega) | (simp; assumption)) ?_; (try with_reducible refine fdrew ?_); refine kfro hB1 (by first | with_reducible assumption | (simp; done) | (simp; omega) | (simp; assumption)) ?_; (try with_reducible refine fdrew ?_); repeat (first | exact fallocNew (by first | rfl | (simp; done)) | refine falloc (by first | (simp; done) | (simp; omega)) ?_))); have rb1 : w2.cell? ⟨w.heap.size + 1 + 1, 1, none⟩ = some (.int .i64 0) := (by ((try with_reducible refine kdrew ?_); refine kcall hB2 ?_; (try with_reducible refine kdrew ?_); refine kcall hB1 ?_; (try with_reducible refine kdrew ?_); repeat (first | exact kfresh (by first | rfl | (simp; done)) (by rfl) | refine kalloc _ ?_))); have rf1 : w2.frozen? ⟨w.heap.size + 1 + 1, 1, none⟩ = false := (by ((try with_reducible refine fdrew ?_); refine kfro hB2 (by first | with_reducible assumption | (simp; done) | (simp; omega) | (simp; assumption)) ?_; (try with_reducible refine fdrew ?_); refine kfro hB1 (by first | with_reducible assumption | (simp; done) | (simp; omega) | (simp; assumption)) ?_; (try with_reducible refine fdrew ?_); repeat (first | exact fallocNew (by first | rfl | (simp; done)) | refine falloc (by first | (simp; done) | (simp; omega)) ?_))); clear hB2c hB2f)
    go_wp2
    (refine bodyPost_ret (v := mpR p a1 a2 b1 b2) (by simp [results, Try.results19, go_sem, HV.out.1, HV.out.2.1, HV.out.2.2, HC.out.1, HC.out.2, *]) rfl ⟨?_, ?_⟩)
    · rfl
    · (repeat (first | exact Below.refl _ _ | refine balloc ?_ _ | refine bdrewN ?_ _ | refine Below.drew ?_ | refine bthen ?_ hB1 | refine bthen ?_ hB2 | refine Below.setCell ?_ (by first | (simp; done) | (simp; omega)) _))
  all_goals
    have HV := Lib.hid (mp_err h0 (by omega))
    go_enter Try.func19, Try.ntmps19
    (go_wp2_with fail; refine Calls.mono (implPoints2 _ _ _ _ _ _ _ (by first | rfl | (simp; done))) ?_; rintro e w1 ⟨rfl, hB1⟩; obtain ⟨hB1c, hB1f⟩ := bcell hB1; have hB1s := hB1.size; (try simp at hB1s); (try have hB1q1 := Nat.lt_of_succ_le hB1s); (try have hB1q2 := Nat.lt_of_succ_lt hB1q1); (try have hB1q3 := Nat.lt_of_succ_lt hB1q2); (try have hB1zw0 : w.heap.size < w1.heap.size := (by omega)); (try have hB1zw1 : w.heap.size + 1 < w1.heap.size := (by omega)); (try have hB1zw2 : w.heap.size + 1 + 1 < w1.heap.size := (by omega)); (try have hB1zw3 : w.heap.size + 1 + 1 + 1 < w1.heap.size := (by omega)); (try have hB1zw4 : w.heap.size + 1 + 1 + 1 + 1 < w1.heap.size := (by omega)))
    (go_wp2_with fail; refine Calls.mono (codeFor_any _ _ _) ?_; rintro e w' ⟨rfl, rfl⟩)
    go_wp2
    (refine bodyPost_ret (v := mpR p a1 a2 b1 b2) (by simp [results, Try.results19, go_sem, HV.out.1, HV.out.2.1, HV.out.2.2, *]) rfl ⟨?_, ?_⟩)
    · rfl
    · (repeat (first | exact Below.refl _ _ | refine balloc ?_ _ | refine bdrewN ?_ _ | refine Below.drew ?_ | refine bthen ?_ hB1 | refine Below.setCell ?_ (by first | (simp; done) | (simp; omega)) _))

end Go.Proofs.Ytacnlfdbpooleaa
