/-
  AreCollinear: the program's and the model's.
-/
import Derived.Test.YtacnlfdbpooleaaCode
import Derived.Test.YtacnlfdbpooleaaSpecPts
import Derived.Test.YtacnlfdbpooleaaImplPts
import Derived.Test.YtacnlfdbpooleaaSpecArea
import Derived.Test.YtacnlfdbpooleaaImplArea
namespace Go.Proofs.Ytacnlfdbpooleaa
open Go.RowKit

def acC (p a1 a2 b1 b2 c1 c2 : Int) : Int := codeOf p (numsIn p [a1, a2, b1, b2, c1, c2])
def acV1 (p a1 a2 b1 b2 c1 c2 : Int) : Bool := if acC p a1 a2 b1 b2 c1 c2 = 0 then (area p a1 a2 b1 b2 c1 c2 == 0) else false
abbrev acR (p a1 a2 b1 b2 c1 c2 : Int) : Value := .tuple #[.bool (acV1 p a1 a2 b1 b2 c1 c2), .int .i64 (acC p a1 a2 b1 b2 c1 c2)]
theorem ac_err {p a1 a2 b1 b2 c1 c2 k : Int} (h : codeOf p (numsIn p [a1, a2, b1, b2, c1, c2]) = k) (hk : k ≠ 0) : acV1 p a1 a2 b1 b2 c1 c2 = false ∧ acC p a1 a2 b1 b2 c1 c2 = k := by
  have h' : acC p a1 a2 b1 b2 c1 c2 = k := h
  simp [acV1, h', hk]
theorem ac_good {p a1 a2 b1 b2 c1 c2 : Int} (h : codeOf p (numsIn p [a1, a2, b1, b2, c1, c2]) = 0) : acV1 p a1 a2 b1 b2 c1 c2 = (area p a1 a2 b1 b2 c1 c2 == 0) ∧ acC p a1 a2 b1 b2 c1 c2 = 0 := by
  have h' : acC p a1 a2 b1 b2 c1 c2 = 0 := h
  exact ⟨if_pos h', h'⟩

set_option maxRecDepth 20000 in
set_option maxHeartbeats 2000000 in
theorem specAreCollinear_any (p a1 a2 b1 b2 c1 c2 : Int) (w : World) :
    Calls Try.prog 15 #[.int .i64 p, .agg #[.int .i64 a1, .int .i64 a2], .agg #[.int .i64 b1, .int .i64 b2], .agg #[.int .i64 c1, .int .i64 c2]] w fun e w' => e = .returned (acR p a1 a2 b1 b2 c1 c2) ∧ Below w.heap.size w w' := by
  rcases code_cases p (numsIn p [a1, a2, b1, b2, c1, c2]) with ⟨h0, hp, hn⟩ | h0 | h0
  · have hr := isP_range hp
    have hq := nums6 hn
    have gT : codeOf p true = 0 := codeOf_in hp rfl
    have HV := Lib.hid (ac_good h0)
    clear hn
    go_enter Try.func15, Try.ntmps15
    (go_wp2_with fail; refine Calls.mono (specCode3 _ _ _ _ _ _ _ _ _ (by first | rfl | (simp; done))) ?_; rintro e w1 ⟨rfl, hB1⟩; obtain ⟨hB1c, hB1f⟩ := bcell hB1; have hB1s := hB1.size; (try simp at hB1s); (try have hB1q1 := Nat.lt_of_succ_le hB1s); (try have hB1q2 := Nat.lt_of_succ_lt hB1q1); (try have hB1q3 := Nat.lt_of_succ_lt hB1q2); (try have hB1zw0 : w.heap.size < w1.heap.size := (by omega)); (try have hB1zw1 : w.heap.size + 1 < w1.heap.size := (by omega)); (try have hB1zw2 : w.heap.size + 1 + 1 < w1.heap.size := (by omega)); (try have hB1zw3 : w.heap.size + 1 + 1 + 1 < w1.heap.size := (by omega)); (try have hB1zw4 : w.heap.size + 1 + 1 + 1 + 1 < w1.heap.size := (by omega)))
    (go_wp2_with fail; refine Calls.mono (specArea_any _ _ _ _ _ _ _ _ hp (by omega) (by omega) (by omega) (by omega) (by omega) (by omega)) ?_; rintro e w2 ⟨rfl, hB2⟩; obtain ⟨hB2c, hB2f⟩ := bcell hB2; have hB2s := hB2.size; (try simp at hB2s); (try have hB2q1 := Nat.lt_of_succ_le hB2s); (try have hB2q2 := Nat.lt_of_succ_lt hB2q1); (try have hB2q3 := Nat.lt_of_succ_lt hB2q2); (try have hB2zw0 : w.heap.size < w2.heap.size := (by omega)); (try have hB2zw1 : w.heap.size + 1 < w2.heap.size := (by omega)); (try have hB2zw2 : w.heap.size + 1 + 1 < w2.heap.size := (by omega)); (try have hB2zw3 : w.heap.size + 1 + 1 + 1 < w2.heap.size := (by omega)); (try have hB2zw4 : w.heap.size + 1 + 1 + 1 + 1 < w2.heap.size := (by omega)); (try have hB2zw10 : w1.heap.size < w2.heap.size := (by omega)); (try have hB2zw11 : w1.heap.size + 1 < w2.heap.size := (by omega)); (try have hB2zw12 : w1.heap.size + 1 + 1 < w2.heap.size := (by omega)); (try have hB2zw13 : w1.heap.size + 1 + 1 + 1 < w2.heap.size := (by omega)); (try have hB2zw14 : w1.heap.size + 1 + 1 + 1 + 1 < w2.heap.size := (by omega)))
    go_wp2
    (refine bodyPost_ret (v := acR p a1 a2 b1 b2 c1 c2) (by simp [results, Try.results15, go_sem, HV.out.1, HV.out.2, *]) rfl ⟨?_, ?_⟩)
    · rfl
    · (repeat (first | exact Below.refl _ _ | refine balloc ?_ _ | refine bdrewN ?_ _ | refine Below.drew ?_ | refine bthen ?_ hB1 | refine bthen ?_ hB2 | refine Below.setCell ?_ (by first | (simp; done) | (simp; omega)) _))
  all_goals
    have HV := Lib.hid (ac_err h0 (by omega))
    go_enter Try.func15, Try.ntmps15
    (go_wp2_with fail; refine Calls.mono (specCode3 _ _ _ _ _ _ _ _ _ (by first | rfl | (simp; done))) ?_; rintro e w1 ⟨rfl, hB1⟩; obtain ⟨hB1c, hB1f⟩ := bcell hB1; have hB1s := hB1.size; (try simp at hB1s); (try have hB1q1 := Nat.lt_of_succ_le hB1s); (try have hB1q2 := Nat.lt_of_succ_lt hB1q1); (try have hB1q3 := Nat.lt_of_succ_lt hB1q2); (try have hB1zw0 : w.heap.size < w1.heap.size := (by omega)); (try have hB1zw1 : w.heap.size + 1 < w1.heap.size := (by omega)); (try have hB1zw2 : w.heap.size + 1 + 1 < w1.heap.size := (by omega)); (try have hB1zw3 : w.heap.size + 1 + 1 + 1 < w1.heap.size := (by omega)); (try have hB1zw4 : w.heap.size + 1 + 1 + 1 + 1 < w1.heap.size := (by omega)))
    go_wp2
    (refine bodyPost_ret (v := acR p a1 a2 b1 b2 c1 c2) (by simp [results, Try.results15, go_sem, HV.out.1, HV.out.2, *]) rfl ⟨?_, ?_⟩)
    · rfl
    · (repeat (first | exact Below.refl _ _ | refine balloc ?_ _ | refine bdrewN ?_ _ | refine Below.drew ?_ | refine bthen ?_ hB1 | refine Below.setCell ?_ (by first | (simp; done) | (simp; omega)) _))

set_option maxRecDepth 20000 in
set_option maxHeartbeats 2000000 in
theorem implAreCollinear_any (p a1 a2 b1 b2 c1 c2 : Int) (w : World) :
    Calls Try.prog 17 #[.int .i64 p, .agg #[.int .i64 a1, .int .i64 a2], .agg #[.int .i64 b1, .int .i64 b2], .agg #[.int .i64 c1, .int .i64 c2]] w fun e w' => e = .returned (acR p a1 a2 b1 b2 c1 c2) ∧ Below w.heap.size w w' := by
  rcases code_cases p (numsIn p [a1, a2, b1, b2, c1, c2]) with ⟨h0, hp, hn⟩ | h0 | h0
  · have hr := isP_range hp
    have hq := nums6 hn
    have gT : codeOf p true = 0 := codeOf_in hp rfl
    have HV := Lib.hid (ac_good h0)
    clear hn
    go_enter Try.func17, Try.ntmps17
    (go_wp2_with fail; refine Calls.mono (implPoints3 _ _ _ _ _ _ _ _ _ (by first | rfl | (simp; done))) ?_; rintro e w1 ⟨rfl, hB1⟩; obtain ⟨hB1c, hB1f⟩ := bcell hB1; have hB1s := hB1.size; (try simp at hB1s); (try have hB1q1 := Nat.lt_of_succ_le hB1s); (try have hB1q2 := Nat.lt_of_succ_lt hB1q1); (try have hB1q3 := Nat.lt_of_succ_lt hB1q2); (try have hB1zw0 : w.heap.size < w1.heap.size := (by omega)); (try have hB1zw1 : w.heap.size + 1 < w1.heap.size := (by omega)); (try have hB1zw2 : w.heap.size + 1 + 1 < w1.heap.size := (by omega)); (try have hB1zw3 : w.heap.size + 1 + 1 + 1 < w1.heap.size := (by omega)); (try have hB1zw4 : w.heap.size + 1 + 1 + 1 + 1 < w1.heap.size := (by omega)))
    (go_wp2_with fail; refine Calls.mono (codeFor_any _ _ _) ?_; rintro e w' ⟨rfl, rfl⟩)
    (go_wp2_with fail; refine Calls.mono (implArea_any _ _ _ _ _ _ _ _ hp (by omega) (by omega) (by omega) (by omega) (by omega) (by omega)) ?_; rintro e w2 ⟨rfl, hB2⟩; obtain ⟨hB2c, hB2f⟩ := bcell hB2; have hB2s := hB2.size; (try simp at hB2s); (try have hB2q1 := Nat.lt_of_succ_le hB2s); (try have hB2q2 := Nat.lt_of_succ_lt hB2q1); (try have hB2q3 := Nat.lt_of_succ_lt hB2q2); (try have hB2zw0 : w.heap.size < w2.heap.size := (by omega)); (try have hB2zw1 : w.heap.size + 1 < w2.heap.size := (by omega)); (try have hB2zw2 : w.heap.size + 1 + 1 < w2.heap.size := (by omega)); (try have hB2zw3 : w.heap.size + 1 + 1 + 1 < w2.heap.size := (by omega)); (try have hB2zw4 : w.heap.size + 1 + 1 + 1 + 1 < w2.heap.size := (by omega)); (try have hB2zw10 : w1.heap.size < w2.heap.size := (by omega)); (try have hB2zw11 : w1.heap.size + 1 < w2.heap.size := (by omega)); (try have hB2zw12 : w1.heap.size + 1 + 1 < w2.heap.size := (by omega)); (try have hB2zw13 : w1.heap.size + 1 + 1 + 1 < w2.heap.size := (by omega)); (try have hB2zw14 : w1.heap.size + 1 + 1 + 1 + 1 < w2.heap.size := (by omega)))
    go_wp2
    (refine bodyPost_ret (v := acR p a1 a2 b1 b2 c1 c2) (by simp [results, Try.results17, go_sem, HV.out.1, HV.out.2, *]) rfl ⟨?_, ?_⟩)
    · rfl
    · (repeat (first | exact Below.refl _ _ | refine balloc ?_ _ | refine bdrewN ?_ _ | refine Below.drew ?_ | refine bthen ?_ hB1 | refine bthen ?_ hB2 | refine Below.setCell ?_ (by first | (simp; done) | (simp; omega)) _))
  all_goals
    have HV := Lib.hid (ac_err h0 (by omega))
    go_enter Try.func17, Try.ntmps17
    (go_wp2_with fail; refine Calls.mono (implPoints3 _ _ _ _ _ _ _ _ _ (by first | rfl | (simp; done))) ?_; rintro e w1 ⟨rfl, hB1⟩; obtain ⟨hB1c, hB1f⟩ := bcell hB1; have hB1s := hB1.size; (try simp at hB1s); (try have hB1q1 := Nat.lt_of_succ_le hB1s); (try have hB1q2 := Nat.lt_of_succ_lt hB1q1); (try have hB1q3 := Nat.lt_of_succ_lt hB1q2); (try have hB1zw0 : w.heap.size < w1.heap.size := (by omega)); (try have hB1zw1 : w.heap.size + 1 < w1.heap.size := (by omega)); (try have hB1zw2 : w.heap.size + 1 + 1 < w1.heap.size := (by omega)); (try have hB1zw3 : w.heap.size + 1 + 1 + 1 < w1.heap.size := (by omega)); (try have hB1zw4 : w.heap.size + 1 + 1 + 1 + 1 < w1.heap.size := (by omega)))
    (go_wp2_with fail; refine Calls.mono (codeFor_any _ _ _) ?_; rintro e w' ⟨rfl, rfl⟩)
    go_wp2
    (refine bodyPost_ret (v := acR p a1 a2 b1 b2 c1 c2) (by simp [results, Try.results17, go_sem, HV.out.1, HV.out.2, *]) rfl ⟨?_, ?_⟩)
    · rfl
    · (repeat (first | exact Below.refl _ _ | refine balloc ?_ _ | refine bdrewN ?_ _ | refine Below.drew ?_ | refine bthen ?_ hB1 | refine Below.setCell ?_ (by first | (simp; done) | (simp; omega)) _))

end Go.Proofs.Ytacnlfdbpooleaa
