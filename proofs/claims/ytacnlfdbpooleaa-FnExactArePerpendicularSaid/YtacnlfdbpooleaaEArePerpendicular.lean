/-
  ArePerpendicular: the program's and the model's.
-/
import Derived.Test.YtacnlfdbpooleaaCode
import Derived.Test.YtacnlfdbpooleaaSpecColLins
import Derived.Test.YtacnlfdbpooleaaImplLins
import Derived.Test.YtacnlfdbpooleaaImplCol
import Derived.Test.YtacnlfdbpooleaaSpecDir
import Derived.Test.YtacnlfdbpooleaaImplDir
namespace Go.Proofs.Ytacnlfdbpooleaa
open Go.RowKit

def apC (p col l1 l2 l3 m1 m2 m3 : Int) : Int := codeOf p (colB col && (lineB p l1 l2 l3 && lineB p m1 m2 m3))
def apV1 (p col l1 l2 l3 m1 m2 m3 : Int) : Bool := if apC p col l1 l2 l3 m1 m2 m3 = 0 then (perpB p col l1 l2 m1 m2) else false
abbrev apR (p col l1 l2 l3 m1 m2 m3 : Int) : Value := .tuple #[.bool (apV1 p col l1 l2 l3 m1 m2 m3), .int .i64 (apC p col l1 l2 l3 m1 m2 m3)]
theorem ap_err {p col l1 l2 l3 m1 m2 m3 k : Int} (h : codeOf p (colB col && (lineB p l1 l2 l3 && lineB p m1 m2 m3)) = k) (hk : k ≠ 0) : apV1 p col l1 l2 l3 m1 m2 m3 = false ∧ apC p col l1 l2 l3 m1 m2 m3 = k := by
  have h' : apC p col l1 l2 l3 m1 m2 m3 = k := h
  simp [apV1, h', hk]
theorem ap_good {p col l1 l2 l3 m1 m2 m3 : Int} (h : codeOf p (colB col && (lineB p l1 l2 l3 && lineB p m1 m2 m3)) = 0) : apV1 p col l1 l2 l3 m1 m2 m3 = (perpB p col l1 l2 m1 m2) ∧ apC p col l1 l2 l3 m1 m2 m3 = 0 := by
  have h' : apC p col l1 l2 l3 m1 m2 m3 = 0 := h
  exact ⟨if_pos h', h'⟩

set_option maxRecDepth 20000 in
set_option maxHeartbeats 2000000 in
theorem specArePerpendicular_any (p col l1 l2 l3 m1 m2 m3 : Int) (w : World) :
    Calls Try.prog 27 #[.int .i64 p, .int .i64 col, .agg #[.int .i64 l1, .int .i64 l2, .int .i64 l3], .agg #[.int .i64 m1, .int .i64 m2, .int .i64 m3]] w fun e w' => e = .returned (apR p col l1 l2 l3 m1 m2 m3) ∧ Below w.heap.size w w' := by
  rcases code_cases p (colB col && (lineB p l1 l2 l3 && lineB p m1 m2 m3)) with ⟨h0, hp, hn⟩ | h0 | h0
  · have hr := isP_range hp
    obtain ⟨hc, hn⟩ := Bool.and_eq_true_iff.1 hn
    have hcr := colB_range hc
    have hx := Bool.and_eq_true_iff.1 hn
    have hl := nums3 (lineB_in hx.1).2
    have hm := nums3 (lineB_in hx.2).2
    have g0 := (code_col_T hc).symm.trans h0
    have gT : codeOf p true = 0 := codeOf_in hp rfl
    have HV := Lib.hid (ap_good h0)
    clear hn
    go_enter Try.func27, Try.ntmps27
    (go_wp2_with fail; refine Calls.mono (specColLines2 _ _ _ _ _ _ _ _ _ _ (by first | rfl | (simp; done))) ?_; rintro e w1 ⟨rfl, hB1⟩; obtain ⟨hB1c, hB1f⟩ := bcell hB1; have hB1s := hB1.size; (try simp at hB1s); (try have hB1q1 := Nat.lt_of_succ_le hB1s); (try have hB1q2 := Nat.lt_of_succ_lt hB1q1); (try have hB1q3 := Nat.lt_of_succ_lt hB1q2); (try have hB1zw0 : w.heap.size < w1.heap.size := (by omega)); (try have hB1zw1 : w.heap.size + 1 < w1.heap.size := (by omega)); (try have hB1zw2 : w.heap.size + 1 + 1 < w1.heap.size := (by omega)); (try have hB1zw3 : w.heap.size + 1 + 1 + 1 < w1.heap.size := (by omega)); (try have hB1zw4 : w.heap.size + 1 + 1 + 1 + 1 < w1.heap.size := (by omega)))
    (go_wp2_with fail; refine Calls.mono (specPerp_any _ _ _ _ _ _ _ _ _ hp hc (by omega) (by omega) (by omega) (by omega)) ?_; rintro e w2 ⟨rfl, hB2⟩; obtain ⟨hB2c, hB2f⟩ := bcell hB2; have hB2s := hB2.size; (try simp at hB2s); (try have hB2q1 := Nat.lt_of_succ_le hB2s); (try have hB2q2 := Nat.lt_of_succ_lt hB2q1); (try have hB2q3 := Nat.lt_of_succ_lt hB2q2); (try have hB2zw0 : w.heap.size < w2.heap.size := (by omega)); (try have hB2zw1 : w.heap.size + 1 < w2.heap.size := (by omega)); (try have hB2zw2 : w.heap.size + 1 + 1 < w2.heap.size := (by omega)); (try have hB2zw3 : w.heap.size + 1 + 1 + 1 < w2.heap.size := (by omega)); (try have hB2zw4 : w.heap.size + 1 + 1 + 1 + 1 < w2.heap.size := (by omega)); (try have hB2zw10 : w1.heap.size < w2.heap.size := (by omega)); (try have hB2zw11 : w1.heap.size + 1 < w2.heap.size := (by omega)); (try have hB2zw12 : w1.heap.size + 1 + 1 < w2.heap.size := (by omega)); (try have hB2zw13 : w1.heap.size + 1 + 1 + 1 < w2.heap.size := (by omega)); (try have hB2zw14 : w1.heap.size + 1 + 1 + 1 + 1 < w2.heap.size := (by omega)))
    go_wp2
    (refine bodyPost_ret (v := apR p col l1 l2 l3 m1 m2 m3) (by simp [results, Try.results27, go_sem, HV.out.1, HV.out.2, *]) rfl ⟨?_, ?_⟩)
    · rfl
    · (repeat (first | exact Below.refl _ _ | refine balloc ?_ _ | refine bdrewN ?_ _ | refine Below.drew ?_ | refine bthen ?_ hB1 | refine bthen ?_ hB2 | refine Below.setCell ?_ (by first | (simp; done) | (simp; omega)) _))
  all_goals
    have HV := Lib.hid (ap_err h0 (by omega))
    go_enter Try.func27, Try.ntmps27
    (go_wp2_with fail; refine Calls.mono (specColLines2 _ _ _ _ _ _ _ _ _ _ (by first | rfl | (simp; done))) ?_; rintro e w1 ⟨rfl, hB1⟩; obtain ⟨hB1c, hB1f⟩ := bcell hB1; have hB1s := hB1.size; (try simp at hB1s); (try have hB1q1 := Nat.lt_of_succ_le hB1s); (try have hB1q2 := Nat.lt_of_succ_lt hB1q1); (try have hB1q3 := Nat.lt_of_succ_lt hB1q2); (try have hB1zw0 : w.heap.size < w1.heap.size := (by omega)); (try have hB1zw1 : w.heap.size + 1 < w1.heap.size := (by omega)); (try have hB1zw2 : w.heap.size + 1 + 1 < w1.heap.size := (by omega)); (try have hB1zw3 : w.heap.size + 1 + 1 + 1 < w1.heap.size := (by omega)); (try have hB1zw4 : w.heap.size + 1 + 1 + 1 + 1 < w1.heap.size := (by omega)))
    go_wp2
    (refine bodyPost_ret (v := apR p col l1 l2 l3 m1 m2 m3) (by simp [results, Try.results27, go_sem, HV.out.1, HV.out.2, *]) rfl ⟨?_, ?_⟩)
    · rfl
    · (repeat (first | exact Below.refl _ _ | refine balloc ?_ _ | refine bdrewN ?_ _ | refine Below.drew ?_ | refine bthen ?_ hB1 | refine Below.setCell ?_ (by first | (simp; done) | (simp; omega)) _))

set_option maxRecDepth 20000 in
set_option maxHeartbeats 2000000 in
theorem implArePerpendicular_any (p col l1 l2 l3 m1 m2 m3 : Int) (w : World) :
    Calls Try.prog 29 #[.int .i64 p, .int .i64 col, .agg #[.int .i64 l1, .int .i64 l2, .int .i64 l3], .agg #[.int .i64 m1, .int .i64 m2, .int .i64 m3]] w fun e w' => e = .returned (apR p col l1 l2 l3 m1 m2 m3) ∧ Below w.heap.size w w' := by
  rcases code_cases p (colB col && (lineB p l1 l2 l3 && lineB p m1 m2 m3)) with ⟨h0, hp, hn⟩ | h0 | h0
  · have hr := isP_range hp
    obtain ⟨hc, hn⟩ := Bool.and_eq_true_iff.1 hn
    have hcr := colB_range hc
    have hx := Bool.and_eq_true_iff.1 hn
    have hl := nums3 (lineB_in hx.1).2
    have hm := nums3 (lineB_in hx.2).2
    have g0 := (code_col_T hc).symm.trans h0
    have gT : codeOf p true = 0 := codeOf_in hp rfl
    have HV := Lib.hid (ap_good h0)
    clear hn
    go_enter Try.func29, Try.ntmps29
    (go_wp2_with fail; refine Calls.mono (isColour_any _ _) ?_; rintro e w' ⟨rfl, rfl⟩)
    (go_wp2_with fail; refine Calls.mono (implLines2 _ _ _ _ _ _ _ _ _ (by first | rfl | (simp; done))) ?_; rintro e w1 ⟨rfl, hB1⟩; obtain ⟨hB1c, hB1f⟩ := bcell hB1; have hB1s := hB1.size; (try simp at hB1s); (try have hB1q1 := Nat.lt_of_succ_le hB1s); (try have hB1q2 := Nat.lt_of_succ_lt hB1q1); (try have hB1q3 := Nat.lt_of_succ_lt hB1q2); (try have hB1zw0 : w.heap.size < w1.heap.size := (by omega)); (try have hB1zw1 : w.heap.size + 1 < w1.heap.size := (by omega)); (try have hB1zw2 : w.heap.size + 1 + 1 < w1.heap.size := (by omega)); (try have hB1zw3 : w.heap.size + 1 + 1 + 1 < w1.heap.size := (by omega)); (try have hB1zw4 : w.heap.size + 1 + 1 + 1 + 1 < w1.heap.size := (by omega)))
    (go_wp2_with fail; refine Calls.mono (codeFor_any _ _ _) ?_; rintro e w' ⟨rfl, rfl⟩)
    (go_wp2_with fail; refine Calls.mono (implPerp_any _ _ _ _ _ _ _ _ _ hp hc (by omega) (by omega) (by omega) (by omega)) ?_; rintro e w2 ⟨rfl, hB2⟩; obtain ⟨hB2c, hB2f⟩ := bcell hB2; have hB2s := hB2.size; (try simp at hB2s); (try have hB2q1 := Nat.lt_of_succ_le hB2s); (try have hB2q2 := Nat.lt_of_succ_lt hB2q1); (try have hB2q3 := Nat.lt_of_succ_lt hB2q2); (try have hB2zw0 : w.heap.size < w2.heap.size := (by omega)); (try have hB2zw1 : w.heap.size + 1 < w2.heap.size := (by omega)); (try have hB2zw2 : w.heap.size + 1 + 1 < w2.heap.size := (by omega)); (try have hB2zw3 : w.heap.size + 1 + 1 + 1 < w2.heap.size := (by omega)); (try have hB2zw4 : w.heap.size + 1 + 1 + 1 + 1 < w2.heap.size := (by omega)); (try have hB2zw10 : w1.heap.size < w2.heap.size := (by omega)); (try have hB2zw11 : w1.heap.size + 1 < w2.heap.size := (by omega)); (try have hB2zw12 : w1.heap.size + 1 + 1 < w2.heap.size := (by omega)); (try have hB2zw13 : w1.heap.size + 1 + 1 + 1 < w2.heap.size := (by omega)); (try have hB2zw14 : w1.heap.size + 1 + 1 + 1 + 1 < w2.heap.size := (by omega)))
    go_wp2
    (refine bodyPost_ret (v := apR p col l1 l2 l3 m1 m2 m3) (by simp [results, Try.results29, go_sem, HV.out.1, HV.out.2, *]) rfl ⟨?_, ?_⟩)
    · rfl
    · (repeat (first | exact Below.refl _ _ | refine balloc ?_ _ | refine bdrewN ?_ _ | refine Below.drew ?_ | refine bthen ?_ hB1 | refine bthen ?_ hB2 | refine Below.setCell ?_ (by first | (simp; done) | (simp; omega)) _))
  all_goals
    have HV := Lib.hid (ap_err h0 (by omega))
    cases hc : colB col
    · rw [code_col_F hc] at h0
      go_enter Try.func29, Try.ntmps29
      (go_wp2_with fail; refine Calls.mono (isColour_any _ _) ?_; rintro e w' ⟨rfl, rfl⟩)
      (go_wp2_with fail; refine Calls.mono (codeFor_any _ _ _) ?_; rintro e w' ⟨rfl, rfl⟩)
      go_wp2
      (refine bodyPost_ret (v := apR p col l1 l2 l3 m1 m2 m3) (by simp [results, Try.results29, go_sem, HV.out.1, HV.out.2, *]) rfl ⟨?_, ?_⟩)
      · rfl
      · (repeat (first | exact Below.refl _ _ | refine balloc ?_ _ | refine bdrewN ?_ _ | refine Below.drew ?_ | refine Below.setCell ?_ (by first | (simp; done) | (simp; omega)) _))
    · rw [code_col_T hc] at h0
      go_enter Try.func29, Try.ntmps29
      (go_wp2_with fail; refine Calls.mono (isColour_any _ _) ?_; rintro e w' ⟨rfl, rfl⟩)
      (go_wp2_with fail; refine Calls.mono (implLines2 _ _ _ _ _ _ _ _ _ (by first | rfl | (simp; done))) ?_; rintro e w1 ⟨rfl, hB1⟩; obtain ⟨hB1c, hB1f⟩ := bcell hB1; have hB1s := hB1.size; (try simp at hB1s); (try have hB1q1 := Nat.lt_of_succ_le hB1s); (try have hB1q2 := Nat.lt_of_succ_lt hB1q1); (try have hB1q3 := Nat.lt_of_succ_lt hB1q2); (try have hB1zw0 : w.heap.size < w1.heap.size := (by omega)); (try have hB1zw1 : w.heap.size + 1 < w1.heap.size := (by omega)); (try have hB1zw2 : w.heap.size + 1 + 1 < w1.heap.size := (by omega)); (try have hB1zw3 : w.heap.size + 1 + 1 + 1 < w1.heap.size := (by omega)); (try have hB1zw4 : w.heap.size + 1 + 1 + 1 + 1 < w1.heap.size := (by omega)))
      (go_wp2_with fail; refine Calls.mono (codeFor_any _ _ _) ?_; rintro e w' ⟨rfl, rfl⟩)
      go_wp2
      (refine bodyPost_ret (v := apR p col l1 l2 l3 m1 m2 m3) (by simp [results, Try.results29, go_sem, HV.out.1, HV.out.2, *]) rfl ⟨?_, ?_⟩)
      · rfl
      · (repeat (first | exact Below.refl _ _ | refine balloc ?_ _ | refine bdrewN ?_ _ | refine Below.drew ?_ | refine bthen ?_ hB1 | refine Below.setCell ?_ (by first | (simp; done) | (simp; omega)) _))

end Go.Proofs.Ytacnlfdbpooleaa
