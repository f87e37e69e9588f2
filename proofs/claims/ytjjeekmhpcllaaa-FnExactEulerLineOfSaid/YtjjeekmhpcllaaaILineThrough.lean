/-
  The program's LineThrough.
-/
import Derived.Test.YtjjeekmhpcllaaaCode
import Derived.Test.YtjjeekmhpcllaaaImplPts
import Derived.Test.YtjjeekmhpcllaaaImplLine
import Derived.Test.YtjjeekmhpcllaaaArrEq
namespace Go.Proofs.Ytjjeekmhpcllaaa
open Go.RowKit

/-- The points are good and different. -/
def ltOk (p a1 a2 b1 b2 : Int) : Bool := decide (codeOf p (numsIn p [a1, a2, b1, b2]) = 0 ∧ ¬ (a1 = b1 ∧ a2 = b2))
def ltC (p a1 a2 b1 b2 : Int) : Int := if codeOf p (numsIn p [a1, a2, b1, b2]) = 0 ∧ a1 = b1 ∧ a2 = b2 then 5 else codeOf p (numsIn p [a1, a2, b1, b2])
def ltV1 (p a1 a2 b1 b2 : Int) : Int := if ltOk p a1 a2 b1 b2 then th1 p a1 a2 b1 b2 else 0
def ltV2 (p a1 a2 b1 b2 : Int) : Int := if ltOk p a1 a2 b1 b2 then th2 p a1 a2 b1 b2 else 0
def ltV3 (p a1 a2 b1 b2 : Int) : Int := if ltOk p a1 a2 b1 b2 then th3 p a1 a2 b1 b2 else 0
abbrev ltR (p a1 a2 b1 b2 : Int) : Value := .tuple #[.agg #[.int .i64 (ltV1 p a1 a2 b1 b2), .int .i64 (ltV2 p a1 a2 b1 b2), .int .i64 (ltV3 p a1 a2 b1 b2)], .int .i64 (ltC p a1 a2 b1 b2)]

theorem lt_err {p a1 a2 b1 b2 c : Int} (h : codeOf p (numsIn p [a1, a2, b1, b2]) = c) (hc : c ≠ 0) : ltV1 p a1 a2 b1 b2 = 0 ∧ ltV2 p a1 a2 b1 b2 = 0 ∧ ltV3 p a1 a2 b1 b2 = 0 ∧ ltC p a1 a2 b1 b2 = c := by
  simp [ltV1, ltV2, ltV3, ltOk, ltC, h, hc]
theorem lt_same {p a1 a2 : Int} (h : codeOf p (numsIn p [a1, a2, a1, a2]) = 0) : ltV1 p a1 a2 a1 a2 = 0 ∧ ltV2 p a1 a2 a1 a2 = 0 ∧ ltV3 p a1 a2 a1 a2 = 0 ∧ ltC p a1 a2 a1 a2 = 5 := by
  simp [ltV1, ltV2, ltV3, ltOk, ltC, h]
theorem lt_good {p a1 a2 b1 b2 : Int} (h : codeOf p (numsIn p [a1, a2, b1, b2]) = 0) (hne : ¬ (a1 = b1 ∧ a2 = b2)) :
    ltV1 p a1 a2 b1 b2 = th1 p a1 a2 b1 b2 ∧ ltV2 p a1 a2 b1 b2 = th2 p a1 a2 b1 b2 ∧ ltV3 p a1 a2 b1 b2 = th3 p a1 a2 b1 b2 ∧ ltC p a1 a2 b1 b2 = 0 := by
  have e : ltOk p a1 a2 b1 b2 = true := decide_eq_true ⟨h, hne⟩
  have f : ¬ (codeOf p (numsIn p [a1, a2, b1, b2]) = 0 ∧ a1 = b1 ∧ a2 = b2) := fun hh => hne hh.2
  rw [ltV1, ltV2, ltV3, ltC, if_pos e, if_pos e, if_pos e, if_neg f, h]
  exact ⟨rfl, rfl, rfl, rfl⟩

set_option maxRecDepth 20000 in
set_option maxHeartbeats 2000000 in
theorem implLineThrough_any (p a1 a2 b1 b2 : Int) (w : World) :
    Calls Try.prog 73 #[.int .i64 p, .agg #[.int .i64 a1, .int .i64 a2], .agg #[.int .i64 b1, .int .i64 b2]] w fun e w' => e = .returned (ltR p a1 a2 b1 b2) ∧ Below w.heap.size w w' := by
  have heq := equalPoint
  rcases code_cases p (numsIn p [a1, a2, b1, b2]) with ⟨h0, hp, hn⟩ | h0 | h0
  · have hr := isP_range hp
    have hq := nums4 hn
    clear hn
    by_cases hne : a1 = b1 ∧ a2 = b2
    · obtain ⟨rfl, rfl⟩ := hne
      have HV := Lib.hid (lt_same h0)
      go_enter Try.func73, Try.ntmps73
      (go_wp2_with fail; refine Calls.mono (implPoints2 _ _ _ _ _ _ _ (by simp)) ?_; rintro e w1 ⟨rfl, hB1⟩; obtain ⟨hB1c, hB1f⟩ := bcell hB1; have hB1s := hB1.size; (try simp at hB1s); (try have hB1q1 := Nat.lt_of_succ_le hB1s); (try have hB1q2 := Nat.lt_of_succ_lt hB1q1); (try have hB1q3 := Nat.lt_of_succ_lt hB1q2); (try have hB1zw0 : w.heap.size < w1.heap.size := (by omega)); (try have hB1zw1 : w.heap.size + 1 < w1.heap.size := (by omega)); (try have hB1zw2 : w.heap.size + 1 + 1 < w1.heap.size := (by omega)); (try have hB1zw3 : w.heap.size + 1 + 1 + 1 < w1.heap.size := (by omega)); (try have hB1zw4 : w.heap.size + 1 + 1 + 1 + 1 < w1.heap.size := (by omega)))
      (go_wp2_with fail; refine Calls.mono (codeFor_any _ _ _) ?_; rintro e w' ⟨rfl, rfl⟩)
      go_wp2
      (refine bodyPost_ret (v := ltR p a1 a2 a1 a2) (by simp [results, Try.results73, go_sem, HV.out.1, HV.out.2.1, HV.out.2.2.1, HV.out.2.2.2, *]) rfl ⟨?_, ?_⟩)
      · rfl
      · (repeat (first | exact Below.refl _ _ | refine balloc ?_ _ | refine bdrewN ?_ _ | refine Below.drew ?_ | refine bthen ?_ hB1 | refine Below.setCell ?_ (by first | (simp; done) | (simp; omega)) _))
    · have HV := Lib.hid (lt_good h0 hne)
      have HN := Lib.hid hne
      have hcmp : (a1 == b1 && a2 == b2) = false := by
        rw [Bool.and_eq_false_iff, beq_eq_false_iff_ne, beq_eq_false_iff_ne]; omega
      clear hne
      go_enter Try.func73, Try.ntmps73
      (go_wp2_with fail; refine Calls.mono (implPoints2 _ _ _ _ _ _ _ (by simp)) ?_; rintro e w1 ⟨rfl, hB1⟩; obtain ⟨hB1c, hB1f⟩ := bcell hB1; have hB1s := hB1.size; (try simp at hB1s); (try have hB1q1 := Nat.lt_of_succ_le hB1s); (try have hB1q2 := Nat.lt_of_succ_lt hB1q1); (try have hB1q3 := Nat.lt_of_succ_lt hB1q2); (try have hB1zw0 : w.heap.size < w1.heap.size := (by omega)); (try have hB1zw1 : w.heap.size + 1 < w1.heap.size := (by omega)); (try have hB1zw2 : w.heap.size + 1 + 1 < w1.heap.size := (by omega)); (try have hB1zw3 : w.heap.size + 1 + 1 + 1 < w1.heap.size := (by omega)); (try have hB1zw4 : w.heap.size + 1 + 1 + 1 + 1 < w1.heap.size := (by omega)))
      (go_wp2_with fail; refine Calls.mono (codeFor_any _ _ _) ?_; rintro e w' ⟨rfl, rfl⟩)
      (go_wp2_with fail; refine Calls.mono (implThrough_any _ _ _ _ _ _ hp (by omega) (by omega) (by omega) (by omega) HN.out) ?_; rintro e w2 ⟨rfl, hB2⟩; obtain ⟨hB2c, hB2f⟩ := bcell hB2; have hB2s := hB2.size; (try simp at hB2s); (try have hB2q1 := Nat.lt_of_succ_le hB2s); (try have hB2q2 := Nat.lt_of_succ_lt hB2q1); (try have hB2q3 := Nat.lt_of_succ_lt hB2q2); (try have hB2zw0 : w.heap.size < w2.heap.size := (by omega)); (try have hB2zw1 : w.heap.size + 1 < w2.heap.size := (by omega)); (try have hB2zw2 : w.heap.size + 1 + 1 < w2.heap.size := (by omega)); (try have hB2zw3 : w.heap.size + 1 + 1 + 1 < w2.heap.size := (by omega)); (try have hB2zw4 : w.heap.size + 1 + 1 + 1 + 1 < w2.heap.size := (by omega)); (try have hB2zw10 : w1.heap.size < w2.heap.size := (by omega)); (try have hB2zw11 : w1.heap.size + 1 < w2.heap.size := (by omega)); (try have hB2zw12 : w1.heap.size + 1 + 1 < w2.heap.size := (by omega)); (try have hB2zw13 : w1.heap.size + 1 + 1 + 1 < w2.heap.size := (by omega)); (try have hB2zw14 : w1.heap.size + 1 + 1 + 1 + 1 < w2.heap.size := (by omega)))
      go_wp2
      (refine bodyPost_ret (v := ltR p a1 a2 b1 b2) (by simp [results, Try.results73, go_sem, HV.out.1, HV.out.2.1, HV.out.2.2.1, HV.out.2.2.2, *]) rfl ⟨?_, ?_⟩)
      · rfl
      · (repeat (first | exact Below.refl _ _ | refine balloc ?_ _ | refine bdrewN ?_ _ | refine Below.drew ?_ | refine bthen ?_ hB1 | refine bthen ?_ hB2 | refine Below.setCell ?_ (by first | (simp; done) | (simp; omega)) _))
  all_goals
    have HV := Lib.hid (lt_err h0 (by omega))
    go_enter Try.func73, Try.ntmps73
    (go_wp2_with fail; refine Calls.mono (implPoints2 _ _ _ _ _ _ _ (by simp)) ?_; rintro e w1 ⟨rfl, hB1⟩; obtain ⟨hB1c, hB1f⟩ := bcell hB1; have hB1s := hB1.size; (try simp at hB1s); (try have hB1q1 := Nat.lt_of_succ_le hB1s); (try have hB1q2 := Nat.lt_of_succ_lt hB1q1); (try have hB1q3 := Nat.lt_of_succ_lt hB1q2); (try have hB1zw0 : w.heap.size < w1.heap.size := (by omega)); (try have hB1zw1 : w.heap.size + 1 < w1.heap.size := (by omega)); (try have hB1zw2 : w.heap.size + 1 + 1 < w1.heap.size := (by omega)); (try have hB1zw3 : w.heap.size + 1 + 1 + 1 < w1.heap.size := (by omega)); (try have hB1zw4 : w.heap.size + 1 + 1 + 1 + 1 < w1.heap.size := (by omega)))
    (go_wp2_with fail; refine Calls.mono (codeFor_any _ _ _) ?_; rintro e w' ⟨rfl, rfl⟩)
    go_wp2
    (refine bodyPost_ret (v := ltR p a1 a2 b1 b2) (by simp [results, Try.results73, go_sem, HV.out.1, HV.out.2.1, HV.out.2.2.1, HV.out.2.2.2, *]) rfl ⟨?_, ?_⟩)
    · rfl
    · (repeat (first | exact Below.refl _ _ | refine balloc ?_ _ | refine bdrewN ?_ _ | refine Below.drew ?_ | refine bthen ?_ hB1 | refine Below.setCell ?_ (by first | (simp; done) | (simp; omega)) _))

/-- The line through two points that are in their range. -/
def lwC (a1 a2 b1 b2 : Int) : Int := if (a1 == b1 && a2 == b2) = true then 5 else 0
def lw1 (p a1 a2 b1 b2 : Int) : Int := if (a1 == b1 && a2 == b2) = true then 0 else th1 p a1 a2 b1 b2
def lw2 (p a1 a2 b1 b2 : Int) : Int := if (a1 == b1 && a2 == b2) = true then 0 else th2 p a1 a2 b1 b2
def lw3 (p a1 a2 b1 b2 : Int) : Int := if (a1 == b1 && a2 == b2) = true then 0 else th3 p a1 a2 b1 b2
theorem implThroughIn (p a1 a2 b1 b2 : Int) (w : World) (hp : isP p = true) (ha1 : 0 ≤ a1 ∧ a1 < p) (ha2 : 0 ≤ a2 ∧ a2 < p) (hb1 : 0 ≤ b1 ∧ b1 < p) (hb2 : 0 ≤ b2 ∧ b2 < p) :
    Calls Try.prog 73 #[.int .i64 p, .agg #[.int .i64 a1, .int .i64 a2], .agg #[.int .i64 b1, .int .i64 b2]] w fun e w' => e = .returned (.tuple #[.agg #[.int .i64 (lw1 p a1 a2 b1 b2), .int .i64 (lw2 p a1 a2 b1 b2), .int .i64 (lw3 p a1 a2 b1 b2)], .int .i64 (lwC a1 a2 b1 b2)]) ∧ Below w.heap.size w w' := by
  have hn : numsIn p [a1, a2, b1, b2] = true := by simp only [numsIn, List.all_cons, List.all_nil, inB_true (show 0 ≤ a1 ∧ a1 ≤ p - 1 by omega), inB_true (show 0 ≤ a2 ∧ a2 ≤ p - 1 by omega), inB_true (show 0 ≤ b1 ∧ b1 ≤ p - 1 by omega), inB_true (show 0 ≤ b2 ∧ b2 ≤ p - 1 by omega)]; rfl
  have h := implLineThrough_any p a1 a2 b1 b2 w
  cases hq : (a1 == b1 && a2 == b2)
  · have g := lt_good (codeOf_in hp hn) (by rintro ⟨rfl, rfl⟩; simp at hq)
    rw [ltR, g.1, g.2.1, g.2.2.1, g.2.2.2] at h
    simp only [lw1, lw2, lw3, lwC, hq]
    exact h
  · simp only [Bool.and_eq_true, beq_iff_eq] at hq
    obtain ⟨rfl, rfl⟩ := hq
    have g := lt_same (codeOf_in hp hn)
    rw [ltR, g.1, g.2.1, g.2.2.1, g.2.2.2] at h
    simp only [lw1, lw2, lw3, lwC, beq_self_eq_true, Bool.and_self, if_true]
    exact h

end Go.Proofs.Ytjjeekmhpcllaaa
