/-
  impl.haveEqualQuadrances.
-/
import Derived.Test.YtkkaicneabkkdaaHeMathq
import Derived.Test.YtkkaicneabkkdaaImplPlqq
import Derived.Deep.RegionHeld3
import Derived.Deep.DeepCutAuto
import Derived.Test.YtkkaicneabkkdaaMgq0

namespace Go.Proofs.Ytkkaicneabkkdaa
open Go.RowKit

set_option linter.unusedVariables false in
set_option linter.unusedSimpArgs false in
set_option maxRecDepth 20000 in
set_option maxHeartbeats 4000000 in
theorem heq_any (p m1 m2 m3 a1 a2 a3 b1 b2 b3 : Int)  (w : World) (hp : isP p = true) (hm1 : 0 ≤ m1 ∧ m1 ≤ 31) (hm2 : 0 ≤ m2 ∧ m2 ≤ 31) (hm3 : 0 ≤ m3 ∧ m3 ≤ 31) (ha1 : 0 ≤ a1 ∧ a1 ≤ 31) (ha2 : 0 ≤ a2 ∧ a2 ≤ 31) (ha3 : 0 ≤ a3 ∧ a3 ≤ 31) (hb1 : 0 ≤ b1 ∧ b1 ≤ 31) (hb2 : 0 ≤ b2 ∧ b2 ≤ 31) (hb3 : 0 ≤ b3 ∧ b3 ≤ 31) :
    Calls Try.prog 50 #[.int .i64 p, .agg #[.int .i64 m1, .int .i64 m2, .int .i64 m3], .agg #[.int .i64 a1, .int .i64 a2, .int .i64 a3], .agg #[.int .i64 b1, .int .i64 b2, .int .i64 b3]] w fun e w' =>
      e = .returned (.bool (heB p m1 m2 m3 a1 a2 a3 b1 b2 b3)) ∧ Below w.heap.size w w' := by
  have hr := isP_range hp
  go_enter Try.func50, Try.ntmps50
  rcases bool_ways (quZ p m1 m2 m3 a1 a2 a3) with hd1 | hd1
  · skip
    have c_1 : quC p m1 m2 m3 a1 a2 a3 = 0 := by simp [quC, quV, hd1]
    obtain ⟨v1, hv1⟩ : ∃ v : Int, v = plq p m1 m2 m3 a1 a2 a3 := ⟨_, rfl⟩
    have rv1 := plq_r m1 m2 m3 a1 a2 a3 hp
    rw [← hv1] at rv1
    have Hv1 := Lib.hid hv1
    clear hv1
    have c_2 : quV p m1 m2 m3 a1 a2 a3 = v1 := by rw [Hv1.out]; simp [quC, quV, hd1]
    go_wp2_with fail
    refine Calls.mono (implPlq_any _ _ _ _ _ _ _ _ hp (by omega) (by omega) (by omega) (by omega) (by omega) (by omega)) ?_
    rintro e w1 ⟨rfl, hB1⟩
    (obtain ⟨hB1c, hB1f⟩ := bcell hB1; have hB1s := hB1.size; (try simp at hB1s); (try have hB1q1 := Nat.lt_of_succ_le hB1s); (try have hB1q2 := Nat.lt_of_succ_lt hB1q1); (try have hB1q3 := Nat.lt_of_succ_lt hB1q2); (try have hB1zw0 : w.heap.size < w1.heap.size := (by omega)); (try have hB1zw1 : w.heap.size + 1 < w1.heap.size := (by omega)); (try have hB1zw2 : w.heap.size + 1 + 1 < w1.heap.size := (by omega)); (try have hB1zw3 : w.heap.size + 1 + 1 + 1 < w1.heap.size := (by omega)); (try have hB1zw4 : w.heap.size + 1 + 1 + 1 + 1 < w1.heap.size := (by omega)))
    rcases bool_ways (quZ p m1 m2 m3 b1 b2 b3) with hd2 | hd2
    · skip
      have c_3 : quC p m1 m2 m3 b1 b2 b3 = 0 := by simp [quC, quV, hd2]
      obtain ⟨v2, hv2⟩ : ∃ v : Int, v = plq p m1 m2 m3 b1 b2 b3 := ⟨_, rfl⟩
      have rv2 := plq_r m1 m2 m3 b1 b2 b3 hp
      rw [← hv2] at rv2
      have Hv2 := Lib.hid hv2
      clear hv2
      have c_4 : quV p m1 m2 m3 b1 b2 b3 = v2 := by rw [Hv2.out]; simp [quC, quV, hd2]
      go_wp2_with fail
      refine Calls.mono (implPlq_any _ _ _ _ _ _ _ _ hp (by omega) (by omega) (by omega) (by omega) (by omega) (by omega)) ?_
      rintro e w2 ⟨rfl, hB2⟩
      (obtain ⟨hB2c, hB2f⟩ := bcell hB2; have hB2s := hB2.size; (try simp at hB2s); (try have hB2q1 := Nat.lt_of_succ_le hB2s); (try have hB2q2 := Nat.lt_of_succ_lt hB2q1); (try have hB2q3 := Nat.lt_of_succ_lt hB2q2); (try have hB2zw0 : w.heap.size < w2.heap.size := (by omega)); (try have hB2zw1 : w.heap.size + 1 < w2.heap.size := (by omega)); (try have hB2zw2 : w.heap.size + 1 + 1 < w2.heap.size := (by omega)); (try have hB2zw3 : w.heap.size + 1 + 1 + 1 < w2.heap.size := (by omega)); (try have hB2zw4 : w.heap.size + 1 + 1 + 1 + 1 < w2.heap.size := (by omega)); (try have hB2zw10 : w1.heap.size < w2.heap.size := (by omega)); (try have hB2zw11 : w1.heap.size + 1 < w2.heap.size := (by omega)); (try have hB2zw12 : w1.heap.size + 1 + 1 < w2.heap.size := (by omega)); (try have hB2zw13 : w1.heap.size + 1 + 1 + 1 < w2.heap.size := (by omega)); (try have hB2zw14 : w1.heap.size + 1 + 1 + 1 + 1 < w2.heap.size := (by omega)))
      have HV := Lib.hid (show heB p m1 m2 m3 a1 a2 a3 b1 b2 b3 = (v1 == v2) from by
        unfold heB
        (try simp only [← Hv1.out, ← Hv2.out]) <;> simp [hd1, hd2])
      go_wp2
      (refine bodyPost_ret (v := .bool (heB p m1 m2 m3 a1 a2 a3 b1 b2 b3)) (by simp [results, Try.results50, go_sem, HV.out, *]) rfl ⟨?_, ?_⟩)
      · rfl
      · (repeat (first | with_reducible exact Below.refl _ _ | with_reducible refine balloc ?_ _ | with_reducible refine bdrewN ?_ _ | with_reducible refine Below.drew ?_ | with_reducible refine bthen ?_ (by with_reducible assumption) | with_reducible refine Below.setCell ?_ (by first | (simp; done) | (simp; omega)) _))
    · skip
      have c_3 : quC p m1 m2 m3 b1 b2 b3 = 5 := by simp [quC, quV, hd2]
      have c_4 : quV p m1 m2 m3 b1 b2 b3 = 0 := by simp [quC, quV, hd2]
      go_wp2_with fail
      refine Calls.mono (implPlq_any _ _ _ _ _ _ _ _ hp (by omega) (by omega) (by omega) (by omega) (by omega) (by omega)) ?_
      rintro e w2 ⟨rfl, hB2⟩
      (obtain ⟨hB2c, hB2f⟩ := bcell hB2; have hB2s := hB2.size; (try simp at hB2s); (try have hB2q1 := Nat.lt_of_succ_le hB2s); (try have hB2q2 := Nat.lt_of_succ_lt hB2q1); (try have hB2q3 := Nat.lt_of_succ_lt hB2q2); (try have hB2zw0 : w.heap.size < w2.heap.size := (by omega)); (try have hB2zw1 : w.heap.size + 1 < w2.heap.size := (by omega)); (try have hB2zw2 : w.heap.size + 1 + 1 < w2.heap.size := (by omega)); (try have hB2zw3 : w.heap.size + 1 + 1 + 1 < w2.heap.size := (by omega)); (try have hB2zw4 : w.heap.size + 1 + 1 + 1 + 1 < w2.heap.size := (by omega)); (try have hB2zw10 : w1.heap.size < w2.heap.size := (by omega)); (try have hB2zw11 : w1.heap.size + 1 < w2.heap.size := (by omega)); (try have hB2zw12 : w1.heap.size + 1 + 1 < w2.heap.size := (by omega)); (try have hB2zw13 : w1.heap.size + 1 + 1 + 1 < w2.heap.size := (by omega)); (try have hB2zw14 : w1.heap.size + 1 + 1 + 1 + 1 < w2.heap.size := (by omega)))
      have HV := Lib.hid (show heB p m1 m2 m3 a1 a2 a3 b1 b2 b3 = (v1 == 0) from by
        unfold heB
        (try simp only [← Hv1.out]) <;> simp [hd1, hd2])
      go_wp2
      (refine bodyPost_ret (v := .bool (heB p m1 m2 m3 a1 a2 a3 b1 b2 b3)) (by simp [results, Try.results50, go_sem, HV.out, *]) rfl ⟨?_, ?_⟩)
      · rfl
      · (repeat (first | with_reducible exact Below.refl _ _ | with_reducible refine balloc ?_ _ | with_reducible refine bdrewN ?_ _ | with_reducible refine Below.drew ?_ | with_reducible refine bthen ?_ (by with_reducible assumption) | with_reducible refine Below.setCell ?_ (by first | (simp; done) | (simp; omega)) _))
  · skip
    have c_1 : quC p m1 m2 m3 a1 a2 a3 = 5 := by simp [quC, quV, hd1]
    have c_2 : quV p m1 m2 m3 a1 a2 a3 = 0 := by simp [quC, quV, hd1]
    go_wp2_with fail
    refine Calls.mono (implPlq_any _ _ _ _ _ _ _ _ hp (by omega) (by omega) (by omega) (by omega) (by omega) (by omega)) ?_
    rintro e w1 ⟨rfl, hB1⟩
    (obtain ⟨hB1c, hB1f⟩ := bcell hB1; have hB1s := hB1.size; (try simp at hB1s); (try have hB1q1 := Nat.lt_of_succ_le hB1s); (try have hB1q2 := Nat.lt_of_succ_lt hB1q1); (try have hB1q3 := Nat.lt_of_succ_lt hB1q2); (try have hB1zw0 : w.heap.size < w1.heap.size := (by omega)); (try have hB1zw1 : w.heap.size + 1 < w1.heap.size := (by omega)); (try have hB1zw2 : w.heap.size + 1 + 1 < w1.heap.size := (by omega)); (try have hB1zw3 : w.heap.size + 1 + 1 + 1 < w1.heap.size := (by omega)); (try have hB1zw4 : w.heap.size + 1 + 1 + 1 + 1 < w1.heap.size := (by omega)))
    rcases bool_ways (quZ p m1 m2 m3 b1 b2 b3) with hd2 | hd2
    · skip
      have c_3 : quC p m1 m2 m3 b1 b2 b3 = 0 := by simp [quC, quV, hd2]
      obtain ⟨v1, hv1⟩ : ∃ v : Int, v = plq p m1 m2 m3 b1 b2 b3 := ⟨_, rfl⟩
      have rv1 := plq_r m1 m2 m3 b1 b2 b3 hp
      rw [← hv1] at rv1
      have Hv1 := Lib.hid hv1
      clear hv1
      have c_4 : quV p m1 m2 m3 b1 b2 b3 = v1 := by rw [Hv1.out]; simp [quC, quV, hd2]
      go_wp2_with fail
      refine Calls.mono (implPlq_any _ _ _ _ _ _ _ _ hp (by omega) (by omega) (by omega) (by omega) (by omega) (by omega)) ?_
      rintro e w2 ⟨rfl, hB2⟩
      (obtain ⟨hB2c, hB2f⟩ := bcell hB2; have hB2s := hB2.size; (try simp at hB2s); (try have hB2q1 := Nat.lt_of_succ_le hB2s); (try have hB2q2 := Nat.lt_of_succ_lt hB2q1); (try have hB2q3 := Nat.lt_of_succ_lt hB2q2); (try have hB2zw0 : w.heap.size < w2.heap.size := (by omega)); (try have hB2zw1 : w.heap.size + 1 < w2.heap.size := (by omega)); (try have hB2zw2 : w.heap.size + 1 + 1 < w2.heap.size := (by omega)); (try have hB2zw3 : w.heap.size + 1 + 1 + 1 < w2.heap.size := (by omega)); (try have hB2zw4 : w.heap.size + 1 + 1 + 1 + 1 < w2.heap.size := (by omega)); (try have hB2zw10 : w1.heap.size < w2.heap.size := (by omega)); (try have hB2zw11 : w1.heap.size + 1 < w2.heap.size := (by omega)); (try have hB2zw12 : w1.heap.size + 1 + 1 < w2.heap.size := (by omega)); (try have hB2zw13 : w1.heap.size + 1 + 1 + 1 < w2.heap.size := (by omega)); (try have hB2zw14 : w1.heap.size + 1 + 1 + 1 + 1 < w2.heap.size := (by omega)))
      have HV := Lib.hid (show heB p m1 m2 m3 a1 a2 a3 b1 b2 b3 = false from by
        unfold heB
        (try simp only [← Hv1.out]) <;> simp [hd1, hd2])
      go_wp2
      (refine bodyPost_ret (v := .bool (heB p m1 m2 m3 a1 a2 a3 b1 b2 b3)) (by simp [results, Try.results50, go_sem, HV.out, *]) rfl ⟨?_, ?_⟩)
      · rfl
      · (repeat (first | with_reducible exact Below.refl _ _ | with_reducible refine balloc ?_ _ | with_reducible refine bdrewN ?_ _ | with_reducible refine Below.drew ?_ | with_reducible refine bthen ?_ (by with_reducible assumption) | with_reducible refine Below.setCell ?_ (by first | (simp; done) | (simp; omega)) _))
    · skip
      have c_3 : quC p m1 m2 m3 b1 b2 b3 = 5 := by simp [quC, quV, hd2]
      have c_4 : quV p m1 m2 m3 b1 b2 b3 = 0 := by simp [quC, quV, hd2]
      go_wp2_with fail
      refine Calls.mono (implPlq_any _ _ _ _ _ _ _ _ hp (by omega) (by omega) (by omega) (by omega) (by omega) (by omega)) ?_
      rintro e w2 ⟨rfl, hB2⟩
      (obtain ⟨hB2c, hB2f⟩ := bcell hB2; have hB2s := hB2.size; (try simp at hB2s); (try have hB2q1 := Nat.lt_of_succ_le hB2s); (try have hB2q2 := Nat.lt_of_succ_lt hB2q1); (try have hB2q3 := Nat.lt_of_succ_lt hB2q2); (try have hB2zw0 : w.heap.size < w2.heap.size := (by omega)); (try have hB2zw1 : w.heap.size + 1 < w2.heap.size := (by omega)); (try have hB2zw2 : w.heap.size + 1 + 1 < w2.heap.size := (by omega)); (try have hB2zw3 : w.heap.size + 1 + 1 + 1 < w2.heap.size := (by omega)); (try have hB2zw4 : w.heap.size + 1 + 1 + 1 + 1 < w2.heap.size := (by omega)); (try have hB2zw10 : w1.heap.size < w2.heap.size := (by omega)); (try have hB2zw11 : w1.heap.size + 1 < w2.heap.size := (by omega)); (try have hB2zw12 : w1.heap.size + 1 + 1 < w2.heap.size := (by omega)); (try have hB2zw13 : w1.heap.size + 1 + 1 + 1 < w2.heap.size := (by omega)); (try have hB2zw14 : w1.heap.size + 1 + 1 + 1 + 1 < w2.heap.size := (by omega)))
      have HV := Lib.hid (show heB p m1 m2 m3 a1 a2 a3 b1 b2 b3 = false from by
        unfold heB
        (try simp only []) <;> simp [hd1, hd2])
      go_wp2
      (refine bodyPost_ret (v := .bool (heB p m1 m2 m3 a1 a2 a3 b1 b2 b3)) (by simp [results, Try.results50, go_sem, HV.out, *]) rfl ⟨?_, ?_⟩)
      · rfl
      · (repeat (first | with_reducible exact Below.refl _ _ | with_reducible refine balloc ?_ _ | with_reducible refine bdrewN ?_ _ | with_reducible refine Below.drew ?_ | with_reducible refine bthen ?_ (by with_reducible assumption) | with_reducible refine Below.setCell ?_ (by first | (simp; done) | (simp; omega)) _))

end Go.Proofs.Ytkkaicneabkkdaa
