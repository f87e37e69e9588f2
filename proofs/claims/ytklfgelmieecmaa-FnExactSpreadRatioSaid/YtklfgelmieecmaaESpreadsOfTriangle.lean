/-
  SpreadsOfTriangle: the program's and the model's.
-/
import Derived.Test.YtklfgelmieecmaaESpreadAt
import Derived.Test.YtklfgelmieecmaaSpecArea
import Derived.Test.YtklfgelmieecmaaImplArea
import Derived.Test.YtklfgelmieecmaaGrow
import Derived.Test.YtklfgelmieecmaaPcMath
namespace Go.Proofs.Ytklfgelmieecmaa
open Go.RowKit

def trT (p col a1 a2 b1 b2 c1 c2 : Int) : Int := if (area p a1 a2 b1 b2 c1 c2 == 0 || (qdr p col a1 a2 b1 b2 == 0 || (qdr p col b1 b2 c1 c2 == 0 || qdr p col a1 a2 c1 c2 == 0))) = true then 5 else 0
set_option linter.unusedVariables false in
def trB (p col a1 a2 b1 b2 c1 c2 : Int) : Bool := colB col && numsIn p [a1, a2, b1, b2, c1, c2]
set_option linter.unusedVariables false in
def trS (p col a1 a2 b1 b2 c1 c2 : Int) : Int := trT p col a1 a2 b1 b2 c1 c2
set_option linter.unusedVariables false in
def trC (p col a1 a2 b1 b2 c1 c2 : Int) : Int := if isP p = true then (if trB p col a1 a2 b1 b2 c1 c2 = true then trS p col a1 a2 b1 b2 c1 c2 else 2) else 1
set_option linter.unusedVariables false in
def trL (p col a1 a2 b1 b2 c1 c2 : Int) : List Int := if trC p col a1 a2 b1 b2 c1 c2 = 0 then [atO p col a1 a2 b1 b2 c1 c2, atO p col b1 b2 a1 a2 c1 c2, atO p col c1 c2 a1 a2 b1 b2] else []
theorem tr_zero {p col a1 a2 b1 b2 c1 c2 k : Int} (h : trC p col a1 a2 b1 b2 c1 c2 = k) (hk : k ≠ 0) : trL p col a1 a2 b1 b2 c1 c2 = [] ∧ trC p col a1 a2 b1 b2 c1 c2 = k := ⟨if_neg fun e => hk (h.symm.trans e), h⟩
theorem tr_no {p col a1 a2 b1 b2 c1 c2 : Int} (h : isP p = false) : trL p col a1 a2 b1 b2 c1 c2 = [] ∧ trC p col a1 a2 b1 b2 c1 c2 = 1 := tr_zero (by simp [trC, h]) (by decide)
theorem tr_out {p col a1 a2 b1 b2 c1 c2 : Int} (hp : isP p = true) (h : trB p col a1 a2 b1 b2 c1 c2 = false) : trL p col a1 a2 b1 b2 c1 c2 = [] ∧ trC p col a1 a2 b1 b2 c1 c2 = 2 := tr_zero (by simp [trC, hp, h]) (by decide)
theorem tr_st {p col a1 a2 b1 b2 c1 c2 k : Int} (hp : isP p = true) (h : trB p col a1 a2 b1 b2 c1 c2 = true) (hs : trS p col a1 a2 b1 b2 c1 c2 = k) (hk : k ≠ 0) : trL p col a1 a2 b1 b2 c1 c2 = [] ∧ trC p col a1 a2 b1 b2 c1 c2 = k := tr_zero (by simp [trC, hp, h, hs]) hk
theorem tr_good {p col a1 a2 b1 b2 c1 c2 : Int} (hp : isP p = true) (h : trB p col a1 a2 b1 b2 c1 c2 = true) (hs : trS p col a1 a2 b1 b2 c1 c2 = 0) : trL p col a1 a2 b1 b2 c1 c2 = [atO p col a1 a2 b1 b2 c1 c2, atO p col b1 b2 a1 a2 c1 c2, atO p col c1 c2 a1 a2 b1 b2] ∧ trC p col a1 a2 b1 b2 c1 c2 = 0 := by
  have h' : trC p col a1 a2 b1 b2 c1 c2 = 0 := by simp [trC, hp, h, hs]
  exact ⟨if_pos h', h'⟩

theorem nums6_b {p a1 a2 b1 b2 c1 c2 : Int} (h : numsIn p [a1, a2, b1, b2, c1, c2] = true) : numsIn p [b1, b2, a1, a2, c1, c2] = true := by
  simp only [numsIn, List.all_cons, List.all_nil, Bool.and_eq_true, and_true] at h ⊢; simp only [h, and_self]
theorem nums6_c {p a1 a2 b1 b2 c1 c2 : Int} (h : numsIn p [a1, a2, b1, b2, c1, c2] = true) : numsIn p [c1, c2, a1, a2, b1, b2] = true := by
  simp only [numsIn, List.all_cons, List.all_nil, Bool.and_eq_true, and_true] at h ⊢; simp only [h, and_self]
theorem sa_five {p col a1 a2 b1 b2 c1 c2 : Int} (hp : isP p = true) (hc : colB col = true) (hn : numsIn p [a1, a2, b1, b2, c1, c2] = true) (h : (qdr p col a1 a2 b1 b2 == 0 || qdr p col a1 a2 c1 c2 == 0) = true) : saV1 p col a1 a2 b1 b2 c1 c2 = 0 ∧ saC p col a1 a2 b1 b2 c1 c2 = 5 :=
  sa_st hp (by simp [saB, hc, hn]) (by rw [saS, atT, if_pos h]) (by decide)
theorem sa_nought {p col a1 a2 b1 b2 c1 c2 : Int} (hp : isP p = true) (hc : colB col = true) (hn : numsIn p [a1, a2, b1, b2, c1, c2] = true) (h : (qdr p col a1 a2 b1 b2 == 0 || qdr p col a1 a2 c1 c2 == 0) = false) : saV1 p col a1 a2 b1 b2 c1 c2 = atO p col a1 a2 b1 b2 c1 c2 ∧ saC p col a1 a2 b1 b2 c1 c2 = 0 :=
  sa_good hp (by simp [saB, hc, hn]) (by rw [saS, atT, if_neg (by simp [h])])
theorem tr_third {p col a1 a2 b1 b2 c1 c2 : Int} (hp : isP p = true) (hc : colB col = true) (h1 : (qdr p col a1 a2 b1 b2 == 0 || qdr p col a1 a2 c1 c2 == 0) = false) (h2 : (qdr p col b1 b2 a1 a2 == 0 || qdr p col b1 b2 c1 c2 == 0) = false) : (qdr p col c1 c2 a1 a2 == 0 || qdr p col c1 c2 b1 b2 == 0) = false := by
  rw [qdr_comm hp hc a1 a2 c1 c2, qdr_comm hp hc b1 b2 c1 c2]
  simp only [Bool.or_eq_false_iff] at h1 h2 ⊢; exact ⟨h1.2, h2.2⟩
theorem trT_1 {p col a1 a2 b1 b2 c1 c2 : Int} (h1 : (qdr p col a1 a2 b1 b2 == 0 || qdr p col a1 a2 c1 c2 == 0) = true) : trT p col a1 a2 b1 b2 c1 c2 = 5 := by
  rw [trT, if_pos]; simp only [Bool.or_eq_true] at h1 ⊢; rcases h1 with h | h <;> simp [h]
theorem trT_2 {p col a1 a2 b1 b2 c1 c2 : Int} (hp : isP p = true) (hc : colB col = true) (h1 : (qdr p col b1 b2 a1 a2 == 0 || qdr p col b1 b2 c1 c2 == 0) = true) : trT p col a1 a2 b1 b2 c1 c2 = 5 := by
  rw [qdr_comm hp hc a1 a2 b1 b2] at h1
  rw [trT, if_pos]; simp only [Bool.or_eq_true] at h1 ⊢; rcases h1 with h | h <;> simp [h]
theorem trT_0 {p col a1 a2 b1 b2 c1 c2 : Int} (h0 : (area p a1 a2 b1 b2 c1 c2 == 0) = false) (h1 : (qdr p col a1 a2 b1 b2 == 0 || qdr p col a1 a2 c1 c2 == 0) = false) (h2 : (qdr p col b1 b2 a1 a2 == 0 || qdr p col b1 b2 c1 c2 == 0) = false) : trT p col a1 a2 b1 b2 c1 c2 = 0 := by
  rw [trT, if_neg]; simp only [Bool.or_eq_false_iff] at h1 h2; simp [h0, h1, h2]
set_option linter.unusedSimpArgs false in
set_option maxRecDepth 20000 in
set_option maxHeartbeats 4000000 in
theorem specTri_any (p col a1 a2 b1 b2 c1 c2 : Int) (w : World) :
    Calls Try.prog 53 #[.int .i64 p, .int .i64 col, .agg #[.int .i64 a1, .int .i64 a2], .agg #[.int .i64 b1, .int .i64 b2], .agg #[.int .i64 c1, .int .i64 c2]] w fun e w' =>
      e = .returned (.int .i64 (trC p col a1 a2 b1 b2 c1 c2)) ∧ Below w.heap.size w w' := by
  go_enter Try.func53, Try.ntmps53
  rcases bool_ways (isP p) with hd1 | hd1
  · skip
    have c_1 : codeOf p (colB col && numsIn p [a1, a2, b1, b2, c1, c2]) = 1 := codeOf_no hd1
    have cN : ∀ b, codeOf p b = 1 := fun b => codeOf_no hd1
    go_wp2_with fail
    refine Calls.mono (spec3Code3 _ _ _ _ _ _ _ _ _ _ (by first | rfl | (simp; done))) ?_
    rintro e w1 ⟨rfl, hB1⟩
    (obtain ⟨hB1c, hB1f⟩ := bcell hB1; have hB1s := hB1.size; (try simp at hB1s); (try have hB1q1 := Nat.lt_of_succ_le hB1s); (try have hB1q2 := Nat.lt_of_succ_lt hB1q1); (try have hB1q3 := Nat.lt_of_succ_lt hB1q2); (try have hB1zw0 : w.heap.size < w1.heap.size := (by omega)); (try have hB1zw1 : w.heap.size + 1 < w1.heap.size := (by omega)); (try have hB1zw2 : w.heap.size + 1 + 1 < w1.heap.size := (by omega)); (try have hB1zw3 : w.heap.size + 1 + 1 + 1 < w1.heap.size := (by omega)); (try have hB1zw4 : w.heap.size + 1 + 1 + 1 + 1 < w1.heap.size := (by omega)))
    have HV := Lib.hid (show trC p col a1 a2 b1 b2 c1 c2 = 1 from by
      simp only [trC, trB, trS, trT] <;> simp [hd1])
    go_wp2
    (refine bodyPost_ret (v := .int .i64 (trC p col a1 a2 b1 b2 c1 c2)) (by simp [results, Try.results53, go_sem, HV.out, *]) rfl ⟨?_, ?_⟩)
    · rfl
    · (repeat (first | with_reducible exact Below.refl _ _ | with_reducible refine balloc ?_ _ | with_reducible refine bdrewN ?_ _ | with_reducible refine Below.drew ?_ | with_reducible refine bthen ?_ (by with_reducible assumption) | with_reducible refine Below.setCell ?_ (by first | (simp; done) | (simp; omega)) _))
  · have hp := hd1
    have hr := isP_range hp
    rcases bool_ways (colB col) with hd2 | hd2
    · skip
      have c_1 : codeOf p (colB col && numsIn p [a1, a2, b1, b2, c1, c2]) = 2 := codeOf_out hp (by simp [hd2])
      have cT : codeOf p true = 0 := codeOf_in hp rfl
      have cF : codeOf p false = 2 := codeOf_out hp rfl
      go_wp2_with fail
      refine Calls.mono (spec3Code3 _ _ _ _ _ _ _ _ _ _ (by first | rfl | (simp; done))) ?_
      rintro e w1 ⟨rfl, hB1⟩
      (obtain ⟨hB1c, hB1f⟩ := bcell hB1; have hB1s := hB1.size; (try simp at hB1s); (try have hB1q1 := Nat.lt_of_succ_le hB1s); (try have hB1q2 := Nat.lt_of_succ_lt hB1q1); (try have hB1q3 := Nat.lt_of_succ_lt hB1q2); (try have hB1zw0 : w.heap.size < w1.heap.size := (by omega)); (try have hB1zw1 : w.heap.size + 1 < w1.heap.size := (by omega)); (try have hB1zw2 : w.heap.size + 1 + 1 < w1.heap.size := (by omega)); (try have hB1zw3 : w.heap.size + 1 + 1 + 1 < w1.heap.size := (by omega)); (try have hB1zw4 : w.heap.size + 1 + 1 + 1 + 1 < w1.heap.size := (by omega)))
      have HV := Lib.hid (show trC p col a1 a2 b1 b2 c1 c2 = 2 from by
        simp only [trC, trB, trS, trT] <;> simp [hd1, hd2])
      go_wp2
      (refine bodyPost_ret (v := .int .i64 (trC p col a1 a2 b1 b2 c1 c2)) (by simp [results, Try.results53, go_sem, HV.out, *]) rfl ⟨?_, ?_⟩)
      · rfl
      · (repeat (first | with_reducible exact Below.refl _ _ | with_reducible refine balloc ?_ _ | with_reducible refine bdrewN ?_ _ | with_reducible refine Below.drew ?_ | with_reducible refine bthen ?_ (by with_reducible assumption) | with_reducible refine Below.setCell ?_ (by first | (simp; done) | (simp; omega)) _))
    · have hc := hd2
      have hcr := colB_range hc
      rcases bool_ways (numsIn p [a1, a2, b1, b2, c1, c2]) with hd3 | hd3
      · skip
        have c_1 : codeOf p (colB col && numsIn p [a1, a2, b1, b2, c1, c2]) = 2 := codeOf_out hp (by simp [hd2, hd3])
        have cT : codeOf p true = 0 := codeOf_in hp rfl
        have cF : codeOf p false = 2 := codeOf_out hp rfl
        go_wp2_with fail
        refine Calls.mono (spec3Code3 _ _ _ _ _ _ _ _ _ _ (by first | rfl | (simp; done))) ?_
        rintro e w1 ⟨rfl, hB1⟩
        (obtain ⟨hB1c, hB1f⟩ := bcell hB1; have hB1s := hB1.size; (try simp at hB1s); (try have hB1q1 := Nat.lt_of_succ_le hB1s); (try have hB1q2 := Nat.lt_of_succ_lt hB1q1); (try have hB1q3 := Nat.lt_of_succ_lt hB1q2); (try have hB1zw0 : w.heap.size < w1.heap.size := (by omega)); (try have hB1zw1 : w.heap.size + 1 < w1.heap.size := (by omega)); (try have hB1zw2 : w.heap.size + 1 + 1 < w1.heap.size := (by omega)); (try have hB1zw3 : w.heap.size + 1 + 1 + 1 < w1.heap.size := (by omega)); (try have hB1zw4 : w.heap.size + 1 + 1 + 1 + 1 < w1.heap.size := (by omega)))
        have HV := Lib.hid (show trC p col a1 a2 b1 b2 c1 c2 = 2 from by
          simp only [trC, trB, trS, trT] <;> simp [hd1, hd2, hd3])
        go_wp2
        (refine bodyPost_ret (v := .int .i64 (trC p col a1 a2 b1 b2 c1 c2)) (by simp [results, Try.results53, go_sem, HV.out, *]) rfl ⟨?_, ?_⟩)
        · rfl
        · (repeat (first | with_reducible exact Below.refl _ _ | with_reducible refine balloc ?_ _ | with_reducible refine bdrewN ?_ _ | with_reducible refine Below.drew ?_ | with_reducible refine bthen ?_ (by with_reducible assumption) | with_reducible refine Below.setCell ?_ (by first | (simp; done) | (simp; omega)) _))
      · have hd3q := nums6 hd3
        have c_1 : codeOf p (colB col && numsIn p [a1, a2, b1, b2, c1, c2]) = 0 := codeOf_in hp (by simp [hd2, hd3])
        have cT : codeOf p true = 0 := codeOf_in hp rfl
        obtain ⟨v1, hv1⟩ : ∃ v : Int, v = area p a1 a2 b1 b2 c1 c2 := ⟨_, rfl⟩
        have rv1 := area_r a1 a2 b1 b2 c1 c2 hp
        rw [← hv1] at rv1
        have Hv1 := Lib.hid hv1
        clear hv1
        go_wp2_with fail
        refine Calls.mono (spec3Code3 _ _ _ _ _ _ _ _ _ _ (by first | rfl | (simp; done))) ?_
        rintro e w1 ⟨rfl, hB1⟩
        (obtain ⟨hB1c, hB1f⟩ := bcell hB1; have hB1s := hB1.size; (try simp at hB1s); (try have hB1q1 := Nat.lt_of_succ_le hB1s); (try have hB1q2 := Nat.lt_of_succ_lt hB1q1); (try have hB1q3 := Nat.lt_of_succ_lt hB1q2); (try have hB1zw0 : w.heap.size < w1.heap.size := (by omega)); (try have hB1zw1 : w.heap.size + 1 < w1.heap.size := (by omega)); (try have hB1zw2 : w.heap.size + 1 + 1 < w1.heap.size := (by omega)); (try have hB1zw3 : w.heap.size + 1 + 1 + 1 < w1.heap.size := (by omega)); (try have hB1zw4 : w.heap.size + 1 + 1 + 1 + 1 < w1.heap.size := (by omega)))
        rcases bool_ways (v1 == 0) with hd4 | hd4
        · have hd4n : (v1 != 0) = true := by rw [bne, hd4]; rfl
          have Hhd4p := Lib.hid (beq_eq_false_iff_ne.1 hd4)
          obtain ⟨v2, hv2⟩ : ∃ v : Int, v = qdr p col a1 a2 b1 b2 := ⟨_, rfl⟩
          have rv2 := qdr_r col a1 a2 b1 b2 hp
          rw [← hv2] at rv2
          have Hv2 := Lib.hid hv2
          clear hv2
          rcases bool_ways (v2 == 0) with hd5 | hd5
          · have hd5n : (v2 != 0) = true := by rw [bne, hd5]; rfl
            have Hhd5p := Lib.hid (beq_eq_false_iff_ne.1 hd5)
            obtain ⟨v3, hv3⟩ : ∃ v : Int, v = qdr p col b1 b2 c1 c2 := ⟨_, rfl⟩
            have rv3 := qdr_r col b1 b2 c1 c2 hp
            rw [← hv3] at rv3
            have Hv3 := Lib.hid hv3
            clear hv3
            rcases bool_ways (v3 == 0) with hd6 | hd6
            · have hd6n : (v3 != 0) = true := by rw [bne, hd6]; rfl
              have Hhd6p := Lib.hid (beq_eq_false_iff_ne.1 hd6)
              obtain ⟨v4, hv4⟩ : ∃ v : Int, v = qdr p col a1 a2 c1 c2 := ⟨_, rfl⟩
              have rv4 := qdr_r col a1 a2 c1 c2 hp
              rw [← hv4] at rv4
              have Hv4 := Lib.hid hv4
              clear hv4
              go_wp2_with fail
              refine Calls.mono (specArea_any _ _ _ _ _ _ _ _ hp (by omega) (by omega) (by omega) (by omega) (by omega) (by omega)) ?_
              rw [← Hv1.out]
              rintro e w2 ⟨rfl, hB2⟩
              (obtain ⟨hB2c, hB2f⟩ := bcell hB2; have hB2s := hB2.size; (try simp at hB2s); (try have hB2q1 := Nat.lt_of_succ_le hB2s); (try have hB2q2 := Nat.lt_of_succ_lt hB2q1); (try have hB2q3 := Nat.lt_of_succ_lt hB2q2); (try have hB2zw0 : w.heap.size < w2.heap.size := (by omega)); (try have hB2zw1 : w.heap.size + 1 < w2.heap.size := (by omega)); (try have hB2zw2 : w.heap.size + 1 + 1 < w2.heap.size := (by omega)); (try have hB2zw3 : w.heap.size + 1 + 1 + 1 < w2.heap.size := (by omega)); (try have hB2zw4 : w.heap.size + 1 + 1 + 1 + 1 < w2.heap.size := (by omega)); (try have hB2zw10 : w1.heap.size < w2.heap.size := (by omega)); (try have hB2zw11 : w1.heap.size + 1 < w2.heap.size := (by omega)); (try have hB2zw12 : w1.heap.size + 1 + 1 < w2.heap.size := (by omega)); (try have hB2zw13 : w1.heap.size + 1 + 1 + 1 < w2.heap.size := (by omega)); (try have hB2zw14 : w1.heap.size + 1 + 1 + 1 + 1 < w2.heap.size := (by omega)))
              go_wp2_with fail
              refine Calls.mono (specQuad_any _ _ _ _ _ _ _ hp hc (by omega) (by omega) (by omega) (by omega)) ?_
              rw [← Hv2.out]
              rintro e w3 ⟨rfl, hB3⟩
              (obtain ⟨hB3c, hB3f⟩ := bcell hB3; have hB3s := hB3.size; (try simp at hB3s); (try have hB3q1 := Nat.lt_of_succ_le hB3s); (try have hB3q2 := Nat.lt_of_succ_lt hB3q1); (try have hB3q3 := Nat.lt_of_succ_lt hB3q2); (try have hB3zw0 : w.heap.size < w3.heap.size := (by omega)); (try have hB3zw1 : w.heap.size + 1 < w3.heap.size := (by omega)); (try have hB3zw2 : w.heap.size + 1 + 1 < w3.heap.size := (by omega)); (try have hB3zw3 : w.heap.size + 1 + 1 + 1 < w3.heap.size := (by omega)); (try have hB3zw4 : w.heap.size + 1 + 1 + 1 + 1 < w3.heap.size := (by omega)); (try have hB3zw20 : w2.heap.size < w3.heap.size := (by omega)); (try have hB3zw21 : w2.heap.size + 1 < w3.heap.size := (by omega)); (try have hB3zw22 : w2.heap.size + 1 + 1 < w3.heap.size := (by omega)); (try have hB3zw23 : w2.heap.size + 1 + 1 + 1 < w3.heap.size := (by omega)); (try have hB3zw24 : w2.heap.size + 1 + 1 + 1 + 1 < w3.heap.size := (by omega)); (try have hB3zw10 : w1.heap.size < w3.heap.size := (by omega)); (try have hB3zw11 : w1.heap.size + 1 < w3.heap.size := (by omega)); (try have hB3zw12 : w1.heap.size + 1 + 1 < w3.heap.size := (by omega)); (try have hB3zw13 : w1.heap.size + 1 + 1 + 1 < w3.heap.size := (by omega)); (try have hB3zw14 : w1.heap.size + 1 + 1 + 1 + 1 < w3.heap.size := (by omega)))
              go_wp2_with fail
              refine Calls.mono (specQuad_any _ _ _ _ _ _ _ hp hc (by omega) (by omega) (by omega) (by omega)) ?_
              rw [← Hv3.out]
              rintro e w4 ⟨rfl, hB4⟩
              (obtain ⟨hB4c, hB4f⟩ := bcell hB4; have hB4s := hB4.size; (try simp at hB4s); (try have hB4q1 := Nat.lt_of_succ_le hB4s); (try have hB4q2 := Nat.lt_of_succ_lt hB4q1); (try have hB4q3 := Nat.lt_of_succ_lt hB4q2); (try have hB4zw0 : w.heap.size < w4.heap.size := (by omega)); (try have hB4zw1 : w.heap.size + 1 < w4.heap.size := (by omega)); (try have hB4zw2 : w.heap.size + 1 + 1 < w4.heap.size := (by omega)); (try have hB4zw3 : w.heap.size + 1 + 1 + 1 < w4.heap.size := (by omega)); (try have hB4zw4 : w.heap.size + 1 + 1 + 1 + 1 < w4.heap.size := (by omega)); (try have hB4zw30 : w3.heap.size < w4.heap.size := (by omega)); (try have hB4zw31 : w3.heap.size + 1 < w4.heap.size := (by omega)); (try have hB4zw32 : w3.heap.size + 1 + 1 < w4.heap.size := (by omega)); (try have hB4zw33 : w3.heap.size + 1 + 1 + 1 < w4.heap.size := (by omega)); (try have hB4zw34 : w3.heap.size + 1 + 1 + 1 + 1 < w4.heap.size := (by omega)); (try have hB4zw20 : w2.heap.size < w4.heap.size := (by omega)); (try have hB4zw21 : w2.heap.size + 1 < w4.heap.size := (by omega)); (try have hB4zw22 : w2.heap.size + 1 + 1 < w4.heap.size := (by omega)); (try have hB4zw23 : w2.heap.size + 1 + 1 + 1 < w4.heap.size := (by omega)); (try have hB4zw24 : w2.heap.size + 1 + 1 + 1 + 1 < w4.heap.size := (by omega)); (try have hB4zw10 : w1.heap.size < w4.heap.size := (by omega)); (try have hB4zw11 : w1.heap.size + 1 < w4.heap.size := (by omega)); (try have hB4zw12 : w1.heap.size + 1 + 1 < w4.heap.size := (by omega)); (try have hB4zw13 : w1.heap.size + 1 + 1 + 1 < w4.heap.size := (by omega)); (try have hB4zw14 : w1.heap.size + 1 + 1 + 1 + 1 < w4.heap.size := (by omega)))
              go_wp2_with fail
              refine Calls.mono (specQuad_any _ _ _ _ _ _ _ hp hc (by omega) (by omega) (by omega) (by omega)) ?_
              rw [← Hv4.out]
              rintro e w5 ⟨rfl, hB5⟩
              (obtain ⟨hB5c, hB5f⟩ := bcell hB5; have hB5s := hB5.size; (try simp at hB5s); (try have hB5q1 := Nat.lt_of_succ_le hB5s); (try have hB5q2 := Nat.lt_of_succ_lt hB5q1); (try have hB5q3 := Nat.lt_of_succ_lt hB5q2); (try have hB5zw0 : w.heap.size < w5.heap.size := (by omega)); (try have hB5zw1 : w.heap.size + 1 < w5.heap.size := (by omega)); (try have hB5zw2 : w.heap.size + 1 + 1 < w5.heap.size := (by omega)); (try have hB5zw3 : w.heap.size + 1 + 1 + 1 < w5.heap.size := (by omega)); (try have hB5zw4 : w.heap.size + 1 + 1 + 1 + 1 < w5.heap.size := (by omega)); (try have hB5zw40 : w4.heap.size < w5.heap.size := (by omega)); (try have hB5zw41 : w4.heap.size + 1 < w5.heap.size := (by omega)); (try have hB5zw42 : w4.heap.size + 1 + 1 < w5.heap.size := (by omega)); (try have hB5zw43 : w4.heap.size + 1 + 1 + 1 < w5.heap.size := (by omega)); (try have hB5zw44 : w4.heap.size + 1 + 1 + 1 + 1 < w5.heap.size := (by omega)); (try have hB5zw30 : w3.heap.size < w5.heap.size := (by omega)); (try have hB5zw31 : w3.heap.size + 1 < w5.heap.size := (by omega)); (try have hB5zw32 : w3.heap.size + 1 + 1 < w5.heap.size := (by omega)); (try have hB5zw33 : w3.heap.size + 1 + 1 + 1 < w5.heap.size := (by omega)); (try have hB5zw34 : w3.heap.size + 1 + 1 + 1 + 1 < w5.heap.size := (by omega)); (try have hB5zw20 : w2.heap.size < w5.heap.size := (by omega)); (try have hB5zw21 : w2.heap.size + 1 < w5.heap.size := (by omega)); (try have hB5zw22 : w2.heap.size + 1 + 1 < w5.heap.size := (by omega)); (try have hB5zw23 : w2.heap.size + 1 + 1 + 1 < w5.heap.size := (by omega)); (try have hB5zw24 : w2.heap.size + 1 + 1 + 1 + 1 < w5.heap.size := (by omega)); (try have hB5zw10 : w1.heap.size < w5.heap.size := (by omega)); (try have hB5zw11 : w1.heap.size + 1 < w5.heap.size := (by omega)); (try have hB5zw12 : w1.heap.size + 1 + 1 < w5.heap.size := (by omega)); (try have hB5zw13 : w1.heap.size + 1 + 1 + 1 < w5.heap.size := (by omega)); (try have hB5zw14 : w1.heap.size + 1 + 1 + 1 + 1 < w5.heap.size := (by omega)))
              rcases bool_ways (v4 == 0) with hd7 | hd7
              · have hd7n : (v4 != 0) = true := by rw [bne, hd7]; rfl
                have Hhd7p := Lib.hid (beq_eq_false_iff_ne.1 hd7)
                have HV := Lib.hid (show trC p col a1 a2 b1 b2 c1 c2 = 0 from by
                  simp only [trC, trB, trS, trT, ← Hv1.out, ← Hv2.out, ← Hv3.out, ← Hv4.out] <;> simp [hd1, hd2, hd3, hd4, hd5, hd6, hd7])
                go_wp2
                (refine bodyPost_ret (v := .int .i64 (trC p col a1 a2 b1 b2 c1 c2)) (by simp [results, Try.results53, go_sem, HV.out, *]) rfl ⟨?_, ?_⟩)
                · rfl
                · (repeat (first | with_reducible exact Below.refl _ _ | with_reducible refine balloc ?_ _ | with_reducible refine bdrewN ?_ _ | with_reducible refine Below.drew ?_ | with_reducible refine bthen ?_ (by with_reducible assumption) | with_reducible refine Below.setCell ?_ (by first | (simp; done) | (simp; omega)) _))
              · have hd7n : (v4 != 0) = false := by rw [bne, hd7]; rfl
                have Hhd7p := Lib.hid (beq_iff_eq.1 hd7)
                have HV := Lib.hid (show trC p col a1 a2 b1 b2 c1 c2 = 5 from by
                  simp only [trC, trB, trS, trT, ← Hv1.out, ← Hv2.out, ← Hv3.out, ← Hv4.out] <;> simp [hd1, hd2, hd3, hd4, hd5, hd6, hd7])
                go_wp2
                (refine bodyPost_ret (v := .int .i64 (trC p col a1 a2 b1 b2 c1 c2)) (by simp [results, Try.results53, go_sem, HV.out, *]) rfl ⟨?_, ?_⟩)
                · rfl
                · (repeat (first | with_reducible exact Below.refl _ _ | with_reducible refine balloc ?_ _ | with_reducible refine bdrewN ?_ _ | with_reducible refine Below.drew ?_ | with_reducible refine bthen ?_ (by with_reducible assumption) | with_reducible refine Below.setCell ?_ (by first | (simp; done) | (simp; omega)) _))
            · have hd6n : (v3 != 0) = false := by rw [bne, hd6]; rfl
              have Hhd6p := Lib.hid (beq_iff_eq.1 hd6)
              go_wp2_with fail
              refine Calls.mono (specArea_any _ _ _ _ _ _ _ _ hp (by omega) (by omega) (by omega) (by omega) (by omega) (by omega)) ?_
              rw [← Hv1.out]
              rintro e w2 ⟨rfl, hB2⟩
              (obtain ⟨hB2c, hB2f⟩ := bcell hB2; have hB2s := hB2.size; (try simp at hB2s); (try have hB2q1 := Nat.lt_of_succ_le hB2s); (try have hB2q2 := Nat.lt_of_succ_lt hB2q1); (try have hB2q3 := Nat.lt_of_succ_lt hB2q2); (try have hB2zw0 : w.heap.size < w2.heap.size := (by omega)); (try have hB2zw1 : w.heap.size + 1 < w2.heap.size := (by omega)); (try have hB2zw2 : w.heap.size + 1 + 1 < w2.heap.size := (by omega)); (try have hB2zw3 : w.heap.size + 1 + 1 + 1 < w2.heap.size := (by omega)); (try have hB2zw4 : w.heap.size + 1 + 1 + 1 + 1 < w2.heap.size := (by omega)); (try have hB2zw10 : w1.heap.size < w2.heap.size := (by omega)); (try have hB2zw11 : w1.heap.size + 1 < w2.heap.size := (by omega)); (try have hB2zw12 : w1.heap.size + 1 + 1 < w2.heap.size := (by omega)); (try have hB2zw13 : w1.heap.size + 1 + 1 + 1 < w2.heap.size := (by omega)); (try have hB2zw14 : w1.heap.size + 1 + 1 + 1 + 1 < w2.heap.size := (by omega)))
              go_wp2_with fail
              refine Calls.mono (specQuad_any _ _ _ _ _ _ _ hp hc (by omega) (by omega) (by omega) (by omega)) ?_
              rw [← Hv2.out]
              rintro e w3 ⟨rfl, hB3⟩
              (obtain ⟨hB3c, hB3f⟩ := bcell hB3; have hB3s := hB3.size; (try simp at hB3s); (try have hB3q1 := Nat.lt_of_succ_le hB3s); (try have hB3q2 := Nat.lt_of_succ_lt hB3q1); (try have hB3q3 := Nat.lt_of_succ_lt hB3q2); (try have hB3zw0 : w.heap.size < w3.heap.size := (by omega)); (try have hB3zw1 : w.heap.size + 1 < w3.heap.size := (by omega)); (try have hB3zw2 : w.heap.size + 1 + 1 < w3.heap.size := (by omega)); (try have hB3zw3 : w.heap.size + 1 + 1 + 1 < w3.heap.size := (by omega)); (try have hB3zw4 : w.heap.size + 1 + 1 + 1 + 1 < w3.heap.size := (by omega)); (try have hB3zw20 : w2.heap.size < w3.heap.size := (by omega)); (try have hB3zw21 : w2.heap.size + 1 < w3.heap.size := (by omega)); (try have hB3zw22 : w2.heap.size + 1 + 1 < w3.heap.size := (by omega)); (try have hB3zw23 : w2.heap.size + 1 + 1 + 1 < w3.heap.size := (by omega)); (try have hB3zw24 : w2.heap.size + 1 + 1 + 1 + 1 < w3.heap.size := (by omega)); (try have hB3zw10 : w1.heap.size < w3.heap.size := (by omega)); (try have hB3zw11 : w1.heap.size + 1 < w3.heap.size := (by omega)); (try have hB3zw12 : w1.heap.size + 1 + 1 < w3.heap.size := (by omega)); (try have hB3zw13 : w1.heap.size + 1 + 1 + 1 < w3.heap.size := (by omega)); (try have hB3zw14 : w1.heap.size + 1 + 1 + 1 + 1 < w3.heap.size := (by omega)))
              go_wp2_with fail
              refine Calls.mono (specQuad_any _ _ _ _ _ _ _ hp hc (by omega) (by omega) (by omega) (by omega)) ?_
              rw [← Hv3.out]
              rintro e w4 ⟨rfl, hB4⟩
              (obtain ⟨hB4c, hB4f⟩ := bcell hB4; have hB4s := hB4.size; (try simp at hB4s); (try have hB4q1 := Nat.lt_of_succ_le hB4s); (try have hB4q2 := Nat.lt_of_succ_lt hB4q1); (try have hB4q3 := Nat.lt_of_succ_lt hB4q2); (try have hB4zw0 : w.heap.size < w4.heap.size := (by omega)); (try have hB4zw1 : w.heap.size + 1 < w4.heap.size := (by omega)); (try have hB4zw2 : w.heap.size + 1 + 1 < w4.heap.size := (by omega)); (try have hB4zw3 : w.heap.size + 1 + 1 + 1 < w4.heap.size := (by omega)); (try have hB4zw4 : w.heap.size + 1 + 1 + 1 + 1 < w4.heap.size := (by omega)); (try have hB4zw30 : w3.heap.size < w4.heap.size := (by omega)); (try have hB4zw31 : w3.heap.size + 1 < w4.heap.size := (by omega)); (try have hB4zw32 : w3.heap.size + 1 + 1 < w4.heap.size := (by omega)); (try have hB4zw33 : w3.heap.size + 1 + 1 + 1 < w4.heap.size := (by omega)); (try have hB4zw34 : w3.heap.size + 1 + 1 + 1 + 1 < w4.heap.size := (by omega)); (try have hB4zw20 : w2.heap.size < w4.heap.size := (by omega)); (try have hB4zw21 : w2.heap.size + 1 < w4.heap.size := (by omega)); (try have hB4zw22 : w2.heap.size + 1 + 1 < w4.heap.size := (by omega)); (try have hB4zw23 : w2.heap.size + 1 + 1 + 1 < w4.heap.size := (by omega)); (try have hB4zw24 : w2.heap.size + 1 + 1 + 1 + 1 < w4.heap.size := (by omega)); (try have hB4zw10 : w1.heap.size < w4.heap.size := (by omega)); (try have hB4zw11 : w1.heap.size + 1 < w4.heap.size := (by omega)); (try have hB4zw12 : w1.heap.size + 1 + 1 < w4.heap.size := (by omega)); (try have hB4zw13 : w1.heap.size + 1 + 1 + 1 < w4.heap.size := (by omega)); (try have hB4zw14 : w1.heap.size + 1 + 1 + 1 + 1 < w4.heap.size := (by omega)))
              have HV := Lib.hid (show trC p col a1 a2 b1 b2 c1 c2 = 5 from by
                simp only [trC, trB, trS, trT, ← Hv1.out, ← Hv2.out, ← Hv3.out] <;> simp [hd1, hd2, hd3, hd4, hd5, hd6])
              go_wp2
              (refine bodyPost_ret (v := .int .i64 (trC p col a1 a2 b1 b2 c1 c2)) (by simp [results, Try.results53, go_sem, HV.out, *]) rfl ⟨?_, ?_⟩)
              · rfl
              · (repeat (first | with_reducible exact Below.refl _ _ | with_reducible refine balloc ?_ _ | with_reducible refine bdrewN ?_ _ | with_reducible refine Below.drew ?_ | with_reducible refine bthen ?_ (by with_reducible assumption) | with_reducible refine Below.setCell ?_ (by first | (simp; done) | (simp; omega)) _))
          · have hd5n : (v2 != 0) = false := by rw [bne, hd5]; rfl
            have Hhd5p := Lib.hid (beq_iff_eq.1 hd5)
            go_wp2_with fail
            refine Calls.mono (specArea_any _ _ _ _ _ _ _ _ hp (by omega) (by omega) (by omega) (by omega) (by omega) (by omega)) ?_
            rw [← Hv1.out]
            rintro e w2 ⟨rfl, hB2⟩
            (obtain ⟨hB2c, hB2f⟩ := bcell hB2; have hB2s := hB2.size; (try simp at hB2s); (try have hB2q1 := Nat.lt_of_succ_le hB2s); (try have hB2q2 := Nat.lt_of_succ_lt hB2q1); (try have hB2q3 := Nat.lt_of_succ_lt hB2q2); (try have hB2zw0 : w.heap.size < w2.heap.size := (by omega)); (try have hB2zw1 : w.heap.size + 1 < w2.heap.size := (by omega)); (try have hB2zw2 : w.heap.size + 1 + 1 < w2.heap.size := (by omega)); (try have hB2zw3 : w.heap.size + 1 + 1 + 1 < w2.heap.size := (by omega)); (try have hB2zw4 : w.heap.size + 1 + 1 + 1 + 1 < w2.heap.size := (by omega)); (try have hB2zw10 : w1.heap.size < w2.heap.size := (by omega)); (try have hB2zw11 : w1.heap.size + 1 < w2.heap.size := (by omega)); (try have hB2zw12 : w1.heap.size + 1 + 1 < w2.heap.size := (by omega)); (try have hB2zw13 : w1.heap.size + 1 + 1 + 1 < w2.heap.size := (by omega)); (try have hB2zw14 : w1.heap.size + 1 + 1 + 1 + 1 < w2.heap.size := (by omega)))
            go_wp2_with fail
            refine Calls.mono (specQuad_any _ _ _ _ _ _ _ hp hc (by omega) (by omega) (by omega) (by omega)) ?_
            rw [← Hv2.out]
            rintro e w3 ⟨rfl, hB3⟩
            (obtain ⟨hB3c, hB3f⟩ := bcell hB3; have hB3s := hB3.size; (try simp at hB3s); (try have hB3q1 := Nat.lt_of_succ_le hB3s); (try have hB3q2 := Nat.lt_of_succ_lt hB3q1); (try have hB3q3 := Nat.lt_of_succ_lt hB3q2); (try have hB3zw0 : w.heap.size < w3.heap.size := (by omega)); (try have hB3zw1 : w.heap.size + 1 < w3.heap.size := (by omega)); (try have hB3zw2 : w.heap.size + 1 + 1 < w3.heap.size := (by omega)); (try have hB3zw3 : w.heap.size + 1 + 1 + 1 < w3.heap.size := (by omega)); (try have hB3zw4 : w.heap.size + 1 + 1 + 1 + 1 < w3.heap.size := (by omega)); (try have hB3zw20 : w2.heap.size < w3.heap.size := (by omega)); (try have hB3zw21 : w2.heap.size + 1 < w3.heap.size := (by omega)); (try have hB3zw22 : w2.heap.size + 1 + 1 < w3.heap.size := (by omega)); (try have hB3zw23 : w2.heap.size + 1 + 1 + 1 < w3.heap.size := (by omega)); (try have hB3zw24 : w2.heap.size + 1 + 1 + 1 + 1 < w3.heap.size := (by omega)); (try have hB3zw10 : w1.heap.size < w3.heap.size := (by omega)); (try have hB3zw11 : w1.heap.size + 1 < w3.heap.size := (by omega)); (try have hB3zw12 : w1.heap.size + 1 + 1 < w3.heap.size := (by omega)); (try have hB3zw13 : w1.heap.size + 1 + 1 + 1 < w3.heap.size := (by omega)); (try have hB3zw14 : w1.heap.size + 1 + 1 + 1 + 1 < w3.heap.size := (by omega)))
            have HV := Lib.hid (show trC p col a1 a2 b1 b2 c1 c2 = 5 from by
              simp only [trC, trB, trS, trT, ← Hv1.out, ← Hv2.out] <;> simp [hd1, hd2, hd3, hd4, hd5])
            go_wp2
            (refine bodyPost_ret (v := .int .i64 (trC p col a1 a2 b1 b2 c1 c2)) (by simp [results, Try.results53, go_sem, HV.out, *]) rfl ⟨?_, ?_⟩)
            · rfl
            · (repeat (first | with_reducible exact Below.refl _ _ | with_reducible refine balloc ?_ _ | with_reducible refine bdrewN ?_ _ | with_reducible refine Below.drew ?_ | with_reducible refine bthen ?_ (by with_reducible assumption) | with_reducible refine Below.setCell ?_ (by first | (simp; done) | (simp; omega)) _))
        · have hd4n : (v1 != 0) = false := by rw [bne, hd4]; rfl
          have Hhd4p := Lib.hid (beq_iff_eq.1 hd4)
          go_wp2_with fail
          refine Calls.mono (specArea_any _ _ _ _ _ _ _ _ hp (by omega) (by omega) (by omega) (by omega) (by omega) (by omega)) ?_
          rw [← Hv1.out]
          rintro e w2 ⟨rfl, hB2⟩
          (obtain ⟨hB2c, hB2f⟩ := bcell hB2; have hB2s := hB2.size; (try simp at hB2s); (try have hB2q1 := Nat.lt_of_succ_le hB2s); (try have hB2q2 := Nat.lt_of_succ_lt hB2q1); (try have hB2q3 := Nat.lt_of_succ_lt hB2q2); (try have hB2zw0 : w.heap.size < w2.heap.size := (by omega)); (try have hB2zw1 : w.heap.size + 1 < w2.heap.size := (by omega)); (try have hB2zw2 : w.heap.size + 1 + 1 < w2.heap.size := (by omega)); (try have hB2zw3 : w.heap.size + 1 + 1 + 1 < w2.heap.size := (by omega)); (try have hB2zw4 : w.heap.size + 1 + 1 + 1 + 1 < w2.heap.size := (by omega)); (try have hB2zw10 : w1.heap.size < w2.heap.size := (by omega)); (try have hB2zw11 : w1.heap.size + 1 < w2.heap.size := (by omega)); (try have hB2zw12 : w1.heap.size + 1 + 1 < w2.heap.size := (by omega)); (try have hB2zw13 : w1.heap.size + 1 + 1 + 1 < w2.heap.size := (by omega)); (try have hB2zw14 : w1.heap.size + 1 + 1 + 1 + 1 < w2.heap.size := (by omega)))
          have HV := Lib.hid (show trC p col a1 a2 b1 b2 c1 c2 = 5 from by
            simp only [trC, trB, trS, trT, ← Hv1.out] <;> simp [hd1, hd2, hd3, hd4])
          go_wp2
          (refine bodyPost_ret (v := .int .i64 (trC p col a1 a2 b1 b2 c1 c2)) (by simp [results, Try.results53, go_sem, HV.out, *]) rfl ⟨?_, ?_⟩)
          · rfl
          · (repeat (first | with_reducible exact Below.refl _ _ | with_reducible refine balloc ?_ _ | with_reducible refine bdrewN ?_ _ | with_reducible refine Below.drew ?_ | with_reducible refine bthen ?_ (by with_reducible assumption) | with_reducible refine Below.setCell ?_ (by first | (simp; done) | (simp; omega)) _))

set_option linter.unusedSimpArgs false in
set_option maxRecDepth 20000 in
set_option maxHeartbeats 4000000 in
theorem specSpreadsOfTriangle_any (p col a1 a2 b1 b2 c1 c2 : Int) (w : World) :
    Calls Try.prog 31 #[.int .i64 p, .int .i64 col, .agg #[.int .i64 a1, .int .i64 a2], .agg #[.int .i64 b1, .int .i64 b2], .agg #[.int .i64 c1, .int .i64 c2]] w fun e w' =>
      SlicePost 2 1 (trL p col a1 a2 b1 b2 c1 c2) (trC p col a1 a2 b1 b2 c1 c2) w e w' := by
  go_enter Try.func31, Try.ntmps31
  rcases bool_ways (isP p) with hd1 | hd1
  · skip
    have c_1 : trC p col a1 a2 b1 b2 c1 c2 = 1 := by simp [trC, trB, trS, trT, hd1]
    go_wp2_with fail
    refine Calls.mono (specTri_any _ _ _ _ _ _ _ _ _ ) ?_
    rintro e w1 ⟨rfl, hB1⟩
    (obtain ⟨hB1c, hB1f⟩ := bcell hB1; have hB1s := hB1.size; (try simp at hB1s); (try have hB1q1 := Nat.lt_of_succ_le hB1s); (try have hB1q2 := Nat.lt_of_succ_lt hB1q1); (try have hB1q3 := Nat.lt_of_succ_lt hB1q2); (try have hB1zw0 : w.heap.size < w1.heap.size := (by omega)); (try have hB1zw1 : w.heap.size + 1 < w1.heap.size := (by omega)); (try have hB1zw2 : w.heap.size + 1 + 1 < w1.heap.size := (by omega)); (try have hB1zw3 : w.heap.size + 1 + 1 + 1 < w1.heap.size := (by omega)); (try have hB1zw4 : w.heap.size + 1 + 1 + 1 + 1 < w1.heap.size := (by omega)))
    have HV := Lib.hid (tr_no (col := col) (a1 := a1) (a2 := a2) (b1 := b1) (b2 := b2) (c1 := c1) (c2 := c2) hd1)
    go_wp2
    (refine bodyPost_ret (v := .tuple #[.slice none 0 0, .int .i64 (trC p col a1 a2 b1 b2 c1 c2)]) (by simp [results, Try.results31, go_sem, HV.out.2]) rfl (slicePost_nil HV.out.1 ?_))
    (repeat (first | with_reducible exact Below.refl _ _ | with_reducible refine balloc ?_ _ | with_reducible refine bdrewN ?_ _ | with_reducible refine Below.drew ?_ | with_reducible refine bthen ?_ (by with_reducible assumption) | with_reducible refine Below.setCell ?_ (by first | (simp; done) | (simp; omega)) _))
  · have hp := hd1
    have hr := isP_range hp
    rcases bool_ways (colB col) with hd2 | hd2
    · skip
      have c_1 : trC p col a1 a2 b1 b2 c1 c2 = 2 := by simp [trC, trB, trS, trT, hd1, hd2]
      go_wp2_with fail
      refine Calls.mono (specTri_any _ _ _ _ _ _ _ _ _ ) ?_
      rintro e w1 ⟨rfl, hB1⟩
      (obtain ⟨hB1c, hB1f⟩ := bcell hB1; have hB1s := hB1.size; (try simp at hB1s); (try have hB1q1 := Nat.lt_of_succ_le hB1s); (try have hB1q2 := Nat.lt_of_succ_lt hB1q1); (try have hB1q3 := Nat.lt_of_succ_lt hB1q2); (try have hB1zw0 : w.heap.size < w1.heap.size := (by omega)); (try have hB1zw1 : w.heap.size + 1 < w1.heap.size := (by omega)); (try have hB1zw2 : w.heap.size + 1 + 1 < w1.heap.size := (by omega)); (try have hB1zw3 : w.heap.size + 1 + 1 + 1 < w1.heap.size := (by omega)); (try have hB1zw4 : w.heap.size + 1 + 1 + 1 + 1 < w1.heap.size := (by omega)))
      have HV := Lib.hid (tr_out (col := col) (a1 := a1) (a2 := a2) (b1 := b1) (b2 := b2) (c1 := c1) (c2 := c2) hp (by simp [trB, hd1, hd2]))
      go_wp2
      (refine bodyPost_ret (v := .tuple #[.slice none 0 0, .int .i64 (trC p col a1 a2 b1 b2 c1 c2)]) (by simp [results, Try.results31, go_sem, HV.out.2]) rfl (slicePost_nil HV.out.1 ?_))
      (repeat (first | with_reducible exact Below.refl _ _ | with_reducible refine balloc ?_ _ | with_reducible refine bdrewN ?_ _ | with_reducible refine Below.drew ?_ | with_reducible refine bthen ?_ (by with_reducible assumption) | with_reducible refine Below.setCell ?_ (by first | (simp; done) | (simp; omega)) _))
    · have hc := hd2
      have hcr := colB_range hc
      rcases bool_ways (numsIn p [a1, a2, b1, b2, c1, c2]) with hd3 | hd3
      · skip
        have c_1 : trC p col a1 a2 b1 b2 c1 c2 = 2 := by simp [trC, trB, trS, trT, hd1, hd2, hd3]
        go_wp2_with fail
        refine Calls.mono (specTri_any _ _ _ _ _ _ _ _ _ ) ?_
        rintro e w1 ⟨rfl, hB1⟩
        (obtain ⟨hB1c, hB1f⟩ := bcell hB1; have hB1s := hB1.size; (try simp at hB1s); (try have hB1q1 := Nat.lt_of_succ_le hB1s); (try have hB1q2 := Nat.lt_of_succ_lt hB1q1); (try have hB1q3 := Nat.lt_of_succ_lt hB1q2); (try have hB1zw0 : w.heap.size < w1.heap.size := (by omega)); (try have hB1zw1 : w.heap.size + 1 < w1.heap.size := (by omega)); (try have hB1zw2 : w.heap.size + 1 + 1 < w1.heap.size := (by omega)); (try have hB1zw3 : w.heap.size + 1 + 1 + 1 < w1.heap.size := (by omega)); (try have hB1zw4 : w.heap.size + 1 + 1 + 1 + 1 < w1.heap.size := (by omega)))
        have HV := Lib.hid (tr_out (col := col) (a1 := a1) (a2 := a2) (b1 := b1) (b2 := b2) (c1 := c1) (c2 := c2) hp (by simp [trB, hd1, hd2, hd3]))
        go_wp2
        (refine bodyPost_ret (v := .tuple #[.slice none 0 0, .int .i64 (trC p col a1 a2 b1 b2 c1 c2)]) (by simp [results, Try.results31, go_sem, HV.out.2]) rfl (slicePost_nil HV.out.1 ?_))
        (repeat (first | with_reducible exact Below.refl _ _ | with_reducible refine balloc ?_ _ | with_reducible refine bdrewN ?_ _ | with_reducible refine Below.drew ?_ | with_reducible refine bthen ?_ (by with_reducible assumption) | with_reducible refine Below.setCell ?_ (by first | (simp; done) | (simp; omega)) _))
      · have hd3q := nums6 hd3
        rcases bool_ways (area p a1 a2 b1 b2 c1 c2 == 0) with hd4 | hd4
        · have hd4n : (area p a1 a2 b1 b2 c1 c2 != 0) = true := by rw [bne, hd4]; rfl
          have Hhd4p := Lib.hid (beq_eq_false_iff_ne.1 hd4)
          rcases bool_ways (qdr p col a1 a2 b1 b2 == 0) with hd5 | hd5
          · have hd5n : (qdr p col a1 a2 b1 b2 != 0) = true := by rw [bne, hd5]; rfl
            have Hhd5p := Lib.hid (beq_eq_false_iff_ne.1 hd5)
            rcases bool_ways (qdr p col b1 b2 c1 c2 == 0) with hd6 | hd6
            · have hd6n : (qdr p col b1 b2 c1 c2 != 0) = true := by rw [bne, hd6]; rfl
              have Hhd6p := Lib.hid (beq_eq_false_iff_ne.1 hd6)
              rcases bool_ways (qdr p col a1 a2 c1 c2 == 0) with hd7 | hd7
              · have hd7n : (qdr p col a1 a2 c1 c2 != 0) = true := by rw [bne, hd7]; rfl
                have Hhd7p := Lib.hid (beq_eq_false_iff_ne.1 hd7)
                have c_1 : trC p col a1 a2 b1 b2 c1 c2 = 0 := by simp [trC, trB, trS, trT, hd1, hd2, hd3, hd4, hd5, hd6, hd7]
                go_wp2_with fail
                refine Calls.mono (specTri_any _ _ _ _ _ _ _ _ _ ) ?_
                rintro e w1 ⟨rfl, hB1⟩
                (obtain ⟨hB1c, hB1f⟩ := bcell hB1; have hB1s := hB1.size; (try simp at hB1s); (try have hB1q1 := Nat.lt_of_succ_le hB1s); (try have hB1q2 := Nat.lt_of_succ_lt hB1q1); (try have hB1q3 := Nat.lt_of_succ_lt hB1q2); (try have hB1zw0 : w.heap.size < w1.heap.size := (by omega)); (try have hB1zw1 : w.heap.size + 1 < w1.heap.size := (by omega)); (try have hB1zw2 : w.heap.size + 1 + 1 < w1.heap.size := (by omega)); (try have hB1zw3 : w.heap.size + 1 + 1 + 1 < w1.heap.size := (by omega)); (try have hB1zw4 : w.heap.size + 1 + 1 + 1 + 1 < w1.heap.size := (by omega)))
                have HB : trB p col a1 a2 b1 b2 c1 c2 = true := by simp [trB, hd1, hd2, hd3, hd4, hd5, hd6, hd7]
                have HS : trS p col a1 a2 b1 b2 c1 c2 = 0 := by (simp only [trS, trT] <;> simp [hd1, hd2, hd3, hd4, hd5, hd6, hd7])
                have HV := Lib.hid (tr_good (col := col) (a1 := a1) (a2 := a2) (b1 := b1) (b2 := b2) (c1 := c1) (c2 := c2) hp HB HS)
                clear HB HS
                obtain ⟨x0, hx0⟩ : ∃ x, x = atO p col a1 a2 b1 b2 c1 c2 := ⟨_, rfl⟩
                obtain ⟨x1, hx1⟩ : ∃ x, x = atO p col b1 b2 a1 a2 c1 c2 := ⟨_, rfl⟩
                obtain ⟨x2, hx2⟩ : ∃ x, x = atO p col c1 c2 a1 a2 b1 b2 := ⟨_, rfl⟩
                have HX := Lib.hid (show trL p col a1 a2 b1 b2 c1 c2 = [x0, x1, x2] ∧ trC p col a1 a2 b1 b2 c1 c2 = 0 from by rw [hx0, hx1, hx2]; exact HV.out)
                have Hx0 := Lib.hid hx0
                have Hx1 := Lib.hid hx1
                have Hx2 := Lib.hid hx2
                clear hx0 hx1 hx2
                have kb0_0 : w1.cell? ⟨w.heap.size, 0, none⟩ = some (.int .i64 a1) := by (first | with_reducible assumption | (repeat (first | with_reducible assumption | ((with_reducible refine kfresh ?_ ?_) <;> (first | with_reducible rfl | (simp; done))) | with_reducible refine ksame (u := .int .i64 0) ?_ | with_reducible refine kother (by decide) ?_ | with_reducible refine kset (by first | omega | (simp; done) | (simp; omega)) ?_ | with_reducible refine kalloc _ ?_ | with_reducible refine kdrew ?_ | with_reducible refine kcall (by with_reducible assumption) ?_)))
                have kb0_1 : w1.cell? ⟨w.heap.size, 1, none⟩ = some (.int .i64 a2) := by (first | with_reducible assumption | (repeat (first | with_reducible assumption | ((with_reducible refine kfresh ?_ ?_) <;> (first | with_reducible rfl | (simp; done))) | with_reducible refine ksame (u := .int .i64 0) ?_ | with_reducible refine kother (by decide) ?_ | with_reducible refine kset (by first | omega | (simp; done) | (simp; omega)) ?_ | with_reducible refine kalloc _ ?_ | with_reducible refine kdrew ?_ | with_reducible refine kcall (by with_reducible assumption) ?_)))
                have kb1_0 : w1.cell? ⟨w.heap.size + 1, 0, none⟩ = some (.int .i64 b1) := by (first | with_reducible assumption | (repeat (first | with_reducible assumption | ((with_reducible refine kfresh ?_ ?_) <;> (first | with_reducible rfl | (simp; done))) | with_reducible refine ksame (u := .int .i64 0) ?_ | with_reducible refine kother (by decide) ?_ | with_reducible refine kset (by first | omega | (simp; done) | (simp; omega)) ?_ | with_reducible refine kalloc _ ?_ | with_reducible refine kdrew ?_ | with_reducible refine kcall (by with_reducible assumption) ?_)))
                have kb1_1 : w1.cell? ⟨w.heap.size + 1, 1, none⟩ = some (.int .i64 b2) := by (first | with_reducible assumption | (repeat (first | with_reducible assumption | ((with_reducible refine kfresh ?_ ?_) <;> (first | with_reducible rfl | (simp; done))) | with_reducible refine ksame (u := .int .i64 0) ?_ | with_reducible refine kother (by decide) ?_ | with_reducible refine kset (by first | omega | (simp; done) | (simp; omega)) ?_ | with_reducible refine kalloc _ ?_ | with_reducible refine kdrew ?_ | with_reducible refine kcall (by with_reducible assumption) ?_)))
                have kb2_0 : w1.cell? ⟨w.heap.size + 1 + 1, 0, none⟩ = some (.int .i64 c1) := by (first | with_reducible assumption | (repeat (first | with_reducible assumption | ((with_reducible refine kfresh ?_ ?_) <;> (first | with_reducible rfl | (simp; done))) | with_reducible refine ksame (u := .int .i64 0) ?_ | with_reducible refine kother (by decide) ?_ | with_reducible refine kset (by first | omega | (simp; done) | (simp; omega)) ?_ | with_reducible refine kalloc _ ?_ | with_reducible refine kdrew ?_ | with_reducible refine kcall (by with_reducible assumption) ?_)))
                have kb2_1 : w1.cell? ⟨w.heap.size + 1 + 1, 1, none⟩ = some (.int .i64 c2) := by (first | with_reducible assumption | (repeat (first | with_reducible assumption | ((with_reducible refine kfresh ?_ ?_) <;> (first | with_reducible rfl | (simp; done))) | with_reducible refine ksame (u := .int .i64 0) ?_ | with_reducible refine kother (by decide) ?_ | with_reducible refine kset (by first | omega | (simp; done) | (simp; omega)) ?_ | with_reducible refine kalloc _ ?_ | with_reducible refine kdrew ?_ | with_reducible refine kcall (by with_reducible assumption) ?_)))
                have hW : Below w.heap.size w w1 := by (repeat (first | exact Below.refl _ _ | refine balloc ?_ _ | refine bdrewN ?_ _ | refine Below.drew ?_ | refine bthen ?_ hB1 | refine bthen ?_ hB2 | refine bthen ?_ hB3 | refine bthen ?_ hB4 | refine bthen ?_ hB5 | refine bthen ?_ hB6 | refine bthen ?_ hB7 | refine bthen ?_ hB8 | refine Below.setCell ?_ (by first | (simp; done) | (simp; omega)) _))
                go_upto_region 4 with fail
                go_cut [10, 11] (fun s10 s11 wx => ∃ g : Nat, s10 = .slice (some ⟨g, 0, none⟩) 3 3 ∧ s11 = .int .i64 0 ∧ wx.ownsRow w.heap.size 2 1 (.slice (some ⟨g, 0, none⟩) 3 3) 3 (ints [x0, x1, x2]) ∧ Below w.heap.size w wx)
                case first =>
                  go_region_held3 (fun W => W.cell? ⟨w.heap.size, 0, none⟩ = some (.int .i64 a1) ∧ W.cell? ⟨w.heap.size, 1, none⟩ = some (.int .i64 a2) ∧ W.cell? ⟨w.heap.size + 1, 0, none⟩ = some (.int .i64 b1) ∧ W.cell? ⟨w.heap.size + 1, 1, none⟩ = some (.int .i64 b2) ∧ W.cell? ⟨w.heap.size + 1 + 1, 0, none⟩ = some (.int .i64 c1) ∧ W.cell? ⟨w.heap.size + 1 + 1, 1, none⟩ = some (.int .i64 c2)) (first | (refine ⟨?_, ?_, ?_, ?_, ?_, ?_⟩ <;> ((try with_reducible refine kdrew ?_); (repeat with_reducible refine kalloc _ ?_); with_reducible assumption)) | (first | with_reducible assumption | with_reducible exact (And.imp (kcall hB) (And.imp (kcall hB) (And.imp (kcall hB) (And.imp (kcall hB) (And.imp (kcall hB) ((kcall hB))))))) (by with_reducible assumption) | with_reducible exact (And.imp (kalloc _) (And.imp (kalloc _) (And.imp (kalloc _) (And.imp (kalloc _) (And.imp (kalloc _) ((kalloc _))))))) (by with_reducible assumption) | with_reducible exact (And.imp (krealloc (by first | omega | (simp; done) | (simp; omega))) (And.imp (krealloc (by first | omega | (simp; done) | (simp; omega))) (And.imp (krealloc (by first | omega | (simp; done) | (simp; omega))) (And.imp (krealloc (by first | omega | (simp; done) | (simp; omega))) (And.imp (krealloc (by first | omega | (simp; done) | (simp; omega))) ((krealloc (by first | omega | (simp; done) | (simp; omega))))))))) (by with_reducible assumption) | with_reducible exact (And.imp (fun h => kdrew (kalloc _ (kundrew h))) (And.imp (fun h => kdrew (kalloc _ (kundrew h))) (And.imp (fun h => kdrew (kalloc _ (kundrew h))) (And.imp (fun h => kdrew (kalloc _ (kundrew h))) (And.imp (fun h => kdrew (kalloc _ (kundrew h))) ((fun h => kdrew (kalloc _ (kundrew h))))))))) (by with_reducible assumption) | with_reducible exact (And.imp (fun h => kdrew (krealloc (by first | omega | (simp; done) | (simp; omega)) (kundrew h))) (And.imp (fun h => kdrew (krealloc (by first | omega | (simp; done) | (simp; omega)) (kundrew h))) (And.imp (fun h => kdrew (krealloc (by first | omega | (simp; done) | (simp; omega)) (kundrew h))) (And.imp (fun h => kdrew (krealloc (by first | omega | (simp; done) | (simp; omega)) (kundrew h))) (And.imp (fun h => kdrew (krealloc (by first | omega | (simp; done) | (simp; omega)) (kundrew h))) ((fun h => kdrew (krealloc (by first | omega | (simp; done) | (simp; omega)) (kundrew h))))))))) (by with_reducible assumption) | with_reducible exact (And.imp (fun h => kset (by first | omega | (simp; done) | (simp; omega)) (kset (by first | omega | (simp; done) | (simp; omega)) (kset (by first | omega | (simp; done) | (simp; omega)) h))) (And.imp (fun h => kset (by first | omega | (simp; done) | (simp; omega)) (kset (by first | omega | (simp; done) | (simp; omega)) (kset (by first | omega | (simp; done) | (simp; omega)) h))) (And.imp (fun h => kset (by first | omega | (simp; done) | (simp; omega)) (kset (by first | omega | (simp; done) | (simp; omega)) (kset (by first | omega | (simp; done) | (simp; omega)) h))) (And.imp (fun h => kset (by first | omega | (simp; done) | (simp; omega)) (kset (by first | omega | (simp; done) | (simp; omega)) (kset (by first | omega | (simp; done) | (simp; omega)) h))) (And.imp (fun h => kset (by first | omega | (simp; done) | (simp; omega)) (kset (by first | omega | (simp; done) | (simp; omega)) (kset (by first | omega | (simp; done) | (simp; omega)) h))) ((fun h => kset (by first | omega | (simp; done) | (simp; omega)) (kset (by first | omega | (simp; done) | (simp; omega)) (kset (by first | omega | (simp; done) | (simp; omega)) h))))))))) (by with_reducible assumption) | with_reducible exact (And.imp (fun h => kset (by first | omega | (simp; done) | (simp; omega)) (kset (by first | omega | (simp; done) | (simp; omega)) h)) (And.imp (fun h => kset (by first | omega | (simp; done) | (simp; omega)) (kset (by first | omega | (simp; done) | (simp; omega)) h)) (And.imp (fun h => kset (by first | omega | (simp; done) | (simp; omega)) (kset (by first | omega | (simp; done) | (simp; omega)) h)) (And.imp (fun h => kset (by first | omega | (simp; done) | (simp; omega)) (kset (by first | omega | (simp; done) | (simp; omega)) h)) (And.imp (fun h => kset (by first | omega | (simp; done) | (simp; omega)) (kset (by first | omega | (simp; done) | (simp; omega)) h)) ((fun h => kset (by first | omega | (simp; done) | (simp; omega)) (kset (by first | omega | (simp; done) | (simp; omega)) h)))))))) (by with_reducible assumption) | with_reducible exact (And.imp (fun h => kset (by first | omega | (simp; done) | (simp; omega)) h) (And.imp (fun h => kset (by first | omega | (simp; done) | (simp; omega)) h) (And.imp (fun h => kset (by first | omega | (simp; done) | (simp; omega)) h) (And.imp (fun h => kset (by first | omega | (simp; done) | (simp; omega)) h) (And.imp (fun h => kset (by first | omega | (simp; done) | (simp; omega)) h) ((fun h => kset (by first | omega | (simp; done) | (simp; omega)) h))))))) (by with_reducible assumption) | with_reducible exact (And.imp (fun h => kalloc _ (kset (by first | omega | (simp; done) | (simp; omega)) (kset (by first | omega | (simp; done) | (simp; omega)) (kback (by first | omega | (simp; done) | (simp; omega)) h)))) (And.imp (fun h => kalloc _ (kset (by first | omega | (simp; done) | (simp; omega)) (kset (by first | omega | (simp; done) | (simp; omega)) (kback (by first | omega | (simp; done) | (simp; omega)) h)))) (And.imp (fun h => kalloc _ (kset (by first | omega | (simp; done) | (simp; omega)) (kset (by first | omega | (simp; done) | (simp; omega)) (kback (by first | omega | (simp; done) | (simp; omega)) h)))) (And.imp (fun h => kalloc _ (kset (by first | omega | (simp; done) | (simp; omega)) (kset (by first | omega | (simp; done) | (simp; omega)) (kback (by first | omega | (simp; done) | (simp; omega)) h)))) (And.imp (fun h => kalloc _ (kset (by first | omega | (simp; done) | (simp; omega)) (kset (by first | omega | (simp; done) | (simp; omega)) (kback (by first | omega | (simp; done) | (simp; omega)) h)))) ((fun h => kalloc _ (kset (by first | omega | (simp; done) | (simp; omega)) (kset (by first | omega | (simp; done) | (simp; omega)) (kback (by first | omega | (simp; done) | (simp; omega)) h)))))))))) (by with_reducible assumption) | with_reducible exact (And.imp (fun h => kalloc _ (kset (by first | omega | (simp; done) | (simp; omega)) (kset (by first | omega | (simp; done) | (simp; omega)) (kset (by first | omega | (simp; done) | (simp; omega)) (kback (by first | omega | (simp; done) | (simp; omega)) h))))) (And.imp (fun h => kalloc _ (kset (by first | omega | (simp; done) | (simp; omega)) (kset (by first | omega | (simp; done) | (simp; omega)) (kset (by first | omega | (simp; done) | (simp; omega)) (kback (by first | omega | (simp; done) | (simp; omega)) h))))) (And.imp (fun h => kalloc _ (kset (by first | omega | (simp; done) | (simp; omega)) (kset (by first | omega | (simp; done) | (simp; omega)) (kset (by first | omega | (simp; done) | (simp; omega)) (kback (by first | omega | (simp; done) | (simp; omega)) h))))) (And.imp (fun h => kalloc _ (kset (by first | omega | (simp; done) | (simp; omega)) (kset (by first | omega | (simp; done) | (simp; omega)) (kset (by first | omega | (simp; done) | (simp; omega)) (kback (by first | omega | (simp; done) | (simp; omega)) h))))) (And.imp (fun h => kalloc _ (kset (by first | omega | (simp; done) | (simp; omega)) (kset (by first | omega | (simp; done) | (simp; omega)) (kset (by first | omega | (simp; done) | (simp; omega)) (kback (by first | omega | (simp; done) | (simp; omega)) h))))) ((fun h => kalloc _ (kset (by first | omega | (simp; done) | (simp; omega)) (kset (by first | omega | (simp; done) | (simp; omega)) (kset (by first | omega | (simp; done) | (simp; omega)) (kback (by first | omega | (simp; done) | (simp; omega)) h))))))))))) (by with_reducible assumption) | with_reducible exact (And.imp (fun h => kalloc _ (kalloc _ (kback (by first | omega | (simp; done) | (simp; omega)) (kback (by first | omega | (simp; done) | (simp; omega)) h)))) (And.imp (fun h => kalloc _ (kalloc _ (kback (by first | omega | (simp; done) | (simp; omega)) (kback (by first | omega | (simp; done) | (simp; omega)) h)))) (And.imp (fun h => kalloc _ (kalloc _ (kback (by first | omega | (simp; done) | (simp; omega)) (kback (by first | omega | (simp; done) | (simp; omega)) h)))) (And.imp (fun h => kalloc _ (kalloc _ (kback (by first | omega | (simp; done) | (simp; omega)) (kback (by first | omega | (simp; done) | (simp; omega)) h)))) (And.imp (fun h => kalloc _ (kalloc _ (kback (by first | omega | (simp; done) | (simp; omega)) (kback (by first | omega | (simp; done) | (simp; omega)) h)))) ((fun h => kalloc _ (kalloc _ (kback (by first | omega | (simp; done) | (simp; omega)) (kback (by first | omega | (simp; done) | (simp; omega)) h)))))))))) (by with_reducible assumption) | with_reducible exact (And.imp (fun h => kdrew (kalloc _ (kalloc _ (kback (by first | omega | (simp; done) | (simp; omega)) (kback (by first | omega | (simp; done) | (simp; omega)) (kundrew h)))))) (And.imp (fun h => kdrew (kalloc _ (kalloc _ (kback (by first | omega | (simp; done) | (simp; omega)) (kback (by first | omega | (simp; done) | (simp; omega)) (kundrew h)))))) (And.imp (fun h => kdrew (kalloc _ (kalloc _ (kback (by first | omega | (simp; done) | (simp; omega)) (kback (by first | omega | (simp; done) | (simp; omega)) (kundrew h)))))) (And.imp (fun h => kdrew (kalloc _ (kalloc _ (kback (by first | omega | (simp; done) | (simp; omega)) (kback (by first | omega | (simp; done) | (simp; omega)) (kundrew h)))))) (And.imp (fun h => kdrew (kalloc _ (kalloc _ (kback (by first | omega | (simp; done) | (simp; omega)) (kback (by first | omega | (simp; done) | (simp; omega)) (kundrew h)))))) ((fun h => kdrew (kalloc _ (kalloc _ (kback (by first | omega | (simp; done) | (simp; omega)) (kback (by first | omega | (simp; done) | (simp; omega)) (kundrew h)))))))))))) (by with_reducible assumption) | (simp; done) | (refine ⟨?_, ?_, ?_, ?_, ?_, ?_⟩ <;> (refine kdrew ?_; repeat (first | exact kfresh (by first | rfl | (simp; done)) (by rfl) | refine kalloc _ ?_)); done))) (first | (go_at_call 50; refine Calls.mono (specAt_any _ _ _ _ _ _ _ _ _ hp hc (by omega) (by omega) (by omega) (by omega) (by omega) (by omega)) ?_; (first | rw [← Hx0.out] | rw [← Hx1.out] | rw [← Hx2.out]); rintro e wq ⟨rfl, hB⟩; (obtain ⟨hBc, hBf⟩ := bcell hB; have hBs := hB.size; (try simp at hBs); (try have hBq1 := Nat.lt_of_succ_le hBs); (try have hBq2 := Nat.lt_of_succ_lt hBq1); (try have hBq3 := Nat.lt_of_succ_lt hBq2); (try have hBzw0 : w.heap.size < wq.heap.size := (by omega)); (try have hBzw1 : w.heap.size + 1 < wq.heap.size := (by omega)); (try have hBzw2 : w.heap.size + 1 + 1 < wq.heap.size := (by omega)); (try have hBzw3 : w.heap.size + 1 + 1 + 1 < wq.heap.size := (by omega)); (try have hBzw4 : w.heap.size + 1 + 1 + 1 + 1 < wq.heap.size := (by omega)); (try have hBzw10 : w1.heap.size < wq.heap.size := (by omega)); (try have hBzw11 : w1.heap.size + 1 < wq.heap.size := (by omega)); (try have hBzw12 : w1.heap.size + 1 + 1 < wq.heap.size := (by omega)); (try have hBzw13 : w1.heap.size + 1 + 1 + 1 < wq.heap.size := (by omega)); (try have hBzw14 : w1.heap.size + 1 + 1 + 1 + 1 < wq.heap.size := (by omega)))))
                  all_goals
                    go_wp2_with fail
                    go_meet
                    refine ⟨_, rfl, rfl, ?_, ?_⟩
                    · exact own_lit (cs := [x0, x1, x2]) (by first | omega | (simp; omega)) (by first | rfl | (simp; done)) (by decide) rfl
                    · (repeat (first | with_reducible exact Below.refl _ _ | with_reducible exact hW | with_reducible refine balloc ?_ _ | with_reducible refine bdrewN ?_ _ | with_reducible refine Below.drew ?_ | with_reducible refine bthen ?_ (by with_reducible assumption) | with_reducible refine Below.setCell ?_ (by first | (simp; done) | (simp; omega)) _))
                case' rest => obtain ⟨g, rfl, rfl, hown, hx⟩ := hcut
                go_wp2
                (refine bodyPost_ret (v := .tuple #[.slice (some ⟨g, 0, none⟩) 3 3, .int .i64 (trC p col a1 a2 b1 b2 c1 c2)]) (by simp [results, Try.results31, go_sem, HX.out.2]) rfl (slicePost_mk (by rw [HX.out.1]; exact hown) hx))
              · have hd7n : (qdr p col a1 a2 c1 c2 != 0) = false := by rw [bne, hd7]; rfl
                have Hhd7p := Lib.hid (beq_iff_eq.1 hd7)
                have c_1 : trC p col a1 a2 b1 b2 c1 c2 = 5 := by simp [trC, trB, trS, trT, hd1, hd2, hd3, hd4, hd5, hd6, hd7]
                go_wp2_with fail
                refine Calls.mono (specTri_any _ _ _ _ _ _ _ _ _ ) ?_
                rintro e w1 ⟨rfl, hB1⟩
                (obtain ⟨hB1c, hB1f⟩ := bcell hB1; have hB1s := hB1.size; (try simp at hB1s); (try have hB1q1 := Nat.lt_of_succ_le hB1s); (try have hB1q2 := Nat.lt_of_succ_lt hB1q1); (try have hB1q3 := Nat.lt_of_succ_lt hB1q2); (try have hB1zw0 : w.heap.size < w1.heap.size := (by omega)); (try have hB1zw1 : w.heap.size + 1 < w1.heap.size := (by omega)); (try have hB1zw2 : w.heap.size + 1 + 1 < w1.heap.size := (by omega)); (try have hB1zw3 : w.heap.size + 1 + 1 + 1 < w1.heap.size := (by omega)); (try have hB1zw4 : w.heap.size + 1 + 1 + 1 + 1 < w1.heap.size := (by omega)))
                have HB : trB p col a1 a2 b1 b2 c1 c2 = true := by simp [trB, hd1, hd2, hd3, hd4, hd5, hd6, hd7]
                have HS : trS p col a1 a2 b1 b2 c1 c2 = 5 := by (simp only [trS, trT] <;> simp [hd1, hd2, hd3, hd4, hd5, hd6, hd7])
                have HV := Lib.hid (tr_st (col := col) (a1 := a1) (a2 := a2) (b1 := b1) (b2 := b2) (c1 := c1) (c2 := c2) hp HB HS (by decide))
                clear HB HS
                go_wp2
                (refine bodyPost_ret (v := .tuple #[.slice none 0 0, .int .i64 (trC p col a1 a2 b1 b2 c1 c2)]) (by simp [results, Try.results31, go_sem, HV.out.2]) rfl (slicePost_nil HV.out.1 ?_))
                (repeat (first | with_reducible exact Below.refl _ _ | with_reducible refine balloc ?_ _ | with_reducible refine bdrewN ?_ _ | with_reducible refine Below.drew ?_ | with_reducible refine bthen ?_ (by with_reducible assumption) | with_reducible refine Below.setCell ?_ (by first | (simp; done) | (simp; omega)) _))
            · have hd6n : (qdr p col b1 b2 c1 c2 != 0) = false := by rw [bne, hd6]; rfl
              have Hhd6p := Lib.hid (beq_iff_eq.1 hd6)
              have c_1 : trC p col a1 a2 b1 b2 c1 c2 = 5 := by simp [trC, trB, trS, trT, hd1, hd2, hd3, hd4, hd5, hd6]
              go_wp2_with fail
              refine Calls.mono (specTri_any _ _ _ _ _ _ _ _ _ ) ?_
              rintro e w1 ⟨rfl, hB1⟩
              (obtain ⟨hB1c, hB1f⟩ := bcell hB1; have hB1s := hB1.size; (try simp at hB1s); (try have hB1q1 := Nat.lt_of_succ_le hB1s); (try have hB1q2 := Nat.lt_of_succ_lt hB1q1); (try have hB1q3 := Nat.lt_of_succ_lt hB1q2); (try have hB1zw0 : w.heap.size < w1.heap.size := (by omega)); (try have hB1zw1 : w.heap.size + 1 < w1.heap.size := (by omega)); (try have hB1zw2 : w.heap.size + 1 + 1 < w1.heap.size := (by omega)); (try have hB1zw3 : w.heap.size + 1 + 1 + 1 < w1.heap.size := (by omega)); (try have hB1zw4 : w.heap.size + 1 + 1 + 1 + 1 < w1.heap.size := (by omega)))
              have HB : trB p col a1 a2 b1 b2 c1 c2 = true := by simp [trB, hd1, hd2, hd3, hd4, hd5, hd6]
              have HS : trS p col a1 a2 b1 b2 c1 c2 = 5 := by (simp only [trS, trT] <;> simp [hd1, hd2, hd3, hd4, hd5, hd6])
              have HV := Lib.hid (tr_st (col := col) (a1 := a1) (a2 := a2) (b1 := b1) (b2 := b2) (c1 := c1) (c2 := c2) hp HB HS (by decide))
              clear HB HS
              go_wp2
              (refine bodyPost_ret (v := .tuple #[.slice none 0 0, .int .i64 (trC p col a1 a2 b1 b2 c1 c2)]) (by simp [results, Try.results31, go_sem, HV.out.2]) rfl (slicePost_nil HV.out.1 ?_))
              (repeat (first | with_reducible exact Below.refl _ _ | with_reducible refine balloc ?_ _ | with_reducible refine bdrewN ?_ _ | with_reducible refine Below.drew ?_ | with_reducible refine bthen ?_ (by with_reducible assumption) | with_reducible refine Below.setCell ?_ (by first | (simp; done) | (simp; omega)) _))
          · have hd5n : (qdr p col a1 a2 b1 b2 != 0) = false := by rw [bne, hd5]; rfl
            have Hhd5p := Lib.hid (beq_iff_eq.1 hd5)
            have c_1 : trC p col a1 a2 b1 b2 c1 c2 = 5 := by simp [trC, trB, trS, trT, hd1, hd2, hd3, hd4, hd5]
            go_wp2_with fail
            refine Calls.mono (specTri_any _ _ _ _ _ _ _ _ _ ) ?_
            rintro e w1 ⟨rfl, hB1⟩
            (obtain ⟨hB1c, hB1f⟩ := bcell hB1; have hB1s := hB1.size; (try simp at hB1s); (try have hB1q1 := Nat.lt_of_succ_le hB1s); (try have hB1q2 := Nat.lt_of_succ_lt hB1q1); (try have hB1q3 := Nat.lt_of_succ_lt hB1q2); (try have hB1zw0 : w.heap.size < w1.heap.size := (by omega)); (try have hB1zw1 : w.heap.size + 1 < w1.heap.size := (by omega)); (try have hB1zw2 : w.heap.size + 1 + 1 < w1.heap.size := (by omega)); (try have hB1zw3 : w.heap.size + 1 + 1 + 1 < w1.heap.size := (by omega)); (try have hB1zw4 : w.heap.size + 1 + 1 + 1 + 1 < w1.heap.size := (by omega)))
            have HB : trB p col a1 a2 b1 b2 c1 c2 = true := by simp [trB, hd1, hd2, hd3, hd4, hd5]
            have HS : trS p col a1 a2 b1 b2 c1 c2 = 5 := by (simp only [trS, trT] <;> simp [hd1, hd2, hd3, hd4, hd5])
            have HV := Lib.hid (tr_st (col := col) (a1 := a1) (a2 := a2) (b1 := b1) (b2 := b2) (c1 := c1) (c2 := c2) hp HB HS (by decide))
            clear HB HS
            go_wp2
            (refine bodyPost_ret (v := .tuple #[.slice none 0 0, .int .i64 (trC p col a1 a2 b1 b2 c1 c2)]) (by simp [results, Try.results31, go_sem, HV.out.2]) rfl (slicePost_nil HV.out.1 ?_))
            (repeat (first | with_reducible exact Below.refl _ _ | with_reducible refine balloc ?_ _ | with_reducible refine bdrewN ?_ _ | with_reducible refine Below.drew ?_ | with_reducible refine bthen ?_ (by with_reducible assumption) | with_reducible refine Below.setCell ?_ (by first | (simp; done) | (simp; omega)) _))
        · have hd4n : (area p a1 a2 b1 b2 c1 c2 != 0) = false := by rw [bne, hd4]; rfl
          have Hhd4p := Lib.hid (beq_iff_eq.1 hd4)
          have c_1 : trC p col a1 a2 b1 b2 c1 c2 = 5 := by simp [trC, trB, trS, trT, hd1, hd2, hd3, hd4]
          go_wp2_with fail
          refine Calls.mono (specTri_any _ _ _ _ _ _ _ _ _ ) ?_
          rintro e w1 ⟨rfl, hB1⟩
          (obtain ⟨hB1c, hB1f⟩ := bcell hB1; have hB1s := hB1.size; (try simp at hB1s); (try have hB1q1 := Nat.lt_of_succ_le hB1s); (try have hB1q2 := Nat.lt_of_succ_lt hB1q1); (try have hB1q3 := Nat.lt_of_succ_lt hB1q2); (try have hB1zw0 : w.heap.size < w1.heap.size := (by omega)); (try have hB1zw1 : w.heap.size + 1 < w1.heap.size := (by omega)); (try have hB1zw2 : w.heap.size + 1 + 1 < w1.heap.size := (by omega)); (try have hB1zw3 : w.heap.size + 1 + 1 + 1 < w1.heap.size := (by omega)); (try have hB1zw4 : w.heap.size + 1 + 1 + 1 + 1 < w1.heap.size := (by omega)))
          have HB : trB p col a1 a2 b1 b2 c1 c2 = true := by simp [trB, hd1, hd2, hd3, hd4]
          have HS : trS p col a1 a2 b1 b2 c1 c2 = 5 := by (simp only [trS, trT] <;> simp [hd1, hd2, hd3, hd4])
          have HV := Lib.hid (tr_st (col := col) (a1 := a1) (a2 := a2) (b1 := b1) (b2 := b2) (c1 := c1) (c2 := c2) hp HB HS (by decide))
          clear HB HS
          go_wp2
          (refine bodyPost_ret (v := .tuple #[.slice none 0 0, .int .i64 (trC p col a1 a2 b1 b2 c1 c2)]) (by simp [results, Try.results31, go_sem, HV.out.2]) rfl (slicePost_nil HV.out.1 ?_))
          (repeat (first | with_reducible exact Below.refl _ _ | with_reducible refine balloc ?_ _ | with_reducible refine bdrewN ?_ _ | with_reducible refine Below.drew ?_ | with_reducible refine bthen ?_ (by with_reducible assumption) | with_reducible refine Below.setCell ?_ (by first | (simp; done) | (simp; omega)) _))

set_option linter.unusedSimpArgs false in
set_option maxRecDepth 20000 in
set_option maxHeartbeats 4000000 in
theorem implSpreadsOfTriangle_any (p col a1 a2 b1 b2 c1 c2 : Int) (w : World) :
    Calls Try.prog 32 #[.int .i64 p, .int .i64 col, .agg #[.int .i64 a1, .int .i64 a2], .agg #[.int .i64 b1, .int .i64 b2], .agg #[.int .i64 c1, .int .i64 c2]] w fun e w' =>
      SlicePost 2 1 (trL p col a1 a2 b1 b2 c1 c2) (trC p col a1 a2 b1 b2 c1 c2) w e w' := by
  go_enter Try.func32, Try.ntmps32
  rcases bool_ways (colB col) with hd1 | hd1
  · skip
    rcases bool_ways (isP p) with hd2 | hd2
    · skip
      have c_1 : codeOf p false = 1 := codeOf_no hd2
      have cN : ∀ b, codeOf p b = 1 := fun b => codeOf_no hd2
      go_wp2_with fail
      refine Calls.mono (isColour_any _ _) ?_
      rintro e w' ⟨rfl, rfl⟩
      go_wp2_with fail
      refine Calls.mono (codeFor_any _ _ _) ?_
      rintro e w' ⟨rfl, rfl⟩
      have HV := Lib.hid (tr_no (col := col) (a1 := a1) (a2 := a2) (b1 := b1) (b2 := b2) (c1 := c1) (c2 := c2) hd2)
      go_wp2
      (refine bodyPost_ret (v := .tuple #[.slice none 0 0, .int .i64 (trC p col a1 a2 b1 b2 c1 c2)]) (by simp [results, Try.results32, go_sem, HV.out.2]) rfl (slicePost_nil HV.out.1 ?_))
      (repeat (first | with_reducible exact Below.refl _ _ | with_reducible refine balloc ?_ _ | with_reducible refine bdrewN ?_ _ | with_reducible refine Below.drew ?_ | with_reducible refine bthen ?_ (by with_reducible assumption) | with_reducible refine Below.setCell ?_ (by first | (simp; done) | (simp; omega)) _))
    · have hp := hd2
      have hr := isP_range hp
      have c_1 : codeOf p false = 2 := codeOf_out hp (by simp)
      have cT : codeOf p true = 0 := codeOf_in hp rfl
      have cF : codeOf p false = 2 := codeOf_out hp rfl
      go_wp2_with fail
      refine Calls.mono (isColour_any _ _) ?_
      rintro e w' ⟨rfl, rfl⟩
      go_wp2_with fail
      refine Calls.mono (codeFor_any _ _ _) ?_
      rintro e w' ⟨rfl, rfl⟩
      have HV := Lib.hid (tr_out (col := col) (a1 := a1) (a2 := a2) (b1 := b1) (b2 := b2) (c1 := c1) (c2 := c2) hp (by simp [trB, hd1, hd2]))
      go_wp2
      (refine bodyPost_ret (v := .tuple #[.slice none 0 0, .int .i64 (trC p col a1 a2 b1 b2 c1 c2)]) (by simp [results, Try.results32, go_sem, HV.out.2]) rfl (slicePost_nil HV.out.1 ?_))
      (repeat (first | with_reducible exact Below.refl _ _ | with_reducible refine balloc ?_ _ | with_reducible refine bdrewN ?_ _ | with_reducible refine Below.drew ?_ | with_reducible refine bthen ?_ (by with_reducible assumption) | with_reducible refine Below.setCell ?_ (by first | (simp; done) | (simp; omega)) _))
  · have hc := hd1
    have hcr := colB_range hc
    rcases bool_ways (isP p) with hd2 | hd2
    · skip
      have c_1 : codeOf p (numsIn p [a1, a2, b1, b2, c1, c2]) = 1 := codeOf_no hd2
      have cN : ∀ b, codeOf p b = 1 := fun b => codeOf_no hd2
      go_wp2_with fail
      refine Calls.mono (isColour_any _ _) ?_
      rintro e w' ⟨rfl, rfl⟩
      go_wp2_with fail
      refine Calls.mono (implPoints3 _ _ _ _ _ _ _ _ _ (by first | rfl | (simp; done))) ?_
      rintro e w1 ⟨rfl, hB1⟩
      (obtain ⟨hB1c, hB1f⟩ := bcell hB1; have hB1s := hB1.size; (try simp at hB1s); (try have hB1q1 := Nat.lt_of_succ_le hB1s); (try have hB1q2 := Nat.lt_of_succ_lt hB1q1); (try have hB1q3 := Nat.lt_of_succ_lt hB1q2); (try have hB1zw0 : w.heap.size < w1.heap.size := (by omega)); (try have hB1zw1 : w.heap.size + 1 < w1.heap.size := (by omega)); (try have hB1zw2 : w.heap.size + 1 + 1 < w1.heap.size := (by omega)); (try have hB1zw3 : w.heap.size + 1 + 1 + 1 < w1.heap.size := (by omega)); (try have hB1zw4 : w.heap.size + 1 + 1 + 1 + 1 < w1.heap.size := (by omega)))
      go_wp2_with fail
      refine Calls.mono (codeFor_any _ _ _) ?_
      rintro e w' ⟨rfl, rfl⟩
      have HV := Lib.hid (tr_no (col := col) (a1 := a1) (a2 := a2) (b1 := b1) (b2 := b2) (c1 := c1) (c2 := c2) hd2)
      go_wp2
      (refine bodyPost_ret (v := .tuple #[.slice none 0 0, .int .i64 (trC p col a1 a2 b1 b2 c1 c2)]) (by simp [results, Try.results32, go_sem, HV.out.2]) rfl (slicePost_nil HV.out.1 ?_))
      (repeat (first | with_reducible exact Below.refl _ _ | with_reducible refine balloc ?_ _ | with_reducible refine bdrewN ?_ _ | with_reducible refine Below.drew ?_ | with_reducible refine bthen ?_ (by with_reducible assumption) | with_reducible refine Below.setCell ?_ (by first | (simp; done) | (simp; omega)) _))
    · have hp := hd2
      have hr := isP_range hp
      rcases bool_ways (numsIn p [a1, a2, b1, b2, c1, c2]) with hd3 | hd3
      · skip
        have c_1 : codeOf p (numsIn p [a1, a2, b1, b2, c1, c2]) = 2 := codeOf_out hp (by simp [hd3])
        have cT : codeOf p true = 0 := codeOf_in hp rfl
        have cF : codeOf p false = 2 := codeOf_out hp rfl
        go_wp2_with fail
        refine Calls.mono (isColour_any _ _) ?_
        rintro e w' ⟨rfl, rfl⟩
        go_wp2_with fail
        refine Calls.mono (implPoints3 _ _ _ _ _ _ _ _ _ (by first | rfl | (simp; done))) ?_
        rintro e w1 ⟨rfl, hB1⟩
        (obtain ⟨hB1c, hB1f⟩ := bcell hB1; have hB1s := hB1.size; (try simp at hB1s); (try have hB1q1 := Nat.lt_of_succ_le hB1s); (try have hB1q2 := Nat.lt_of_succ_lt hB1q1); (try have hB1q3 := Nat.lt_of_succ_lt hB1q2); (try have hB1zw0 : w.heap.size < w1.heap.size := (by omega)); (try have hB1zw1 : w.heap.size + 1 < w1.heap.size := (by omega)); (try have hB1zw2 : w.heap.size + 1 + 1 < w1.heap.size := (by omega)); (try have hB1zw3 : w.heap.size + 1 + 1 + 1 < w1.heap.size := (by omega)); (try have hB1zw4 : w.heap.size + 1 + 1 + 1 + 1 < w1.heap.size := (by omega)))
        go_wp2_with fail
        refine Calls.mono (codeFor_any _ _ _) ?_
        rintro e w' ⟨rfl, rfl⟩
        have HV := Lib.hid (tr_out (col := col) (a1 := a1) (a2 := a2) (b1 := b1) (b2 := b2) (c1 := c1) (c2 := c2) hp (by simp [trB, hd1, hd2, hd3]))
        go_wp2
        (refine bodyPost_ret (v := .tuple #[.slice none 0 0, .int .i64 (trC p col a1 a2 b1 b2 c1 c2)]) (by simp [results, Try.results32, go_sem, HV.out.2]) rfl (slicePost_nil HV.out.1 ?_))
        (repeat (first | with_reducible exact Below.refl _ _ | with_reducible refine balloc ?_ _ | with_reducible refine bdrewN ?_ _ | with_reducible refine Below.drew ?_ | with_reducible refine bthen ?_ (by with_reducible assumption) | with_reducible refine Below.setCell ?_ (by first | (simp; done) | (simp; omega)) _))
      · have hd3q := nums6 hd3
        have c_1 : codeOf p (numsIn p [a1, a2, b1, b2, c1, c2]) = 0 := codeOf_in hp (by simp [hd3])
        have cT : codeOf p true = 0 := codeOf_in hp rfl
        obtain ⟨v1, hv1⟩ : ∃ v : Int, v = area p a1 a2 b1 b2 c1 c2 := ⟨_, rfl⟩
        have rv1 := area_r a1 a2 b1 b2 c1 c2 hp
        rw [← hv1] at rv1
        have Hv1 := Lib.hid hv1
        clear hv1
        go_wp2_with fail
        refine Calls.mono (isColour_any _ _) ?_
        rintro e w' ⟨rfl, rfl⟩
        go_wp2_with fail
        refine Calls.mono (implPoints3 _ _ _ _ _ _ _ _ _ (by first | rfl | (simp; done))) ?_
        rintro e w1 ⟨rfl, hB1⟩
        (obtain ⟨hB1c, hB1f⟩ := bcell hB1; have hB1s := hB1.size; (try simp at hB1s); (try have hB1q1 := Nat.lt_of_succ_le hB1s); (try have hB1q2 := Nat.lt_of_succ_lt hB1q1); (try have hB1q3 := Nat.lt_of_succ_lt hB1q2); (try have hB1zw0 : w.heap.size < w1.heap.size := (by omega)); (try have hB1zw1 : w.heap.size + 1 < w1.heap.size := (by omega)); (try have hB1zw2 : w.heap.size + 1 + 1 < w1.heap.size := (by omega)); (try have hB1zw3 : w.heap.size + 1 + 1 + 1 < w1.heap.size := (by omega)); (try have hB1zw4 : w.heap.size + 1 + 1 + 1 + 1 < w1.heap.size := (by omega)))
        go_wp2_with fail
        refine Calls.mono (codeFor_any _ _ _) ?_
        rintro e w' ⟨rfl, rfl⟩
        go_wp2_with fail
        refine Calls.mono (implArea_any _ _ _ _ _ _ _ _ hp (by omega) (by omega) (by omega) (by omega) (by omega) (by omega)) ?_
        rw [← Hv1.out]
        rintro e w2 ⟨rfl, hB2⟩
        (obtain ⟨hB2c, hB2f⟩ := bcell hB2; have hB2s := hB2.size; (try simp at hB2s); (try have hB2q1 := Nat.lt_of_succ_le hB2s); (try have hB2q2 := Nat.lt_of_succ_lt hB2q1); (try have hB2q3 := Nat.lt_of_succ_lt hB2q2); (try have hB2zw0 : w.heap.size < w2.heap.size := (by omega)); (try have hB2zw1 : w.heap.size + 1 < w2.heap.size := (by omega)); (try have hB2zw2 : w.heap.size + 1 + 1 < w2.heap.size := (by omega)); (try have hB2zw3 : w.heap.size + 1 + 1 + 1 < w2.heap.size := (by omega)); (try have hB2zw4 : w.heap.size + 1 + 1 + 1 + 1 < w2.heap.size := (by omega)); (try have hB2zw10 : w1.heap.size < w2.heap.size := (by omega)); (try have hB2zw11 : w1.heap.size + 1 < w2.heap.size := (by omega)); (try have hB2zw12 : w1.heap.size + 1 + 1 < w2.heap.size := (by omega)); (try have hB2zw13 : w1.heap.size + 1 + 1 + 1 < w2.heap.size := (by omega)); (try have hB2zw14 : w1.heap.size + 1 + 1 + 1 + 1 < w2.heap.size := (by omega)))
        rcases bool_ways (v1 == 0) with hd4 | hd4
        · have hd4n : (v1 != 0) = true := by rw [bne, hd4]; rfl
          have Hhd4p := Lib.hid (beq_eq_false_iff_ne.1 hd4)
          have HN := Lib.hid hd3
          have HA0 := Lib.hid (show (area p a1 a2 b1 b2 c1 c2 == 0) = false by simpa only [Hv1.out] using hd4)
          have hBB : trB p col a1 a2 b1 b2 c1 c2 = true := by simp [trB, hc, hd3]
          have HBB := Lib.hid hBB
          clear hBB
          obtain ⟨i0, hi, hz0, hz1, hz2⟩ := info_parts infoInt1
          have S0 : w.heap.size ≤ w2.heap.size + 1 := by omega
          have ltA : w2.heap.size < w2.heap.size + 1 + 1 := by omega
          have hW : Below w.heap.size w w2 := by (repeat (first | exact Below.refl _ _ | refine balloc ?_ _ | refine bdrewN ?_ _ | refine Below.drew ?_ | refine bthen ?_ hB1 | refine bthen ?_ hB2 | refine bthen ?_ hB3 | refine bthen ?_ hB4 | refine bthen ?_ hB5 | refine bthen ?_ hB6 | refine bthen ?_ hB7 | refine bthen ?_ hB8 | refine Below.setCell ?_ (by first | (simp; done) | (simp; omega)) _))
          go_wp2_with fail
          refine wp_loop_rounds 4 ?_
          rw [rounds_succ]
          obtain ⟨x0, hx0⟩ : ∃ x, x = atO p col a1 a2 b1 b2 c1 c2 := ⟨_, rfl⟩
          have Hx0 := Lib.hid hx0
          clear hx0
          rcases bool_ways (qdr p col a1 a2 b1 b2 == 0 || qdr p col a1 a2 c1 c2 == 0) with hq0 | hq0
          · have E0 := Lib.hid (show saV1 p col a1 a2 b1 b2 c1 c2 = x0 ∧ saC p col a1 a2 b1 b2 c1 c2 = 0 from by rw [Hx0.out]; exact sa_nought hp hc HN.out hq0)
            have Hq0 := Lib.hid hq0
            clear hq0
            go_wp2_with fail
            refine Calls.mono (implSpreadAt_any _ _ _ _ _ _ _ _ _) ?_
            rw [E0.out.1, E0.out.2]
            rintro e u0 ⟨rfl, hU0⟩
            (obtain ⟨hU0c, hU0f⟩ := bcell hU0; have hU0s := hU0.size; (try simp at hU0s); (try have hU0q1 := Nat.lt_of_succ_le hU0s); (try have hU0q2 := Nat.lt_of_succ_lt hU0q1); (try have hU0q3 := Nat.lt_of_succ_lt hU0q2); (try have hU0zw0 : w.heap.size < u0.heap.size := (by omega)); (try have hU0zw1 : w.heap.size + 1 < u0.heap.size := (by omega)); (try have hU0zw2 : w.heap.size + 1 + 1 < u0.heap.size := (by omega)); (try have hU0zw3 : w.heap.size + 1 + 1 + 1 < u0.heap.size := (by omega)); (try have hU0zw4 : w.heap.size + 1 + 1 + 1 + 1 < u0.heap.size := (by omega)); (try have hU0zw20 : w2.heap.size < u0.heap.size := (by omega)); (try have hU0zw21 : w2.heap.size + 1 < u0.heap.size := (by omega)); (try have hU0zw22 : w2.heap.size + 1 + 1 < u0.heap.size := (by omega)); (try have hU0zw23 : w2.heap.size + 1 + 1 + 1 < u0.heap.size := (by omega)); (try have hU0zw24 : w2.heap.size + 1 + 1 + 1 + 1 < u0.heap.size := (by omega)))
            go_wp2_with (at_builtin; refine wpList_append_own _ rfl _ _ 36 rfl (w2.heap.size + 1) 2 i0 (.int .i64 0) 1 8 Try.underlying36 hi hz0 hz1 hz2 rfl (by decide) _ _ _ rfl ((World.ownsRow_nil _ _ _ _ : (u0.alloc _).ownsRow _ _ 1 (.slice none 0 0) 0 (ints []))) ⟨u0.heap.size, 0, none⟩ 1 1 [.int .i64 x0] rfl rfl ?c1 (int_oneCell _) (by decide) (by decide) (by simp; omega) ?_)
            case c1 =>
              intro j u hj
              match j, hj with
              | 0, hj => simp at hj; subst hj; simp [Addr.add]
            intro z0 y0 hown0 hgrow0 _
            have hY0 : Below (w2.heap.size + 1) u0 y0 := ((Below.refl _ u0).alloc (by omega) _).grown hgrow0 (by simp; omega) (fun g hg => by simp [Value.ownBlock] at hg)
            have hYs0 := hY0.size
            have hYw0 : w2.heap.size + 1 < y0.heap.size := by omega
            have hYv0 : w2.heap.size < y0.heap.size := by omega
            obtain ⟨hYc0, hYf0⟩ := bcellB hY0
            clear hgrow0
            have hWy0 : Below w.heap.size w y0 := (bthen hW (by (repeat (first | exact Below.refl _ _ | refine balloc ?_ _ | refine bdrewN ?_ _ | refine Below.drew ?_ | refine bthen ?_ hU0 | refine Below.setCell ?_ (by first | (simp; done) | (simp; omega)) _)) : Below w2.heap.size w2 u0)).trans (hY0.mono (by omega))
            go_wp2
            rw [rounds_succ]
            obtain ⟨x1, hx1⟩ : ∃ x, x = atO p col b1 b2 a1 a2 c1 c2 := ⟨_, rfl⟩
            have Hx1 := Lib.hid hx1
            clear hx1
            rcases bool_ways (qdr p col b1 b2 a1 a2 == 0 || qdr p col b1 b2 c1 c2 == 0) with hq1 | hq1
            · have E1 := Lib.hid (show saV1 p col b1 b2 a1 a2 c1 c2 = x1 ∧ saC p col b1 b2 a1 a2 c1 c2 = 0 from by rw [Hx1.out]; exact sa_nought hp hc (nums6_b HN.out) hq1)
              have Hq1 := Lib.hid hq1
              clear hq1
              go_wp2_with fail
              refine Calls.mono (implSpreadAt_any _ _ _ _ _ _ _ _ _) ?_
              rw [E1.out.1, E1.out.2]
              rintro e u1 ⟨rfl, hU1⟩
              (obtain ⟨hU1c, hU1f⟩ := bcell hU1; have hU1s := hU1.size; (try simp at hU1s); (try have hU1q1 := Nat.lt_of_succ_le hU1s); (try have hU1q2 := Nat.lt_of_succ_lt hU1q1); (try have hU1q3 := Nat.lt_of_succ_lt hU1q2); (try have hU1zw0 : w.heap.size < u1.heap.size := (by omega)); (try have hU1zw1 : w.heap.size + 1 < u1.heap.size := (by omega)); (try have hU1zw2 : w.heap.size + 1 + 1 < u1.heap.size := (by omega)); (try have hU1zw3 : w.heap.size + 1 + 1 + 1 < u1.heap.size := (by omega)); (try have hU1zw4 : w.heap.size + 1 + 1 + 1 + 1 < u1.heap.size := (by omega)); (try have hU1zw20 : w2.heap.size < u1.heap.size := (by omega)); (try have hU1zw21 : w2.heap.size + 1 < u1.heap.size := (by omega)); (try have hU1zw22 : w2.heap.size + 1 + 1 < u1.heap.size := (by omega)); (try have hU1zw23 : w2.heap.size + 1 + 1 + 1 < u1.heap.size := (by omega)); (try have hU1zw24 : w2.heap.size + 1 + 1 + 1 + 1 < u1.heap.size := (by omega)); (try have hU1zy00 : y0.heap.size < u1.heap.size := (by omega)); (try have hU1zy01 : y0.heap.size + 1 < u1.heap.size := (by omega)); (try have hU1zy02 : y0.heap.size + 1 + 1 < u1.heap.size := (by omega)); (try have hU1zy03 : y0.heap.size + 1 + 1 + 1 < u1.heap.size := (by omega)); (try have hU1zy04 : y0.heap.size + 1 + 1 + 1 + 1 < u1.heap.size := (by omega)))
              have hU1' : Below y0.heap.size y0 u1 := by (repeat (first | exact Below.refl _ _ | refine balloc ?_ _ | refine bdrewN ?_ _ | refine Below.drew ?_ | refine bthen ?_ hU1 | refine Below.setCell ?_ (by first | (simp; done) | (simp; omega)) _))
              go_wp2_with (at_builtin; refine wpList_append_own _ rfl _ _ 36 rfl (w2.heap.size + 1) 2 i0 (.int .i64 0) 1 8 Try.underlying36 hi hz0 hz1 hz2 rfl (by decide) _ _ _ rfl (((own_call hown0 hU1').alloc _)) ⟨u1.heap.size, 0, none⟩ 1 1 [.int .i64 x1] rfl rfl ?c1 (int_oneCell _) (by decide) (by decide) (by simp; omega) ?_)
              case c1 =>
                intro j u hj
                match j, hj with
                | 0, hj => simp at hj; subst hj; simp [Addr.add]
              intro z1 y1 hown1 hgrow1 _
              have hY1 : Below (w2.heap.size + 1) u1 y1 := ((Below.refl _ u1).alloc (by omega) _).grown hgrow1 (by simp; omega) (fun g hg => (hown0.lt g hg).1)
              have hYs1 := hY1.size
              have hYw1 : w2.heap.size + 1 < y1.heap.size := by omega
              have hYv1 : w2.heap.size < y1.heap.size := by omega
              obtain ⟨hYc1, hYf1⟩ := bcellB hY1
              clear hgrow1
              have hWy1 : Below w.heap.size w y1 := (bthen hWy0 hU1').trans (hY1.mono (by omega))
              go_wp2
              rw [rounds_succ]
              obtain ⟨x2, hx2⟩ : ∃ x, x = atO p col c1 c2 a1 a2 b1 b2 := ⟨_, rfl⟩
              have Hx2 := Lib.hid hx2
              clear hx2
              have hq2 := tr_third hp hc Hq0.out Hq1.out
              have E2 := Lib.hid (show saV1 p col c1 c2 a1 a2 b1 b2 = x2 ∧ saC p col c1 c2 a1 a2 b1 b2 = 0 from by rw [Hx2.out]; exact sa_nought hp hc (nums6_c HN.out) hq2)
              have Hq2 := Lib.hid hq2
              clear hq2
              go_wp2_with fail
              refine Calls.mono (implSpreadAt_any _ _ _ _ _ _ _ _ _) ?_
              rw [E2.out.1, E2.out.2]
              rintro e u2 ⟨rfl, hU2⟩
              (obtain ⟨hU2c, hU2f⟩ := bcell hU2; have hU2s := hU2.size; (try simp at hU2s); (try have hU2q1 := Nat.lt_of_succ_le hU2s); (try have hU2q2 := Nat.lt_of_succ_lt hU2q1); (try have hU2q3 := Nat.lt_of_succ_lt hU2q2); (try have hU2zw0 : w.heap.size < u2.heap.size := (by omega)); (try have hU2zw1 : w.heap.size + 1 < u2.heap.size := (by omega)); (try have hU2zw2 : w.heap.size + 1 + 1 < u2.heap.size := (by omega)); (try have hU2zw3 : w.heap.size + 1 + 1 + 1 < u2.heap.size := (by omega)); (try have hU2zw4 : w.heap.size + 1 + 1 + 1 + 1 < u2.heap.size := (by omega)); (try have hU2zw20 : w2.heap.size < u2.heap.size := (by omega)); (try have hU2zw21 : w2.heap.size + 1 < u2.heap.size := (by omega)); (try have hU2zw22 : w2.heap.size + 1 + 1 < u2.heap.size := (by omega)); (try have hU2zw23 : w2.heap.size + 1 + 1 + 1 < u2.heap.size := (by omega)); (try have hU2zw24 : w2.heap.size + 1 + 1 + 1 + 1 < u2.heap.size := (by omega)); (try have hU2zy10 : y1.heap.size < u2.heap.size := (by omega)); (try have hU2zy11 : y1.heap.size + 1 < u2.heap.size := (by omega)); (try have hU2zy12 : y1.heap.size + 1 + 1 < u2.heap.size := (by omega)); (try have hU2zy13 : y1.heap.size + 1 + 1 + 1 < u2.heap.size := (by omega)); (try have hU2zy14 : y1.heap.size + 1 + 1 + 1 + 1 < u2.heap.size := (by omega)))
              have hU2' : Below y1.heap.size y1 u2 := by (repeat (first | exact Below.refl _ _ | refine balloc ?_ _ | refine bdrewN ?_ _ | refine Below.drew ?_ | refine bthen ?_ hU2 | refine Below.setCell ?_ (by first | (simp; done) | (simp; omega)) _))
              go_wp2_with (at_builtin; refine wpList_append_own _ rfl _ _ 36 rfl (w2.heap.size + 1) 2 i0 (.int .i64 0) 1 8 Try.underlying36 hi hz0 hz1 hz2 rfl (by decide) _ _ _ rfl (((own_call hown1 hU2').alloc _)) ⟨u2.heap.size, 0, none⟩ 1 1 [.int .i64 x2] rfl rfl ?c1 (int_oneCell _) (by decide) (by decide) (by simp; omega) ?_)
              case c1 =>
                intro j u hj
                match j, hj with
                | 0, hj => simp at hj; subst hj; simp [Addr.add]
              intro z2 y2 hown2 hgrow2 _
              have hY2 : Below (w2.heap.size + 1) u2 y2 := ((Below.refl _ u2).alloc (by omega) _).grown hgrow2 (by simp; omega) (fun g hg => (hown1.lt g hg).1)
              have hYs2 := hY2.size
              have hYw2 : w2.heap.size + 1 < y2.heap.size := by omega
              have hYv2 : w2.heap.size < y2.heap.size := by omega
              obtain ⟨hYc2, hYf2⟩ := bcellB hY2
              clear hgrow2
              have HV := Lib.hid (tr_good (col := col) (a1 := a1) (a2 := a2) (b1 := b1) (b2 := b2) (c1 := c1) (c2 := c2) hp HBB.out (trT_0 HA0.out Hq0.out Hq1.out))
              go_wp2
              rw [rounds_succ]
              go_wp2
              (refine bodyPost_ret (v := .tuple #[z2, .int .i64 (trC p col a1 a2 b1 b2 c1 c2)]) (by simp [results, Try.results32, go_sem, HV.out.2]) rfl (slicePost_mk (by rw [HV.out.1, ← Hx0.out, ← Hx1.out, ← Hx2.out]; exact own_base hown2 (by omega)) ?_))
              exact (bthen hWy1 hU2').trans (hY2.mono (by omega))
            · have E1 := Lib.hid (sa_five hp hc (nums6_b HN.out) hq1)
              have Hq1 := Lib.hid hq1
              clear hq1
              go_wp2_with fail
              refine Calls.mono (implSpreadAt_any _ _ _ _ _ _ _ _ _) ?_
              rw [E1.out.1, E1.out.2]
              rintro e u1 ⟨rfl, hU1⟩
              (obtain ⟨hU1c, hU1f⟩ := bcell hU1; have hU1s := hU1.size; (try simp at hU1s); (try have hU1q1 := Nat.lt_of_succ_le hU1s); (try have hU1q2 := Nat.lt_of_succ_lt hU1q1); (try have hU1q3 := Nat.lt_of_succ_lt hU1q2); (try have hU1zw0 : w.heap.size < u1.heap.size := (by omega)); (try have hU1zw1 : w.heap.size + 1 < u1.heap.size := (by omega)); (try have hU1zw2 : w.heap.size + 1 + 1 < u1.heap.size := (by omega)); (try have hU1zw3 : w.heap.size + 1 + 1 + 1 < u1.heap.size := (by omega)); (try have hU1zw4 : w.heap.size + 1 + 1 + 1 + 1 < u1.heap.size := (by omega)); (try have hU1zw20 : w2.heap.size < u1.heap.size := (by omega)); (try have hU1zw21 : w2.heap.size + 1 < u1.heap.size := (by omega)); (try have hU1zw22 : w2.heap.size + 1 + 1 < u1.heap.size := (by omega)); (try have hU1zw23 : w2.heap.size + 1 + 1 + 1 < u1.heap.size := (by omega)); (try have hU1zw24 : w2.heap.size + 1 + 1 + 1 + 1 < u1.heap.size := (by omega)); (try have hU1zy00 : y0.heap.size < u1.heap.size := (by omega)); (try have hU1zy01 : y0.heap.size + 1 < u1.heap.size := (by omega)); (try have hU1zy02 : y0.heap.size + 1 + 1 < u1.heap.size := (by omega)); (try have hU1zy03 : y0.heap.size + 1 + 1 + 1 < u1.heap.size := (by omega)); (try have hU1zy04 : y0.heap.size + 1 + 1 + 1 + 1 < u1.heap.size := (by omega)))
              have HV := Lib.hid (tr_st (col := col) (a1 := a1) (a2 := a2) (b1 := b1) (b2 := b2) (c1 := c1) (c2 := c2) (k := 5) hp HBB.out (trT_2 hp hc Hq1.out) (by decide))
              go_wp2
              (refine bodyPost_ret (v := .tuple #[.slice none 0 0, .int .i64 (trC p col a1 a2 b1 b2 c1 c2)]) (by simp [results, Try.results32, go_sem, HV.out.2]) rfl (slicePost_nil HV.out.1 ?_))
              (repeat (first | exact Below.refl _ _ | refine balloc ?_ _ | refine bdrewN ?_ _ | refine Below.drew ?_ | refine bthen ?_ hWy0 | refine bthen ?_ hU1 | refine Below.setCell ?_ (by first | (simp; done) | (simp; omega)) _))
          · have E0 := Lib.hid (sa_five hp hc HN.out hq0)
            have Hq0 := Lib.hid hq0
            clear hq0
            go_wp2_with fail
            refine Calls.mono (implSpreadAt_any _ _ _ _ _ _ _ _ _) ?_
            rw [E0.out.1, E0.out.2]
            rintro e u0 ⟨rfl, hU0⟩
            (obtain ⟨hU0c, hU0f⟩ := bcell hU0; have hU0s := hU0.size; (try simp at hU0s); (try have hU0q1 := Nat.lt_of_succ_le hU0s); (try have hU0q2 := Nat.lt_of_succ_lt hU0q1); (try have hU0q3 := Nat.lt_of_succ_lt hU0q2); (try have hU0zw0 : w.heap.size < u0.heap.size := (by omega)); (try have hU0zw1 : w.heap.size + 1 < u0.heap.size := (by omega)); (try have hU0zw2 : w.heap.size + 1 + 1 < u0.heap.size := (by omega)); (try have hU0zw3 : w.heap.size + 1 + 1 + 1 < u0.heap.size := (by omega)); (try have hU0zw4 : w.heap.size + 1 + 1 + 1 + 1 < u0.heap.size := (by omega)); (try have hU0zw20 : w2.heap.size < u0.heap.size := (by omega)); (try have hU0zw21 : w2.heap.size + 1 < u0.heap.size := (by omega)); (try have hU0zw22 : w2.heap.size + 1 + 1 < u0.heap.size := (by omega)); (try have hU0zw23 : w2.heap.size + 1 + 1 + 1 < u0.heap.size := (by omega)); (try have hU0zw24 : w2.heap.size + 1 + 1 + 1 + 1 < u0.heap.size := (by omega)))
            have HV := Lib.hid (tr_st (col := col) (a1 := a1) (a2 := a2) (b1 := b1) (b2 := b2) (c1 := c1) (c2 := c2) (k := 5) hp HBB.out (trT_1 Hq0.out) (by decide))
            go_wp2
            (refine bodyPost_ret (v := .tuple #[.slice none 0 0, .int .i64 (trC p col a1 a2 b1 b2 c1 c2)]) (by simp [results, Try.results32, go_sem, HV.out.2]) rfl (slicePost_nil HV.out.1 ?_))
            (repeat (first | exact Below.refl _ _ | refine balloc ?_ _ | refine bdrewN ?_ _ | refine Below.drew ?_ | refine bthen ?_ hW | refine bthen ?_ hU0 | refine Below.setCell ?_ (by first | (simp; done) | (simp; omega)) _))
        · have hd4n : (v1 != 0) = false := by rw [bne, hd4]; rfl
          have Hhd4p := Lib.hid (beq_iff_eq.1 hd4)
          have HB : trB p col a1 a2 b1 b2 c1 c2 = true := by simp [trB, hd1, hd2, hd3, hd4]
          have HS : trS p col a1 a2 b1 b2 c1 c2 = 5 := by (simp only [trS, trT, ← Hv1.out] <;> simp [hd1, hd2, hd3, hd4])
          have HV := Lib.hid (tr_st (col := col) (a1 := a1) (a2 := a2) (b1 := b1) (b2 := b2) (c1 := c1) (c2 := c2) hp HB HS (by decide))
          clear HB HS
          go_wp2
          (refine bodyPost_ret (v := .tuple #[.slice none 0 0, .int .i64 (trC p col a1 a2 b1 b2 c1 c2)]) (by simp [results, Try.results32, go_sem, HV.out.2]) rfl (slicePost_nil HV.out.1 ?_))
          (repeat (first | with_reducible exact Below.refl _ _ | with_reducible refine balloc ?_ _ | with_reducible refine bdrewN ?_ _ | with_reducible refine Below.drew ?_ | with_reducible refine bthen ?_ (by with_reducible assumption) | with_reducible refine Below.setCell ?_ (by first | (simp; done) | (simp; omega)) _))

theorem tr_len (p col a1 a2 b1 b2 c1 c2 : Int) : (trL p col a1 a2 b1 b2 c1 c2).length ≤ 4096 := by
  unfold trL
  split
  · rename_i h
    have hp : isP p = true := by
      cases hh : isP p
      · simp [trC, hh] at h
      · rfl
    have hr := isP_range hp
    exact (by decide : 3 ≤ 4096)
  · simp

end Go.Proofs.Ytklfgelmieecmaa
