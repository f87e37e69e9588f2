/-
  AreTripleSpreads: the program's and the model's.
-/
import Derived.Test.YtklfgelmieecmaaTriple
import Derived.Test.YtklfgelmieecmaaSpecNums
import Derived.Test.YtklfgelmieecmaaImplNums
import Derived.Test.YtklfgelmieecmaaCode
import Derived.Test.YtklfgelmieecmaaPcMath
namespace Go.Proofs.Ytklfgelmieecmaa
open Go.RowKit

set_option linter.unusedVariables false in
def atB (p r s t : Int) : Bool := numsIn p [r, s, t]
set_option linter.unusedVariables false in
def atS (p r s t : Int) : Int := 0
set_option linter.unusedVariables false in
def atC (p r s t : Int) : Int := if isP p = true then (if atB p r s t = true then atS p r s t else 2) else 1
set_option linter.unusedVariables false in
def atV1 (p r s t : Int) : Bool := if atC p r s t = 0 then tripB p r s t else false
theorem at_zero {p r s t k : Int} (h : atC p r s t = k) (hk : k ≠ 0) : atV1 p r s t = false ∧ atC p r s t = k := by
  have hn : ¬ (atC p r s t = 0) := fun e => hk (h.symm.trans e)
  exact ⟨if_neg hn, h⟩
theorem at_no {p r s t : Int} (h : isP p = false) : atV1 p r s t = false ∧ atC p r s t = 1 := at_zero (by simp [atC, h]) (by decide)
theorem at_out {p r s t : Int} (hp : isP p = true) (h : atB p r s t = false) : atV1 p r s t = false ∧ atC p r s t = 2 := at_zero (by simp [atC, hp, h]) (by decide)
theorem at_st {p r s t k : Int} (hp : isP p = true) (h : atB p r s t = true) (hs : atS p r s t = k) (hk : k ≠ 0) : atV1 p r s t = false ∧ atC p r s t = k := at_zero (by simp [atC, hp, h, hs]) hk
theorem at_good {p r s t : Int} (hp : isP p = true) (h : atB p r s t = true) (hs : atS p r s t = 0) : atV1 p r s t = tripB p r s t ∧ atC p r s t = 0 := by
  have h' : atC p r s t = 0 := by simp [atC, hp, h, hs]
  exact ⟨if_pos h', h'⟩

set_option linter.unusedSimpArgs false in
set_option maxRecDepth 20000 in
set_option maxHeartbeats 4000000 in
theorem specAreTripleSpreads_any (p r s t : Int) (w : World) :
    Calls Try.prog 24 #[.int .i64 p, .int .i64 r, .int .i64 s, .int .i64 t] w fun e w' =>
      e = .returned (.tuple #[.bool (atV1 p r s t), .int .i64 (atC p r s t)]) ∧ Below w.heap.size w w' := by
  go_enter Try.func24, Try.ntmps24
  rcases bool_ways (isP p) with hd1 | hd1
  · skip
    have c_1 : codeOf p (numsIn p [r, s, t]) = 1 := codeOf_no hd1
    have cN : ∀ b, codeOf p b = 1 := fun b => codeOf_no hd1
    go_wp2_with fail
    refine Calls.mono (numbers_any _ _ _ _ _ [r, s, t] _ rfl (by simp) (by exact cells_at (by simp) [r, s, t] _)) ?_
    rintro e w' ⟨rfl, rfl⟩
    have HV := Lib.hid (at_no (r := r) (s := s) (t := t) hd1)
    go_wp2
    (refine bodyPost_ret (v := .tuple #[.bool (atV1 p r s t), .int .i64 (atC p r s t)]) (by simp [results, Try.results24, go_sem, HV.out.1, HV.out.2, *]) rfl ⟨?_, ?_⟩)
    · rfl
    · (repeat (first | with_reducible exact Below.refl _ _ | with_reducible refine balloc ?_ _ | with_reducible refine bdrewN ?_ _ | with_reducible refine Below.drew ?_ | with_reducible refine bthen ?_ (by with_reducible assumption) | with_reducible refine Below.setCell ?_ (by first | (simp; done) | (simp; omega)) _))
  · have hp := hd1
    have hr := isP_range hp
    rcases bool_ways (numsIn p [r, s, t]) with hd2 | hd2
    · skip
      have c_1 : codeOf p (numsIn p [r, s, t]) = 2 := codeOf_out hp (by simp [hd2])
      have cT : codeOf p true = 0 := codeOf_in hp rfl
      have cF : codeOf p false = 2 := codeOf_out hp rfl
      go_wp2_with fail
      refine Calls.mono (numbers_any _ _ _ _ _ [r, s, t] _ rfl (by simp) (by exact cells_at (by simp) [r, s, t] _)) ?_
      rintro e w' ⟨rfl, rfl⟩
      have HV := Lib.hid (at_out (r := r) (s := s) (t := t) hp (by simp [atB, hd1, hd2]))
      go_wp2
      (refine bodyPost_ret (v := .tuple #[.bool (atV1 p r s t), .int .i64 (atC p r s t)]) (by simp [results, Try.results24, go_sem, HV.out.1, HV.out.2, *]) rfl ⟨?_, ?_⟩)
      · rfl
      · (repeat (first | with_reducible exact Below.refl _ _ | with_reducible refine balloc ?_ _ | with_reducible refine bdrewN ?_ _ | with_reducible refine Below.drew ?_ | with_reducible refine bthen ?_ (by with_reducible assumption) | with_reducible refine Below.setCell ?_ (by first | (simp; done) | (simp; omega)) _))
    · have hd2q := nums3 hd2
      have c_1 : codeOf p (numsIn p [r, s, t]) = 0 := codeOf_in hp (by simp [hd2])
      have cT : codeOf p true = 0 := codeOf_in hp rfl
      go_wp2_with fail
      refine Calls.mono (numbers_any _ _ _ _ _ [r, s, t] _ rfl (by simp) (by exact cells_at (by simp) [r, s, t] _)) ?_
      rintro e w' ⟨rfl, rfl⟩
      go_wp2_with fail
      refine Calls.mono (specTriple_any _ _ _ _ _ hp (by omega) (by omega) (by omega)) ?_
      rintro e w1 ⟨rfl, hB1⟩
      (obtain ⟨hB1c, hB1f⟩ := bcell hB1; have hB1s := hB1.size; (try simp at hB1s); (try have hB1q1 := Nat.lt_of_succ_le hB1s); (try have hB1q2 := Nat.lt_of_succ_lt hB1q1); (try have hB1q3 := Nat.lt_of_succ_lt hB1q2); (try have hB1zw0 : w.heap.size < w1.heap.size := (by omega)); (try have hB1zw1 : w.heap.size + 1 < w1.heap.size := (by omega)); (try have hB1zw2 : w.heap.size + 1 + 1 < w1.heap.size := (by omega)); (try have hB1zw3 : w.heap.size + 1 + 1 + 1 < w1.heap.size := (by omega)); (try have hB1zw4 : w.heap.size + 1 + 1 + 1 + 1 < w1.heap.size := (by omega)))
      have HB : atB p r s t = true := by simp [atB, hd1, hd2]
      have HS : atS p r s t = 0 := by rfl
      have HV := Lib.hid (show atV1 p r s t = tripB p r s t ∧ atC p r s t = 0 from by
        have HG := at_good (r := r) (s := s) (t := t) hp HB HS
        refine ⟨(HG.1).trans ?_, HG.2⟩
        all_goals rfl)
      clear HB HS
      go_wp2
      (refine bodyPost_ret (v := .tuple #[.bool (atV1 p r s t), .int .i64 (atC p r s t)]) (by simp [results, Try.results24, go_sem, HV.out.1, HV.out.2, *]) rfl ⟨?_, ?_⟩)
      · rfl
      · (repeat (first | with_reducible exact Below.refl _ _ | with_reducible refine balloc ?_ _ | with_reducible refine bdrewN ?_ _ | with_reducible refine Below.drew ?_ | with_reducible refine bthen ?_ (by with_reducible assumption) | with_reducible refine Below.setCell ?_ (by first | (simp; done) | (simp; omega)) _))

set_option linter.unusedSimpArgs false in
set_option maxRecDepth 20000 in
set_option maxHeartbeats 4000000 in
theorem implAreTripleSpreads_any (p r s t : Int) (w : World) :
    Calls Try.prog 25 #[.int .i64 p, .int .i64 r, .int .i64 s, .int .i64 t] w fun e w' =>
      e = .returned (.tuple #[.bool (atV1 p r s t), .int .i64 (atC p r s t)]) ∧ Below w.heap.size w w' := by
  go_enter Try.func25, Try.ntmps25
  rcases bool_ways (isP p) with hd1 | hd1
  · skip
    have c_1 : codeOf p (numsIn p [r, s, t]) = 1 := codeOf_no hd1
    have cN : ∀ b, codeOf p b = 1 := fun b => codeOf_no hd1
    go_wp2_with fail
    refine Calls.mono (areNums_any _ _ _ _ _ [r, s, t] _ rfl (by simp) (by exact cells_at (by simp) [r, s, t] _)) ?_
    rintro e w' ⟨rfl, rfl⟩
    go_wp2_with fail
    refine Calls.mono (codeFor_any _ _ _) ?_
    rintro e w' ⟨rfl, rfl⟩
    have HV := Lib.hid (at_no (r := r) (s := s) (t := t) hd1)
    go_wp2
    (refine bodyPost_ret (v := .tuple #[.bool (atV1 p r s t), .int .i64 (atC p r s t)]) (by simp [results, Try.results25, go_sem, HV.out.1, HV.out.2, *]) rfl ⟨?_, ?_⟩)
    · rfl
    · (repeat (first | with_reducible exact Below.refl _ _ | with_reducible refine balloc ?_ _ | with_reducible refine bdrewN ?_ _ | with_reducible refine Below.drew ?_ | with_reducible refine bthen ?_ (by with_reducible assumption) | with_reducible refine Below.setCell ?_ (by first | (simp; done) | (simp; omega)) _))
  · have hp := hd1
    have hr := isP_range hp
    rcases bool_ways (numsIn p [r, s, t]) with hd2 | hd2
    · skip
      have c_1 : codeOf p (numsIn p [r, s, t]) = 2 := codeOf_out hp (by simp [hd2])
      have cT : codeOf p true = 0 := codeOf_in hp rfl
      have cF : codeOf p false = 2 := codeOf_out hp rfl
      go_wp2_with fail
      refine Calls.mono (areNums_any _ _ _ _ _ [r, s, t] _ rfl (by simp) (by exact cells_at (by simp) [r, s, t] _)) ?_
      rintro e w' ⟨rfl, rfl⟩
      go_wp2_with fail
      refine Calls.mono (codeFor_any _ _ _) ?_
      rintro e w' ⟨rfl, rfl⟩
      have HV := Lib.hid (at_out (r := r) (s := s) (t := t) hp (by simp [atB, hd1, hd2]))
      go_wp2
      (refine bodyPost_ret (v := .tuple #[.bool (atV1 p r s t), .int .i64 (atC p r s t)]) (by simp [results, Try.results25, go_sem, HV.out.1, HV.out.2, *]) rfl ⟨?_, ?_⟩)
      · rfl
      · (repeat (first | with_reducible exact Below.refl _ _ | with_reducible refine balloc ?_ _ | with_reducible refine bdrewN ?_ _ | with_reducible refine Below.drew ?_ | with_reducible refine bthen ?_ (by with_reducible assumption) | with_reducible refine Below.setCell ?_ (by first | (simp; done) | (simp; omega)) _))
    · have hd2q := nums3 hd2
      have c_1 : codeOf p (numsIn p [r, s, t]) = 0 := codeOf_in hp (by simp [hd2])
      have cT : codeOf p true = 0 := codeOf_in hp rfl
      go_wp2_with fail
      refine Calls.mono (areNums_any _ _ _ _ _ [r, s, t] _ rfl (by simp) (by exact cells_at (by simp) [r, s, t] _)) ?_
      rintro e w' ⟨rfl, rfl⟩
      go_wp2_with fail
      refine Calls.mono (codeFor_any _ _ _) ?_
      rintro e w' ⟨rfl, rfl⟩
      go_wp2_with fail
      refine Calls.mono (implTriple_any _ _ _ _ _ hp (by omega) (by omega) (by omega)) ?_
      rintro e w1 ⟨rfl, hB1⟩
      (obtain ⟨hB1c, hB1f⟩ := bcell hB1; have hB1s := hB1.size; (try simp at hB1s); (try have hB1q1 := Nat.lt_of_succ_le hB1s); (try have hB1q2 := Nat.lt_of_succ_lt hB1q1); (try have hB1q3 := Nat.lt_of_succ_lt hB1q2); (try have hB1zw0 : w.heap.size < w1.heap.size := (by omega)); (try have hB1zw1 : w.heap.size + 1 < w1.heap.size := (by omega)); (try have hB1zw2 : w.heap.size + 1 + 1 < w1.heap.size := (by omega)); (try have hB1zw3 : w.heap.size + 1 + 1 + 1 < w1.heap.size := (by omega)); (try have hB1zw4 : w.heap.size + 1 + 1 + 1 + 1 < w1.heap.size := (by omega)))
      have HB : atB p r s t = true := by simp [atB, hd1, hd2]
      have HS : atS p r s t = 0 := by rfl
      have HV := Lib.hid (show atV1 p r s t = tripB p r s t ∧ atC p r s t = 0 from by
        have HG := at_good (r := r) (s := s) (t := t) hp HB HS
        refine ⟨(HG.1).trans ?_, HG.2⟩
        all_goals rfl)
      clear HB HS
      go_wp2
      (refine bodyPost_ret (v := .tuple #[.bool (atV1 p r s t), .int .i64 (atC p r s t)]) (by simp [results, Try.results25, go_sem, HV.out.1, HV.out.2, *]) rfl ⟨?_, ?_⟩)
      · rfl
      · (repeat (first | with_reducible exact Below.refl _ _ | with_reducible refine balloc ?_ _ | with_reducible refine bdrewN ?_ _ | with_reducible refine Below.drew ?_ | with_reducible refine bthen ?_ (by with_reducible assumption) | with_reducible refine Below.setCell ?_ (by first | (simp; done) | (simp; omega)) _))

end Go.Proofs.Ytklfgelmieecmaa
