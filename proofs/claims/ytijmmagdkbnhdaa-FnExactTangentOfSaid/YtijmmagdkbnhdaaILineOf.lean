/-
  LineOf: the program's.
-/
import Derived.Test.YtijmmagdkbnhdaaCode
import Derived.Test.YtijmmagdkbnhdaaImplNums
import Derived.Test.YtijmmagdkbnhdaaImplMade
namespace Go.Proofs.Ytijmmagdkbnhdaa
open Go.RowKit

def loC0 (p a b c : Int) : Int := codeOf p (numsIn p [a, b, c])
def loC (p a b c : Int) : Int := if loC0 p a b c = 0 ∧ a = 0 ∧ b = 0 then 5 else loC0 p a b c
def loV (p a b c x : Int) : Int := if loC0 p a b c = 0 ∧ ¬ (a = 0 ∧ b = 0) then x else 0
def loV1 (p a b c : Int) : Int := loV p a b c (mk1 p a b c)
def loV2 (p a b c : Int) : Int := loV p a b c (mk2 p a b c)
def loV3 (p a b c : Int) : Int := loV p a b c (mk3 p a b c)
abbrev loR (p a b c : Int) : Value := .tuple #[.agg #[.int .i64 (loV1 p a b c), .int .i64 (loV2 p a b c), .int .i64 (loV3 p a b c)], .int .i64 (loC p a b c)]
set_option linter.unusedSimpArgs false in
theorem lo_err {p a b c k : Int} (h : codeOf p (numsIn p [a, b, c]) = k) (hk : k ≠ 0) : loV1 p a b c = 0 ∧ loV2 p a b c = 0 ∧ loV3 p a b c = 0 ∧ loC p a b c = k := by
  have h' : loC0 p a b c = k := h
  simp [loV1, loV2, loV3, loV, loC, h', hk]
set_option linter.unusedSimpArgs false in
theorem lo_zero {p c : Int} (h : codeOf p (numsIn p [0, 0, c]) = 0) : loV1 p 0 0 c = 0 ∧ loV2 p 0 0 c = 0 ∧ loV3 p 0 0 c = 0 ∧ loC p 0 0 c = 5 := by
  have h' : loC0 p 0 0 c = 0 := h
  simp [loV1, loV2, loV3, loV, loC, h']
set_option linter.unusedSimpArgs false in
theorem lo_good {p a b c : Int} (h : codeOf p (numsIn p [a, b, c]) = 0) (hne : ¬ (a = 0 ∧ b = 0)) : loV1 p a b c = mk1 p a b c ∧ loV2 p a b c = mk2 p a b c ∧ loV3 p a b c = mk3 p a b c ∧ loC p a b c = 0 := by
  have h' : loC0 p a b c = 0 := h
  have f : ¬ (loC0 p a b c = 0 ∧ a = 0 ∧ b = 0) := fun hh => hne hh.2
  have e : loC0 p a b c = 0 ∧ ¬ (a = 0 ∧ b = 0) := ⟨h', hne⟩
  rw [loV1, loV2, loV3, loV, loV, loV, loC, if_pos e, if_pos e, if_pos e, if_neg f, h']
  exact ⟨rfl, rfl, rfl, rfl⟩
set_option linter.unusedSimpArgs false in
theorem numsIn_three {p a b c : Int} (h : numsIn p [a, b, c] = true) : (0 ≤ a ∧ a < p) ∧ (0 ≤ b ∧ b < p) ∧ (0 ≤ c ∧ c < p) := nums3 h

set_option maxRecDepth 20000 in
set_option maxHeartbeats 2000000 in
set_option linter.unusedSimpArgs false in
theorem implLineOf_any (p a b c : Int) (w : World) :
    Calls Try.prog 90 #[.int .i64 p, .int .i64 a, .int .i64 b, .int .i64 c] w fun e w' => e = .returned (loR p a b c) ∧ Below w.heap.size w w' := by
  have ltA : w.heap.size < w.heap.size + 1 + 1 := by omega
  rcases code_cases p (numsIn p [a, b, c]) with ⟨h0, hp, hn⟩ | h0 | h0
  · have hr := isP_range hp
    have hq := nums3 hn
    clear hn
    by_cases ha : a = 0
    · subst ha
      by_cases hb : b = 0
      · subst hb
        have HV := Lib.hid (lo_zero h0)
        go_enter Try.func90, Try.ntmps90
        (go_wp2_with fail; refine Calls.mono (areNums_any _ _ _ _ _ [0, 0, c] _ rfl (by simp) (by exact cells_at (by simp) [0, 0, c] _)) ?_; rintro e w' ⟨rfl, rfl⟩)
        (go_wp2_with fail; refine Calls.mono (codeFor_any _ _ _) ?_; rintro e w' ⟨rfl, rfl⟩)
        go_wp2
        (refine bodyPost_ret (v := loR p 0 0 c) (by simp [results, Try.results90, go_sem, HV.out.1, HV.out.2.1, HV.out.2.2.1, HV.out.2.2.2, *]) rfl ⟨?_, ?_⟩)
        · rfl
        · (repeat (first | exact Below.refl _ _ | assumption | refine balloc ?_ _ | refine bdrewN ?_ _ | refine Below.drew ?_ | refine Below.setCell ?_ (by first | (simp; done) | (simp; omega)) _))
      · have HV := Lib.hid (lo_good h0 (fun h => hb h.2))
        have hb' : (b == 0) = false := by rw [beq_eq_false_iff_ne]; exact hb
        clear hb
        go_enter Try.func90, Try.ntmps90
        (go_wp2_with fail; refine Calls.mono (areNums_any _ _ _ _ _ [0, b, c] _ rfl (by simp) (by exact cells_at (by simp) [0, b, c] _)) ?_; rintro e w' ⟨rfl, rfl⟩)
        (go_wp2_with fail; refine Calls.mono (codeFor_any _ _ _) ?_; rintro e w' ⟨rfl, rfl⟩)
        (go_wp2_with fail; refine Calls.mono (lineMadeBy_any _ _ _ _ _ hp (by omega) (by omega) (by omega)) ?_; rintro e w2 ⟨rfl, hB2⟩; obtain ⟨hB2c, hB2f⟩ := bcell hB2; have hB2s := hB2.size; (try simp at hB2s); (try have hB2q1 := Nat.lt_of_succ_le hB2s); (try have hB2q2 := Nat.lt_of_succ_lt hB2q1); (try have hB2q3 := Nat.lt_of_succ_lt hB2q2); (try have hB2zw0 : w.heap.size < w2.heap.size := (by omega)); (try have hB2zw1 : w.heap.size + 1 < w2.heap.size := (by omega)); (try have hB2zw2 : w.heap.size + 1 + 1 < w2.heap.size := (by omega)); (try have hB2zw3 : w.heap.size + 1 + 1 + 1 < w2.heap.size := (by omega)); (try have hB2zw4 : w.heap.size + 1 + 1 + 1 + 1 < w2.heap.size := (by omega)))
        go_wp2
        (refine bodyPost_ret (v := loR p 0 b c) (by simp [results, Try.results90, go_sem, HV.out.1, HV.out.2.1, HV.out.2.2.1, HV.out.2.2.2, *]) rfl ⟨?_, ?_⟩)
        · rfl
        · (repeat (first | exact Below.refl _ _ | refine balloc ?_ _ | refine bdrewN ?_ _ | refine Below.drew ?_ | refine bthen ?_ hB2 | refine Below.setCell ?_ (by first | (simp; done) | (simp; omega)) _))
    · have HV := Lib.hid (lo_good h0 (fun h => ha h.1))
      have ha' : (a == 0) = false := by rw [beq_eq_false_iff_ne]; exact ha
      clear ha
      go_enter Try.func90, Try.ntmps90
      (go_wp2_with fail; refine Calls.mono (areNums_any _ _ _ _ _ [a, b, c] _ rfl (by simp) (by exact cells_at (by simp) [a, b, c] _)) ?_; rintro e w' ⟨rfl, rfl⟩)
      (go_wp2_with fail; refine Calls.mono (codeFor_any _ _ _) ?_; rintro e w' ⟨rfl, rfl⟩)
      (go_wp2_with fail; refine Calls.mono (lineMadeBy_any _ _ _ _ _ hp (by omega) (by omega) (by omega)) ?_; rintro e w2 ⟨rfl, hB2⟩; obtain ⟨hB2c, hB2f⟩ := bcell hB2; have hB2s := hB2.size; (try simp at hB2s); (try have hB2q1 := Nat.lt_of_succ_le hB2s); (try have hB2q2 := Nat.lt_of_succ_lt hB2q1); (try have hB2q3 := Nat.lt_of_succ_lt hB2q2); (try have hB2zw0 : w.heap.size < w2.heap.size := (by omega)); (try have hB2zw1 : w.heap.size + 1 < w2.heap.size := (by omega)); (try have hB2zw2 : w.heap.size + 1 + 1 < w2.heap.size := (by omega)); (try have hB2zw3 : w.heap.size + 1 + 1 + 1 < w2.heap.size := (by omega)); (try have hB2zw4 : w.heap.size + 1 + 1 + 1 + 1 < w2.heap.size := (by omega)))
      go_wp2
      (refine bodyPost_ret (v := loR p a b c) (by simp [results, Try.results90, go_sem, HV.out.1, HV.out.2.1, HV.out.2.2.1, HV.out.2.2.2, *]) rfl ⟨?_, ?_⟩)
      · rfl
      · (repeat (first | exact Below.refl _ _ | refine balloc ?_ _ | refine bdrewN ?_ _ | refine Below.drew ?_ | refine bthen ?_ hB2 | refine Below.setCell ?_ (by first | (simp; done) | (simp; omega)) _))
  all_goals
    have HV := Lib.hid (lo_err h0 (by omega))
    go_enter Try.func90, Try.ntmps90
    (go_wp2_with fail; refine Calls.mono (areNums_any _ _ _ _ _ [a, b, c] _ rfl (by simp) (by exact cells_at (by simp) [a, b, c] _)) ?_; rintro e w' ⟨rfl, rfl⟩)
    (go_wp2_with fail; refine Calls.mono (codeFor_any _ _ _) ?_; rintro e w' ⟨rfl, rfl⟩)
    go_wp2
    (refine bodyPost_ret (v := loR p a b c) (by simp [results, Try.results90, go_sem, HV.out.1, HV.out.2.1, HV.out.2.2.1, HV.out.2.2.2, *]) rfl ⟨?_, ?_⟩)
    · rfl
    · (repeat (first | exact Below.refl _ _ | assumption | refine balloc ?_ _ | refine bdrewN ?_ _ | refine Below.drew ?_ | refine Below.setCell ?_ (by first | (simp; done) | (simp; omega)) _))

end Go.Proofs.Ytijmmagdkbnhdaa
