/-
  InverseOf: the program's and the model's.
-/
import Derived.Test.YtcddbcpdjgcejaaCode
import Derived.Test.YtcddbcpdjgcejaaSpecNums
import Derived.Test.YtcddbcpdjgcejaaImplNums
import Derived.Test.YtcddbcpdjgcejaaInv
namespace Go.Proofs.Ytcddbcpdjgcejaa
open Go.RowKit

def inverseOfV (p a : Int) : Int := if codeOf p (numsIn p [a]) = 0 ∧ a ≠ 0 then inv p a else 0
def inverseOfC (p a : Int) : Int := if codeOf p (numsIn p [a]) = 0 ∧ a = 0 then 5 else codeOf p (numsIn p [a])

set_option maxHeartbeats 400000 in
theorem specInverseOf_any (p a : Int) (w : World) :
    Calls Try.prog 9 #[.int .i64 p, .int .i64 a] w fun e w' => e = .returned (.tuple #[.int .i64 (inverseOfV p a), .int .i64 (inverseOfC p a)]) ∧ Below w.heap.size w w' := by
  have hB : ∀ c, Below w.heap.size w (w.alloc c) := fun c => (Below.refl _ _).alloc (Nat.le_refl _) c
  rcases code_cases p (numsIn p [a]) with ⟨h0, hp, hn⟩ | h1 | h1
  · have hr := isP_range hp
    have ha := numsIn_one hn
    clear hn
    by_cases h : a = 0
    · subst h
      have HV := Lib.hid (show inverseOfV p 0 = 0 ∧ inverseOfC p 0 = 5 by simp [inverseOfV, inverseOfC, h0])
      go_enter Try.func9, Try.ntmps9
      go_wp2_with (go_at_call 16; refine (numbers_any _ _ _ _ _ [0] _ rfl (by simp) (by exact cells_new _ [0] _)).mono ?_; rintro e w' ⟨rfl, rfl⟩)
      go_ret2
      exact ⟨ret_ii HV.out.1.symm HV.out.2.symm, hB _⟩
    · have HV := Lib.hid (show inverseOfV p a = inv p a ∧ inverseOfC p a = 0 by simp [inverseOfV, inverseOfC, h0, h])
      have h' : (a == 0) = false := by rw [beq_eq_false_iff_ne]; exact h
      clear h
      go_enter Try.func9, Try.ntmps9
      go_wp2_with (first
        | (go_at_call 16; refine (numbers_any _ _ _ _ _ [a] _ rfl (by simp) (by exact cells_new _ [a] _)).mono ?_; rintro e w' ⟨rfl, rfl⟩)
        | (go_at_call 17; refine (inverse_any _ _ _ hp (by omega) (by omega)).mono ?_; rintro e w' ⟨rfl, rfl⟩))
      go_ret2
      exact ⟨ret_ii HV.out.1.symm HV.out.2.symm, hB _⟩
  all_goals
    have HV := Lib.hid (show inverseOfV p a = 0 ∧ inverseOfC p a = codeOf p (numsIn p [a]) by simp [inverseOfV, inverseOfC, h1])
    go_enter Try.func9, Try.ntmps9
    go_wp2_with (go_at_call 16; refine (numbers_any _ _ _ _ _ [a] _ rfl (by simp) (by exact cells_new _ [a] _)).mono ?_; rintro e w' ⟨rfl, rfl⟩)
    go_ret2
    exact ⟨ret_ii HV.out.1.symm (h1.symm.trans HV.out.2.symm), hB _⟩

set_option maxHeartbeats 400000 in
theorem implInverseOf_any (p a : Int) (w : World) :
    Calls Try.prog 10 #[.int .i64 p, .int .i64 a] w fun e w' => e = .returned (.tuple #[.int .i64 (inverseOfV p a), .int .i64 (inverseOfC p a)]) ∧ Below w.heap.size w w' := by
  have hB : ∀ c, Below w.heap.size w (w.alloc c) := fun c => (Below.refl _ _).alloc (Nat.le_refl _) c
  rcases code_cases p (numsIn p [a]) with ⟨h0, hp, hn⟩ | h1 | h1
  · have hr := isP_range hp
    have ha := numsIn_one hn
    clear hn
    by_cases h : a = 0
    · subst h
      have HV := Lib.hid (show inverseOfV p 0 = 0 ∧ inverseOfC p 0 = 5 by simp [inverseOfV, inverseOfC, h0])
      go_enter Try.func10, Try.ntmps10
      go_wp2_with (first
        | (go_at_call 19; refine (areNums_any _ _ _ _ _ [0] _ rfl (by simp) (by exact cells_new _ [0] _)).mono ?_; rintro e w' ⟨rfl, rfl⟩)
        | (go_at_call 18; refine (codeFor_any _ _ _).mono ?_; rintro e w' ⟨rfl, rfl⟩))
      go_ret2
      exact ⟨ret_ii HV.out.1.symm HV.out.2.symm, hB _⟩
    · have HV := Lib.hid (show inverseOfV p a = inv p a ∧ inverseOfC p a = 0 by simp [inverseOfV, inverseOfC, h0, h])
      have h' : (a == 0) = false := by rw [beq_eq_false_iff_ne]; exact h
      clear h
      go_enter Try.func10, Try.ntmps10
      go_wp2_with (first
        | (go_at_call 19; refine (areNums_any _ _ _ _ _ [a] _ rfl (by simp) (by exact cells_new _ [a] _)).mono ?_; rintro e w' ⟨rfl, rfl⟩)
        | (go_at_call 18; refine (codeFor_any _ _ _).mono ?_; rintro e w' ⟨rfl, rfl⟩)
        | (go_at_call 20; refine (implInverse_any _ _ _ hp (by omega) (by omega)).mono ?_; rintro e w' ⟨rfl, rfl⟩))
      go_ret2
      exact ⟨ret_ii HV.out.1.symm HV.out.2.symm, hB _⟩
  all_goals
    have HV := Lib.hid (show inverseOfV p a = 0 ∧ inverseOfC p a = codeOf p (numsIn p [a]) by simp [inverseOfV, inverseOfC, h1])
    go_enter Try.func10, Try.ntmps10
    go_wp2_with (first
      | (go_at_call 19; refine (areNums_any _ _ _ _ _ [a] _ rfl (by simp) (by exact cells_new _ [a] _)).mono ?_; rintro e w' ⟨rfl, rfl⟩)
      | (go_at_call 18; refine (codeFor_any _ _ _).mono ?_; rintro e w' ⟨rfl, rfl⟩))
    go_ret2
    exact ⟨ret_ii HV.out.1.symm (h1.symm.trans HV.out.2.symm), hB _⟩

set_option maxHeartbeats 400000 in
theorem exactInverseOf_walk (a0 a1 : Int) (w : World) :
    Calls Try.prog 4 #[.int .i64 a0, .int .i64 a1] w fun e w' => e = .returned (.bool true) ∧ Below w.heap.size w w' := by
  go_enter Try.func4, Try.ntmps4
  (go_wp2_with fail; refine (specInverseOf_any _ _ _).mono ?_; rintro e w1 ⟨rfl, h1⟩)
  (go_wp2_with fail; refine (implInverseOf_any _ _ _).mono ?_; rintro e w2 ⟨rfl, h2⟩)
  go_wp2
  go_ret
  exact ⟨rfl, h1.trans (h2.mono h1.size)⟩

end Go.Proofs.Ytcddbcpdjgcejaa
