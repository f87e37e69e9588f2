/-
  SquareKind and RootOf: the program's and the model's.
-/
import Derived.Test.YtcddbcpdjgcejaaCode
import Derived.Test.YtcddbcpdjgcejaaSpecNums
import Derived.Test.YtcddbcpdjgcejaaImplNums
import Derived.Test.YtcddbcpdjgcejaaRoot
namespace Go.Proofs.Ytcddbcpdjgcejaa
open Go.RowKit

def squareV (p a : Int) : Int := if a = 0 then 0 else if rootB p a then 1 else -1
def squareKindV (p a : Int) : Int := if codeOf p (numsIn p [a]) = 0 then squareV p a else 0
def rootOfV (p a : Int) : Int := if codeOf p (numsIn p [a]) = 0 ∧ rootB p a = true then rootV p a else 0
def rootOfC (p a : Int) : Int := if codeOf p (numsIn p [a]) = 0 ∧ rootB p a = false then 4 else codeOf p (numsIn p [a])

set_option maxHeartbeats 400000 in
theorem square_any (a p : Int) (w : World) (h0 : 0 ≤ p) (h31 : p ≤ 31) :
    Calls Try.prog 21 #[.int .i64 a, .int .i64 p] w fun e w' => e = .returned (.int .i64 (squareV p a)) ∧ w = w' := by
  by_cases h : a = 0
  · subst h
    go_enter Try.func21, Try.ntmps21
    go_wp2
    go_ret
    exact ⟨ret_int (by simp [squareV]), rfl⟩
  · have h' : (a == 0) = false := by rw [beq_eq_false_iff_ne]; exact h
    have HH := Lib.hid h
    clear h
    cases hb : rootB p a
    all_goals
      go_enter Try.func21, Try.ntmps21
      go_wp2_with (go_at_call 23; refine (specRoot_any _ _ _ h0 h31).mono ?_; rintro e w' ⟨rfl, rfl⟩)
      go_ret
      exact ⟨ret_int (by rw [squareV, if_neg HH.out, hb]; rfl), rfl⟩

set_option maxHeartbeats 400000 in
theorem specSquareKind_any (p a : Int) (w : World) :
    Calls Try.prog 11 #[.int .i64 p, .int .i64 a] w fun e w' => e = .returned (.tuple #[.int .i64 (squareKindV p a), .int .i64 (codeOf p (numsIn p [a]))]) ∧ Below w.heap.size w w' := by
  have hB : ∀ c, Below w.heap.size w (w.alloc c) := fun c => (Below.refl _ _).alloc (Nat.le_refl _) c
  rcases code_cases p (numsIn p [a]) with ⟨h0, hp, hn⟩ | h1 | h1
  · have hr := isP_range hp
    clear hn
    have HV := Lib.hid (show squareKindV p a = squareV p a by simp [squareKindV, h0])
    go_enter Try.func11, Try.ntmps11
    go_wp2_with (first
      | (go_at_call 16; refine (numbers_any _ _ _ _ _ [a] _ rfl (by simp) (by exact cells_new _ [a] _)).mono ?_; rintro e w' ⟨rfl, rfl⟩)
      | (go_at_call 21; refine (square_any _ _ _ (by omega) (by omega)).mono ?_; rintro e w' ⟨rfl, rfl⟩))
    go_ret2
    exact ⟨ret_ii HV.out.symm h0.symm, hB _⟩
  all_goals
    have HV := Lib.hid (show squareKindV p a = 0 by simp [squareKindV, h1])
    go_enter Try.func11, Try.ntmps11
    go_wp2_with (go_at_call 16; refine (numbers_any _ _ _ _ _ [a] _ rfl (by simp) (by exact cells_new _ [a] _)).mono ?_; rintro e w' ⟨rfl, rfl⟩)
    go_ret2
    exact ⟨ret_ii HV.out.symm h1.symm, hB _⟩

set_option maxHeartbeats 400000 in
theorem implSquareKind_any (p a : Int) (w : World) :
    Calls Try.prog 12 #[.int .i64 p, .int .i64 a] w fun e w' => e = .returned (.tuple #[.int .i64 (squareKindV p a), .int .i64 (codeOf p (numsIn p [a]))]) ∧ Below w.heap.size w w' := by
  have hB : ∀ c, Below w.heap.size w (w.alloc c) := fun c => (Below.refl _ _).alloc (Nat.le_refl _) c
  rcases code_cases p (numsIn p [a]) with ⟨h0, hp, hn⟩ | h1 | h1
  · have hr := isP_range hp
    clear hn
    by_cases h : a = 0
    · subst h
      have HV := Lib.hid (show squareKindV p 0 = 0 by simp [squareKindV, squareV])
      go_enter Try.func12, Try.ntmps12
      go_wp2_with (first
        | (go_at_call 19; refine (areNums_any _ _ _ _ _ [0] _ rfl (by simp) (by exact cells_new _ [0] _)).mono ?_; rintro e w' ⟨rfl, rfl⟩)
        | (go_at_call 18; refine (codeFor_any _ _ _).mono ?_; rintro e w' ⟨rfl, rfl⟩))
      go_ret2
      exact ⟨ret_ii HV.out.symm h0.symm, hB _⟩
    · have h' : (a == 0) = false := by rw [beq_eq_false_iff_ne]; exact h
      cases hb : rootB p a
      all_goals
        have HV := Lib.hid (show squareKindV p a = (if rootB p a then 1 else -1) by simp [squareKindV, squareV, h0, h])
        rw [hb] at HV
        have HH := Lib.hid h
        clear h
        go_enter Try.func12, Try.ntmps12
        go_wp2_with (first
          | (go_at_call 19; refine (areNums_any _ _ _ _ _ [a] _ rfl (by simp) (by exact cells_new _ [a] _)).mono ?_; rintro e w' ⟨rfl, rfl⟩)
          | (go_at_call 18; refine (codeFor_any _ _ _).mono ?_; rintro e w' ⟨rfl, rfl⟩)
          | (go_at_call 22; refine (leastRoot_any _ _ _ (by omega) (by omega)).mono ?_; rintro e w' ⟨rfl, rfl⟩))
        go_ret2
        exact ⟨ret_ii HV.out.symm h0.symm, hB _⟩
  all_goals
    have HV := Lib.hid (show squareKindV p a = 0 by simp [squareKindV, h1])
    go_enter Try.func12, Try.ntmps12
    go_wp2_with (first
      | (go_at_call 19; refine (areNums_any _ _ _ _ _ [a] _ rfl (by simp) (by exact cells_new _ [a] _)).mono ?_; rintro e w' ⟨rfl, rfl⟩)
      | (go_at_call 18; refine (codeFor_any _ _ _).mono ?_; rintro e w' ⟨rfl, rfl⟩))
    go_ret2
    exact ⟨ret_ii HV.out.symm h1.symm, hB _⟩

set_option maxHeartbeats 400000 in
theorem specRootOf_any (p a : Int) (w : World) :
    Calls Try.prog 13 #[.int .i64 p, .int .i64 a] w fun e w' => e = .returned (.tuple #[.int .i64 (rootOfV p a), .int .i64 (rootOfC p a)]) ∧ Below w.heap.size w w' := by
  have hB : ∀ c, Below w.heap.size w (w.alloc c) := fun c => (Below.refl _ _).alloc (Nat.le_refl _) c
  rcases code_cases p (numsIn p [a]) with ⟨h0, hp, hn⟩ | h1 | h1
  · have hr := isP_range hp
    clear hn
    cases hb : rootB p a
    · have HV := Lib.hid (show rootOfV p a = 0 ∧ rootOfC p a = 4 by simp [rootOfV, rootOfC, h0, hb])
      go_enter Try.func13, Try.ntmps13
      go_wp2_with (first
        | (go_at_call 16; refine (numbers_any _ _ _ _ _ [a] _ rfl (by simp) (by exact cells_new _ [a] _)).mono ?_; rintro e w' ⟨rfl, rfl⟩)
        | (go_at_call 23; refine (specRoot_any _ _ _ (by omega) (by omega)).mono ?_; rintro e w' ⟨rfl, rfl⟩))
      go_ret2
      exact ⟨ret_ii HV.out.1.symm HV.out.2.symm, hB _⟩
    · have HV := Lib.hid (show rootOfV p a = rootV p a ∧ rootOfC p a = 0 by simp [rootOfV, rootOfC, h0, hb])
      go_enter Try.func13, Try.ntmps13
      go_wp2_with (first
        | (go_at_call 16; refine (numbers_any _ _ _ _ _ [a] _ rfl (by simp) (by exact cells_new _ [a] _)).mono ?_; rintro e w' ⟨rfl, rfl⟩)
        | (go_at_call 23; refine (specRoot_any _ _ _ (by omega) (by omega)).mono ?_; rintro e w' ⟨rfl, rfl⟩))
      go_ret2
      exact ⟨ret_ii HV.out.1.symm HV.out.2.symm, hB _⟩
  all_goals
    have HV := Lib.hid (show rootOfV p a = 0 ∧ rootOfC p a = codeOf p (numsIn p [a]) by simp [rootOfV, rootOfC, h1])
    go_enter Try.func13, Try.ntmps13
    go_wp2_with (go_at_call 16; refine (numbers_any _ _ _ _ _ [a] _ rfl (by simp) (by exact cells_new _ [a] _)).mono ?_; rintro e w' ⟨rfl, rfl⟩)
    go_ret2
    exact ⟨ret_ii HV.out.1.symm (h1.symm.trans HV.out.2.symm), hB _⟩

set_option maxHeartbeats 400000 in
theorem implRootOf_any (p a : Int) (w : World) :
    Calls Try.prog 14 #[.int .i64 p, .int .i64 a] w fun e w' => e = .returned (.tuple #[.int .i64 (rootOfV p a), .int .i64 (rootOfC p a)]) ∧ Below w.heap.size w w' := by
  have hB : ∀ c, Below w.heap.size w (w.alloc c) := fun c => (Below.refl _ _).alloc (Nat.le_refl _) c
  rcases code_cases p (numsIn p [a]) with ⟨h0, hp, hn⟩ | h1 | h1
  · have hr := isP_range hp
    clear hn
    cases hb : rootB p a
    · have HV := Lib.hid (show rootOfV p a = 0 ∧ rootOfC p a = 4 by simp [rootOfV, rootOfC, h0, hb])
      go_enter Try.func14, Try.ntmps14
      go_wp2_with (first
        | (go_at_call 19; refine (areNums_any _ _ _ _ _ [a] _ rfl (by simp) (by exact cells_new _ [a] _)).mono ?_; rintro e w' ⟨rfl, rfl⟩)
        | (go_at_call 18; refine (codeFor_any _ _ _).mono ?_; rintro e w' ⟨rfl, rfl⟩)
        | (go_at_call 22; refine (leastRoot_any _ _ _ (by omega) (by omega)).mono ?_; rintro e w' ⟨rfl, rfl⟩))
      go_ret2
      exact ⟨ret_ii HV.out.1.symm HV.out.2.symm, hB _⟩
    · have HV := Lib.hid (show rootOfV p a = rootV p a ∧ rootOfC p a = 0 by simp [rootOfV, rootOfC, h0, hb])
      go_enter Try.func14, Try.ntmps14
      go_wp2_with (first
        | (go_at_call 19; refine (areNums_any _ _ _ _ _ [a] _ rfl (by simp) (by exact cells_new _ [a] _)).mono ?_; rintro e w' ⟨rfl, rfl⟩)
        | (go_at_call 18; refine (codeFor_any _ _ _).mono ?_; rintro e w' ⟨rfl, rfl⟩)
        | (go_at_call 22; refine (leastRoot_any _ _ _ (by omega) (by omega)).mono ?_; rintro e w' ⟨rfl, rfl⟩))
      go_ret2
      exact ⟨ret_ii HV.out.1.symm HV.out.2.symm, hB _⟩
  all_goals
    have HV := Lib.hid (show rootOfV p a = 0 ∧ rootOfC p a = codeOf p (numsIn p [a]) by simp [rootOfV, rootOfC, h1])
    go_enter Try.func14, Try.ntmps14
    go_wp2_with (first
      | (go_at_call 19; refine (areNums_any _ _ _ _ _ [a] _ rfl (by simp) (by exact cells_new _ [a] _)).mono ?_; rintro e w' ⟨rfl, rfl⟩)
      | (go_at_call 18; refine (codeFor_any _ _ _).mono ?_; rintro e w' ⟨rfl, rfl⟩))
    go_ret2
    exact ⟨ret_ii HV.out.1.symm (h1.symm.trans HV.out.2.symm), hB _⟩

set_option maxHeartbeats 400000 in
theorem exactSquareKind_walk (a0 a1 : Int) (w : World) :
    Calls Try.prog 5 #[.int .i64 a0, .int .i64 a1] w fun e w' => e = .returned (.bool true) ∧ Below w.heap.size w w' := by
  go_enter Try.func5, Try.ntmps5
  (go_wp2_with fail; refine (specSquareKind_any _ _ _).mono ?_; rintro e w1 ⟨rfl, h1⟩)
  (go_wp2_with fail; refine (implSquareKind_any _ _ _).mono ?_; rintro e w2 ⟨rfl, h2⟩)
  go_wp2
  go_ret
  exact ⟨rfl, h1.trans (h2.mono h1.size)⟩

set_option maxHeartbeats 400000 in
theorem exactRootOf_walk (a0 a1 : Int) (w : World) :
    Calls Try.prog 6 #[.int .i64 a0, .int .i64 a1] w fun e w' => e = .returned (.bool true) ∧ Below w.heap.size w w' := by
  go_enter Try.func6, Try.ntmps6
  (go_wp2_with fail; refine (specRootOf_any _ _ _).mono ?_; rintro e w1 ⟨rfl, h1⟩)
  (go_wp2_with fail; refine (implRootOf_any _ _ _).mono ?_; rintro e w2 ⟨rfl, h2⟩)
  go_wp2
  go_ret
  exact ⟨rfl, h1.trans (h2.mono h1.size)⟩

end Go.Proofs.Ytcddbcpdjgcejaa
