/-
  The tests of ranges: spec.l01Numbers, impl.IsField, impl.codeFor, impl.areNumbers.
-/
import Derived.Test.YtcddbcpdjgcejaaField
namespace Go.Proofs.Ytcddbcpdjgcejaa
open Go.RowKit

/-- All the numbers are modulo p. -/
def numsIn (p : Int) (xs : List Int) : Bool := xs.all fun x => inB x 0 (p - 1)
/-- The code of a prime and a test. -/
def codeOf (p : Int) (b : Bool) : Int := if isP p then (if b then 0 else 2) else 1
theorem codeOf_no {p : Int} {b : Bool} (h : isP p = false) : codeOf p b = 1 := by simp [codeOf, h]
theorem codeOf_out {p : Int} {b : Bool} (h : isP p = true) (hb : b = false) : codeOf p b = 2 := by simp [codeOf, h, hb]
theorem codeOf_in {p : Int} {b : Bool} (h : isP p = true) (hb : b = true) : codeOf p b = 0 := by simp [codeOf, h, hb]

/-- The numbers before k are all in the range. -/
def UpIn (p : Int) (xs : List Int) (k : Nat) : Prop := ∀ i, i < k → inB (xs.getD i 0) 0 (p - 1) = true
theorem UpIn.start (p : Int) (xs : List Int) : UpIn p xs 0 := fun _ h => absurd h (by omega)
theorem UpIn.next {p : Int} {xs : List Int} {k : Nat} {x : Int} (h : UpIn p xs k) (hx : x = xs.getD k 0) (hin : inB x 0 (p - 1) = true) : UpIn p xs (k + 1) := fun i hi => by
  by_cases e : i = k
  · rw [e, ← hx]; exact hin
  · exact h i (by omega)
theorem UpIn.all {p : Int} {xs : List Int} {k : Nat} (h : UpIn p xs k) (hk : xs.length ≤ k) : numsIn p xs = true := by
  unfold numsIn
  rw [List.all_eq_true]
  intro x hx
  obtain ⟨i, hi, e⟩ := List.getElem_of_mem hx
  have h1 := h i (by omega)
  rw [List.getD_eq_getElem?_getD, List.getElem?_eq_getElem hi, Option.getD_some, e] at h1
  exact h1
theorem numsIn_no {p : Int} {xs : List Int} {k : Nat} {x : Int} (hk : k < xs.length) (hx : x = xs.getD k 0) (hin : inB x 0 (p - 1) = false) : numsIn p xs = false := by
  unfold numsIn
  rw [List.all_eq_false]
  refine ⟨xs[k], List.getElem_mem hk, ?_⟩
  rw [List.getD_eq_getElem?_getD, List.getElem?_eq_getElem hk, Option.getD_some] at hx
  rw [← hx, hin]; simp

/-- The cells from o on of block b hold the numbers. -/
def Cells (w : World) (b o : Nat) (xs : List Int) : Prop := ∀ i, i < xs.length → w.cell? ⟨b, o + i, none⟩ = some (.int .i64 (xs.getD i 0))

set_option maxHeartbeats 400000 in
theorem numbers_any (p : Int) (b o n c : Nat) (xs : List Int) (w : World) (hn : n = xs.length) (hl : n ≤ 100) (hc : Cells w b o xs) :
    Calls Try.prog 16 #[.int .i64 p, .slice (some ⟨b, o, none⟩) n c] w fun e w' => e = .returned (.int .i64 (codeOf p (numsIn p xs))) ∧ w = w' := by
  by_cases hp : isP p = true
  · have hr := isP_range hp
    have HN := Lib.hid hn
    clear hn
    go_enter Try.func16, Try.ntmps16
    go_wp2_with (go_at_call 15; refine (field_any _ _).mono ?_; rintro e w' ⟨rfl, rfl⟩)
    go_loop [5] (fun d => ∃ k : Nat, k ≤ n ∧ d = .int .i64 k ∧ UpIn p xs k) (fun d => n - (intOf d).toNat)
    case atStart => exact ⟨0, by omega, rfl, UpIn.start _ _⟩
    case round =>
      obtain ⟨k, hk, rfl, hd⟩ := hrel
      by_cases hlt : k < n
      · have hcell := hc k (by have := HN.out; omega)
        obtain ⟨x, hx⟩ : ∃ x, x = xs.getD k 0 := ⟨_, rfl⟩
        rw [← hx] at hcell
        have HX := Lib.hid hx
        clear hx
        by_cases hin : inB x 0 (p - 1) = true
        · have H := Lib.hid (hd.next HX.out hin)
          go_wp2_with (go_at_call 24; refine (in_any _ _ _ _).mono ?_; rintro e w' ⟨rfl, rfl⟩)
          go_round
          case rel => exact ⟨k + 1, by omega, by go_num, H.out⟩
          case measure => simp [intOf]; omega
        · rw [Bool.not_eq_true] at hin
          have H := Lib.hid (numsIn_no (by have := HN.out; omega) HX.out hin)
          go_wp2_with (go_at_call 24; refine (in_any _ _ _ _).mono ?_; rintro e w' ⟨rfl, rfl⟩)
          go_ret
          exact ⟨ret_int (by rw [codeOf_out hp H.out]), rfl⟩
      · have H := Lib.hid (hd.all (by have := HN.out; omega))
        go_wp2
        go_ret
        exact ⟨ret_int (by rw [codeOf_in hp H.out]), rfl⟩
  · rw [Bool.not_eq_true] at hp
    go_enter Try.func16, Try.ntmps16
    go_wp2_with (go_at_call 15; refine (field_any _ _).mono ?_; rintro e w' ⟨rfl, rfl⟩)
    go_ret
    exact ⟨ret_int (by rw [codeOf_no hp]), rfl⟩

set_option maxHeartbeats 400000 in
theorem areNums_any (p : Int) (b o n c : Nat) (xs : List Int) (w : World) (hn : n = xs.length) (hl : n ≤ 100) (hc : Cells w b o xs) :
    Calls Try.prog 19 #[.int .i64 p, .slice (some ⟨b, o, none⟩) n c] w fun e w' => e = .returned (.bool (numsIn p xs)) ∧ w = w' := by
  have HN := Lib.hid hn
  clear hn
  go_enter Try.func19, Try.ntmps19
  go_wp2
  go_loop [6, 9] (fun _ d => ∃ k : Nat, k ≤ n ∧ d = .int .i64 k ∧ UpIn p xs k) (fun _ d => n - (intOf d).toNat)
  case atStart => exact ⟨0, by omega, rfl, UpIn.start _ _⟩
  case round =>
    obtain ⟨k, hk, rfl, hd⟩ := hrel
    by_cases hlt : k < n
    · have hcell := hc k (by have := HN.out; omega)
      obtain ⟨x, hx⟩ : ∃ x, x = xs.getD k 0 := ⟨_, rfl⟩
      rw [← hx] at hcell
      have HX := Lib.hid hx
      clear hx
      by_cases hx0 : x < 0
      · have H := Lib.hid (numsIn_no (p := p) (by have := HN.out; omega) HX.out (inB_false (by omega)))
        go_wp2
        go_ret
        exact ⟨ret_bool (by rw [H.out]), rfl⟩
      · by_cases hxp : p ≤ x
        · have H := Lib.hid (numsIn_no (p := p) (by have := HN.out; omega) HX.out (inB_false (by omega)))
          go_wp2
          go_ret
          exact ⟨ret_bool (by rw [H.out]), rfl⟩
        · have H := Lib.hid (hd.next HX.out (inB_true (by omega)))
          go_wp2
          go_round
          case rel => exact ⟨k + 1, by omega, by go_num, H.out⟩
          case measure => simp [intOf]; omega
    · have H := Lib.hid (hd.all (by have := HN.out; omega))
      go_wp2
      go_ret
      exact ⟨ret_bool (by rw [H.out]), rfl⟩

set_option maxHeartbeats 400000 in
theorem isField_any (p : Int) (w : World) :
    Calls Try.prog 8 #[.int .i64 p] w fun e w' => e = .returned (.bool (isP p)) ∧ w = w' := by
  by_cases h : p = 3 ∨ p = 5 ∨ p = 7 ∨ p = 11 ∨ p = 13 ∨ p = 17 ∨ p = 19 ∨ p = 23 ∨ p = 29 ∨ p = 31
  · have hp := Lib.hid (isP_iff.2 h)
    rcases h with rfl | rfl | rfl | rfl | rfl | rfl | rfl | rfl | rfl | rfl
    all_goals
      go_enter Try.func8, Try.ntmps8
      go_wp2
      go_ret
      exact ⟨ret_bool hp.out.symm, rfl⟩
  · have hp : isP p = false := by
      cases hh : isP p with
      | false => rfl
      | true => exact absurd (isP_iff.1 hh) h
    have HP := Lib.hid hp
    clear hp
    have h3 : (p == 3) = false := by rw [beq_eq_false_iff_ne]; omega
    have h5 : (p == 5) = false := by rw [beq_eq_false_iff_ne]; omega
    have h7 : (p == 7) = false := by rw [beq_eq_false_iff_ne]; omega
    have h11 : (p == 11) = false := by rw [beq_eq_false_iff_ne]; omega
    have h13 : (p == 13) = false := by rw [beq_eq_false_iff_ne]; omega
    have h17 : (p == 17) = false := by rw [beq_eq_false_iff_ne]; omega
    have h19 : (p == 19) = false := by rw [beq_eq_false_iff_ne]; omega
    have h23 : (p == 23) = false := by rw [beq_eq_false_iff_ne]; omega
    have h29 : (p == 29) = false := by rw [beq_eq_false_iff_ne]; omega
    have h31 : (p == 31) = false := by rw [beq_eq_false_iff_ne]; omega
    clear h
    go_enter Try.func8, Try.ntmps8
    go_wp2
    go_ret
    exact ⟨ret_bool HP.out.symm, rfl⟩

set_option maxHeartbeats 400000 in
theorem codeFor_any (p : Int) (b : Bool) (w : World) :
    Calls Try.prog 18 #[.int .i64 p, .bool b] w fun e w' => e = .returned (.int .i64 (codeOf p b)) ∧ w = w' := by
  by_cases hp : isP p = true
  · cases b
    all_goals
      go_enter Try.func18, Try.ntmps18
      go_wp2_with (go_at_call 8; refine (isField_any _ _).mono ?_; rintro e w' ⟨rfl, rfl⟩)
      go_ret
    · exact ⟨ret_int (by rw [codeOf_out hp rfl]), rfl⟩
    · exact ⟨ret_int (by rw [codeOf_in hp rfl]), rfl⟩
  · rw [Bool.not_eq_true] at hp
    go_enter Try.func18, Try.ntmps18
    go_wp2_with (go_at_call 8; refine (isField_any _ _).mono ?_; rintro e w' ⟨rfl, rfl⟩)
    go_ret
    exact ⟨ret_int (by rw [codeOf_no hp]), rfl⟩

end Go.Proofs.Ytcddbcpdjgcejaa
