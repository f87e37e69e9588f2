/-
  spec.l05Code: the code of a prime, an index and numbers.
-/
import Derived.Test.YtinfjbaloppgkaaSpecNums
import Derived.Test.YtinfjbaloppgkaaPolyZ
namespace Go.Proofs.Ytinfjbaloppgkaa
open Go.RowKit

theorem codeOf_and {p : Int} {a b : Bool} : codeOf p (a && b) = if codeOf p a = 0 then (if b = true then 0 else 2) else codeOf p a := by
  rcases code_cases p a with ⟨h, hp, rfl⟩ | h | h
  · rw [h]; cases b
    · simp [codeOf, hp]
    · simp [codeOf, hp]
  · cases hh : isP p <;> cases a <;> cases b <;> simp_all [codeOf]
  · cases hh : isP p <;> cases a <;> cases b <;> simp_all [codeOf]

set_option maxRecDepth 20000 in
set_option maxHeartbeats 400000 in
theorem numbers_nil (p : Int) (w : World) :
    Calls Try.prog 60 #[.int .i64 p, .slice none 0 0] w fun e w' => e = .returned (.int .i64 (codeOf p true)) ∧ w = w' := by
  by_cases hp : isP p = true
  · have H := Lib.hid (codeOf_in hp rfl)
    go_enter Try.func60, Try.ntmps60
    go_wp2_with (go_at_call 88; refine Calls.mono (field_any _ _) ?_; rintro e w' ⟨rfl, rfl⟩)
    go_loop [5] (fun d => d = .int .i64 0) (fun _ => 0)
    case atStart => rfl
    case round =>
      subst hrel
      go_wp2
      go_ret
      exact ⟨ret_int (by rw [H.out]), rfl⟩
  · rw [Bool.not_eq_true] at hp
    go_enter Try.func60, Try.ntmps60
    go_wp2_with (go_at_call 88; refine Calls.mono (field_any _ _) ?_; rintro e w' ⟨rfl, rfl⟩)
    go_ret
    exact ⟨ret_int (by rw [codeOf_no hp]), rfl⟩

set_option maxRecDepth 20000 in
set_option maxHeartbeats 800000 in
theorem code5_any (p n : Int) (b o k c : Nat) (xs : List Int) (w : World) (hk : k = xs.length) (hl : k ≤ 100) (hc : Cells w b o xs) :
    Calls Try.prog 42 #[.int .i64 p, .int .i64 n, .slice (some ⟨b, o, none⟩) k c] w fun e w' => e = .returned (.int .i64 (codeOf p (numsIn p xs && inB n 0 1000))) ∧ w = w' := by
  have HK := Lib.hid hk
  clear hk
  have HC := Lib.hid (codeOf_and (p := p) (a := numsIn p xs) (b := inB n 0 1000))
  have hr := code_range p (numsIn p xs)
  go_enter Try.func42, Try.ntmps42
  go_wp2_with fail
  refine Calls.mono (numbers_any _ _ _ _ _ xs _ HK.out hl hc) ?_
  rintro e w' ⟨rfl, rfl⟩
  obtain ⟨q, hq⟩ : ∃ q, q = codeOf p (numsIn p xs) := ⟨_, rfl⟩
  rw [← hq] at HC hr ⊢
  clear hq
  by_cases h : q = 0
  · subst h
    rcases bool_ways (inB n 0 1000) with hb | hb
    · rw [hb] at HC
      go_wp2_with (go_at_call 71; refine Calls.mono (in_any _ _ _ _) ?_; rintro e w' ⟨rfl, rfl⟩)
      go_ret
      exact ⟨ret_int (by rw [hb, HC.out]; rfl), rfl⟩
    · rw [hb] at HC
      go_wp2_with (go_at_call 71; refine Calls.mono (in_any _ _ _ _) ?_; rintro e w' ⟨rfl, rfl⟩)
      go_ret
      exact ⟨ret_int (by rw [hb, HC.out]; rfl), rfl⟩
  · have h' : (q == 0) = false := by rw [beq_eq_false_iff_ne]; exact h
    have HQ := Lib.hid h
    clear h
    go_wp2
    go_ret
    exact ⟨ret_int (by rw [HC.out, if_neg HQ.out]), rfl⟩

set_option maxRecDepth 20000 in
set_option maxHeartbeats 800000 in
theorem code5_nil (p n : Int) (w : World) :
    Calls Try.prog 42 #[.int .i64 p, .int .i64 n, .slice none 0 0] w fun e w' => e = .returned (.int .i64 (codeOf p (inB n 0 1000))) ∧ w = w' := by
  have HC := Lib.hid (codeOf_and (p := p) (a := true) (b := inB n 0 1000))
  have hr := code_range p true
  go_enter Try.func42, Try.ntmps42
  go_wp2_with fail
  refine Calls.mono (numbers_nil _ _) ?_
  rintro e w' ⟨rfl, rfl⟩
  rw [Bool.true_and] at HC
  obtain ⟨q, hq⟩ : ∃ q, q = codeOf p true := ⟨_, rfl⟩
  rw [← hq] at HC hr ⊢
  clear hq
  by_cases h : q = 0
  · subst h
    rcases bool_ways (inB n 0 1000) with hb | hb
    · rw [hb] at HC
      go_wp2_with (go_at_call 71; refine Calls.mono (in_any _ _ _ _) ?_; rintro e w' ⟨rfl, rfl⟩)
      go_ret
      exact ⟨ret_int (by rw [hb, HC.out]; rfl), rfl⟩
    · rw [hb] at HC
      go_wp2_with (go_at_call 71; refine Calls.mono (in_any _ _ _ _) ?_; rintro e w' ⟨rfl, rfl⟩)
      go_ret
      exact ⟨ret_int (by rw [hb, HC.out]; rfl), rfl⟩
  · have h' : (q == 0) = false := by rw [beq_eq_false_iff_ne]; exact h
    have HQ := Lib.hid h
    clear h
    go_wp2
    go_ret
    exact ⟨ret_int (by rw [HC.out, if_neg HQ.out]), rfl⟩

end Go.Proofs.Ytinfjbaloppgkaa
