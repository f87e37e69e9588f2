/-
  spec.l01Numbers.
-/
import Derived.Test.YtodabjolblamgaaField
import Derived.Test.YtodabjolblamgaaBaseMath
namespace Go.Proofs.Ytodabjolblamgaa
open Go.RowKit

set_option maxRecDepth 20000 in
set_option maxHeartbeats 400000 in
theorem numbers_any (p : Int) (b o n c : Nat) (xs : List Int) (w : World) (hn : n = xs.length) (hl : n ≤ 1048576) (hc : Cells w b o xs) :
    Calls Try.prog 77 #[.int .i64 p, .slice (some ⟨b, o, none⟩) n c] w fun e w' => e = .returned (.int .i64 (codeOf p (numsIn p xs))) ∧ w = w' := by
  by_cases hp : isP p = true
  · have hr := isP_range hp
    have HN := Lib.hid hn
    clear hn
    go_enter Try.func77, Try.ntmps77
    go_wp2_with (go_at_call 126; refine Calls.mono (field_any _ _) ?_; rintro e w' ⟨rfl, rfl⟩)
    go_loop [5] (fun d => ∃ k : Nat, k ≤ n ∧ d = .int .i64 k ∧ UpIn p xs k) (fun d => n - (intOf d).toNat)
    case atStart => exact ⟨0, by omega, rfl, UpIn.start _ _⟩
    case round =>
      obtain ⟨k, hk, rfl, hd⟩ := hrel
      by_cases hlt : k < n
      · have hcell := hc k (by have := HN.out; omega)
        obtain ⟨x, hx⟩ : ∃ x, x = xs.getD k 0 := ⟨_, rfl⟩
        rw [← hx] at hcell
        have HX := Lib.hid hx
        clear hx
        by_cases hin : inB x 0 (p - 1) = true
        · have H := Lib.hid (hd.next HX.out hin)
          go_wp2_with (go_at_call 127; refine Calls.mono (in_any _ _ _ _) ?_; rintro e w' ⟨rfl, rfl⟩)
          go_round
          case rel => exact ⟨k + 1, by omega, by go_num, H.out⟩
          case measure => simp [intOf]; omega
        · rw [Bool.not_eq_true] at hin
          have H := Lib.hid (numsIn_no (by have := HN.out; omega) HX.out hin)
          go_wp2_with (go_at_call 127; refine Calls.mono (in_any _ _ _ _) ?_; rintro e w' ⟨rfl, rfl⟩)
          go_ret
          exact ⟨ret_int (by rw [codeOf_out hp H.out]), rfl⟩
      · have H := Lib.hid (hd.all (by have := HN.out; omega))
        go_wp2
        go_ret
        exact ⟨ret_int (by rw [codeOf_in hp H.out]), rfl⟩
  · rw [Bool.not_eq_true] at hp
    go_enter Try.func77, Try.ntmps77
    go_wp2_with (go_at_call 126; refine Calls.mono (field_any _ _) ?_; rintro e w' ⟨rfl, rfl⟩)
    go_ret
    exact ⟨ret_int (by rw [codeOf_no hp]), rfl⟩

end Go.Proofs.Ytodabjolblamgaa
