/-
  impl.areNumbers.
-/
import Derived.Test.YtodabjolblamgaaField
import Derived.Test.YtodabjolblamgaaBaseMath
namespace Go.Proofs.Ytodabjolblamgaa
open Go.RowKit

set_option maxRecDepth 20000 in
set_option maxHeartbeats 400000 in
theorem areNums_any (p : Int) (b o n c : Nat) (xs : List Int) (w : World) (hn : n = xs.length) (hl : n ≤ 1048576) (hc : Cells w b o xs) :
    Calls Try.prog 72 #[.int .i64 p, .slice (some ⟨b, o, none⟩) n c] w fun e w' => e = .returned (.bool (numsIn p xs)) ∧ w = w' := by
  have HN := Lib.hid hn
  clear hn
  go_enter Try.func72, Try.ntmps72
  go_wp2
  go_loop [6, 9] (fun _ d => ∃ k : Nat, k ≤ n ∧ d = .int .i64 k ∧ UpIn p xs k) (fun _ d => n - (intOf d).toNat)
  case atStart => exact ⟨0, by omega, rfl, UpIn.start _ _⟩
  case round =>
    obtain ⟨k, hk, rfl, hd⟩ := hrel
    by_cases hlt : k < n
    · have hcell := hc k (by have := HN.out; omega)
      obtain ⟨x, hx⟩ : ∃ x, x = xs.getD k 0 := ⟨_, rfl⟩
      rw [← hx] at hcell
      have HX := Lib.hid hx
      clear hx
      by_cases hx0 : x < 0
      · have H := Lib.hid (numsIn_no (p := p) (by have := HN.out; omega) HX.out (inB_false (by omega)))
        go_wp2
        go_ret
        exact ⟨ret_bool (by rw [H.out]), rfl⟩
      · by_cases hxp : p ≤ x
        · have H := Lib.hid (numsIn_no (p := p) (by have := HN.out; omega) HX.out (inB_false (by omega)))
          go_wp2
          go_ret
          exact ⟨ret_bool (by rw [H.out]), rfl⟩
        · have H := Lib.hid (hd.next HX.out (inB_true (by omega)))
          go_wp2
          go_round
          case rel => exact ⟨k + 1, by omega, by go_num, H.out⟩
          case measure => simp [intOf]; omega
    · have H := Lib.hid (hd.all (by have := HN.out; omega))
      go_wp2
      go_ret
      exact ⟨ret_bool (by rw [H.out]), rfl⟩

end Go.Proofs.Ytodabjolblamgaa
