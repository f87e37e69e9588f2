/-
  Inverses: impl.inverse.
-/
import Derived.Test.YtibfbdgenamlkaaFieldq
import Derived.Test.YtibfbdgenamlkaaMgq0

namespace Go.Proofs.Ytibfbdgenamlkaa
open Go.RowKit

set_option maxRecDepth 20000 in
set_option maxHeartbeats 400000 in
theorem implInverse_any (a p : Int) (w : World) (hp : isP p = true) (h3 : 0 ≤ a) (h4 : a ≤ 1099511627776) :
    Calls Try.prog 82 #[.int .i64 p, .int .i64 a] w fun e w' => e = .returned (.int .i64 (inv p a)) ∧ w = w' := by
  have hr := isP_range hp
  obtain ⟨n, rfl⟩ := Int.eq_ofNat_of_zero_le (by omega : 0 ≤ p)
  obtain ⟨m, rfl⟩ := Int.eq_ofNat_of_zero_le h3
  have hn := isP_ne hp
  have HE := Lib.hid (inv_cast n m)
  clear hp hr
  go_enter Try.func82, Try.ntmps82
  go_wp2
  go_loop [5, 7] (fun _ d => ∃ k : Nat, k ≤ n ∧ d = .int .i64 k ∧ NoYes (fun b => m * b % n == 1) k) (fun _ d => n - (intOf d).toNat)
  case atStart => exact ⟨0, by omega, rfl, NoYes.start _⟩
  case round =>
    obtain ⟨k, hk, rfl, hd⟩ := hrel
    by_cases hlt : k < n
    · have hb1 : 0 ≤ (m : Int) * k := Int.mul_nonneg (by omega) (by omega)
      have hb2 : (m : Int) * k ≤ 1099511627776 * 31 := Int.mul_le_mul (by omega) (by omega) (by omega) (by omega)
      have ec : ((m * k % n : Nat) : Int) = (m : Int) * k % n := by simp
      by_cases ht : m * k % n = 1
      · have ht' : ((m : Int) * k % n == 1) = true := by rw [beq_iff_eq]; omega
        have H := Lib.hid (find_some (f := fun b => m * b % n == 1) hd hlt (by simpa using ht))
        clear ht ec
        go_wp2
        go_ret
        exact ⟨ret_int (by rw [HE.out, invN, H.out]; rfl), rfl⟩
      · have ht' : ((m : Int) * k % n == 1) = false := by rw [beq_eq_false_iff_ne]; omega
        have H := Lib.hid (hd.next (by simpa using ht))
        clear ht ec
        go_wp2
        go_round
        case rel => exact ⟨k + 1, by omega, by go_num, H.out⟩
        case measure => simp [intOf]; omega
    · have H := Lib.hid (find_none (n := n) hd (by omega))
      go_wp2
      go_ret
      exact ⟨ret_int (by rw [HE.out, invN, H.out]; rfl), rfl⟩

end Go.Proofs.Ytibfbdgenamlkaa
