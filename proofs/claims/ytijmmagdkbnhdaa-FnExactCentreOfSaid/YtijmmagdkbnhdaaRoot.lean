/-
  Roots: impl.leastRoot, spec.l01Root.
-/
import Derived.Test.YtijmmagdkbnhdaaField
import Derived.Test.YtijmmagdkbnhdaaBaseMath
namespace Go.Proofs.Ytijmmagdkbnhdaa
open Go.RowKit

set_option maxRecDepth 20000 in
set_option maxHeartbeats 400000 in
theorem leastRoot_any (p a : Int) (w : World) (h0 : 0 ≤ p) (h31 : p ≤ 31) :
    Calls Try.prog 130 #[.int .i64 p, .int .i64 a] w fun e w' => e = .returned (.tuple #[.int .i64 (rootV p a), .bool (rootB p a)]) ∧ w = w' := by
  obtain ⟨n, rfl⟩ := Int.eq_ofNat_of_zero_le h0
  go_enter Try.func130, Try.ntmps130
  go_wp2
  go_loop [6, 8] (fun _ d => ∃ k : Nat, k ≤ n ∧ d = .int .i64 k ∧ NoYes (isRoot n a) k) (fun _ d => n - (intOf d).toNat)
  case atStart => exact ⟨0, by omega, rfl, NoYes.start _⟩
  case round =>
    obtain ⟨k, hk, rfl, hd⟩ := hrel
    by_cases hlt : k < n
    · have hb1 : 0 ≤ (k : Int) * k := Int.mul_nonneg (by omega) (by omega)
      have hb2 : (k : Int) * k ≤ 31 * 31 := Int.mul_le_mul (by omega) (by omega) (by omega) (by omega)
      by_cases ht : isRoot n a k = true
      · have ht' : ((k : Int) * k % n == a) = true := ht
        have H := Lib.hid (root_some hd hlt ht)
        clear ht
        go_wp2
        go_ret2
        exact ⟨ret_ib H.out.1.symm H.out.2.symm, rfl⟩
      · rw [Bool.not_eq_true] at ht
        have ht' : ((k : Int) * k % n == a) = false := ht
        have H := Lib.hid (hd.next ht)
        clear ht
        go_wp2
        go_round
        case rel => exact ⟨k + 1, by omega, by go_num, H.out⟩
        case measure => simp [intOf]; omega
    · have H := Lib.hid (root_none (n := n) hd (by omega))
      go_wp2
      go_ret2
      exact ⟨ret_ib H.out.1.symm H.out.2.symm, rfl⟩

set_option maxRecDepth 20000 in
set_option maxHeartbeats 400000 in
theorem specRoot_any (a p : Int) (w : World) (h0 : 0 ≤ p) (h31 : p ≤ 31) :
    Calls Try.prog 147 #[.int .i64 a, .int .i64 p] w fun e w' => e = .returned (.tuple #[.int .i64 (rootV p a), .bool (rootB p a)]) ∧ w = w' := by
  obtain ⟨n, rfl⟩ := Int.eq_ofNat_of_zero_le h0
  go_enter Try.func147, Try.ntmps147
  go_wp2
  go_loop [6] (fun d => ∃ k : Nat, k ≤ n ∧ d = .int .i64 k ∧ NoYes (isRoot n a) k) (fun d => n - (intOf d).toNat)
  case atStart => exact ⟨0, by omega, rfl, NoYes.start _⟩
  case round =>
    obtain ⟨k, hk, rfl, hd⟩ := hrel
    by_cases hlt : k < n
    · have hb1 : 0 ≤ (k : Int) * k := Int.mul_nonneg (by omega) (by omega)
      have hb2 : (k : Int) * k ≤ 31 * 31 := Int.mul_le_mul (by omega) (by omega) (by omega) (by omega)
      by_cases ht : isRoot n a k = true
      · have ht' : ((k : Int) * k % n == a) = true := ht
        have H := Lib.hid (root_some hd hlt ht)
        clear ht
        go_wp2
        go_ret2
        exact ⟨ret_ib H.out.1.symm H.out.2.symm, rfl⟩
      · rw [Bool.not_eq_true] at ht
        have ht' : ((k : Int) * k % n == a) = false := ht
        have H := Lib.hid (hd.next ht)
        clear ht
        go_wp2
        go_round
        case rel => exact ⟨k + 1, by omega, by go_num, H.out⟩
        case measure => simp [intOf]; omega
    · have H := Lib.hid (root_none (n := n) hd (by omega))
      go_wp2
      go_ret2
      exact ⟨ret_ib H.out.1.symm H.out.2.symm, rfl⟩

end Go.Proofs.Ytijmmagdkbnhdaa
