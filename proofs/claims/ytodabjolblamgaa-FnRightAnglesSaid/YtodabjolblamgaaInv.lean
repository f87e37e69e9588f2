/-
  Inverses: spec.l01Inverse.
-/
import Derived.Test.YtodabjolblamgaaMod
namespace Go.Proofs.Ytodabjolblamgaa
open Go.RowKit

def PowRel (n r out base k : Nat) : Prop := out < n ∧ base < n ∧ out * base ^ k % n = r
theorem PowRel.bounds {n a b : Nat} (h : n ≤ 31) (ha : a < n) (hb : b < n) : 0 ≤ (a : Int) * b ∧ (a : Int) * b ≤ 961 := by
  have : a * b ≤ 31 * 31 := Nat.mul_le_mul (by omega) (by omega)
  have e : ((a * b : Nat) : Int) = (a : Int) * b := by simp
  omega
theorem PowRel.odd {n r out base k : Nat} (h : PowRel n r out base k) (hk : k % 2 = 1) : PowRel n r (out * base % n) (base * base % n) (k / 2) :=
  ⟨Nat.mod_lt _ (by have := h.1; omega), Nat.mod_lt _ (by have := h.1; omega), pow_step_odd hk h.2.2⟩
theorem PowRel.even {n r out base k : Nat} (h : PowRel n r out base k) (hk : k % 2 = 0) : PowRel n r out (base * base % n) (k / 2) :=
  ⟨h.1, Nat.mod_lt _ (by have := h.1; omega), pow_step_even hk h.2.2⟩
theorem PowRel.ends {n r out base : Nat} (h : PowRel n r out base 0) : out = r := by
  have h3 := h.2.2
  rw [Nat.pow_zero, Nat.mul_one, Nat.mod_eq_of_lt h.1] at h3
  exact h3

set_option maxRecDepth 20000 in
set_option maxHeartbeats 800000 in
theorem inverse_any (a p : Int) (w : World) (hp : isP p = true) (h3 : -1099511627776 ≤ a) (h4 : a ≤ 1099511627776) :
    Calls Try.prog 100 #[.int .i64 a, .int .i64 p] w fun e w' => e = .returned (.int .i64 (inv p a)) ∧ w = w' := by
  have hr := isP_range hp
  obtain ⟨n, rfl⟩ := Int.eq_ofNat_of_zero_le (by omega : 0 ≤ p)
  have hn := isP_ne hp
  have hm0 : 0 ≤ a % (n : Int) := Int.emod_nonneg _ (by omega)
  have hm1 : a % (n : Int) < n := Int.emod_lt_of_pos _ (by omega)
  obtain ⟨m, hm⟩ := Int.eq_ofNat_of_zero_le hm0
  have hmn : m < n := by omega
  have hpw := pow_inv hp hmn
  have hend : inv (n : Int) a = (invN n m : Int) := by
    unfold inv; rw [hm, Int.toNat_natCast, Int.toNat_natCast]
  have HE := Lib.hid hend
  have HS := Lib.hid (show PowRel n (invN n m) 1 m (n - 2) from ⟨by omega, hmn, by rw [Nat.one_mul]; exact hpw⟩)
  have HM := Lib.hid hm
  clear hend hm hpw hm0 hm1 hp hr
  go_enter Try.func100, Try.ntmps100
  go_wp2_with (go_at_call 99; refine (mod_any _ _ _ (by omega) (by omega) h3 h4).mono ?_; rw [HM.out]; rintro e w' ⟨rfl, rfl⟩)
  go_loop [5, 6, 7] (fun o b d => ∃ out base k : Nat, k ≤ 29 ∧ o = .int .i64 out ∧ b = .int .i64 base ∧ d = .int .i64 k ∧ PowRel n (invN n m) out base k) (fun _ _ d => (intOf d).toNat)
  case atStart => exact ⟨1, m, n - 2, by omega, rfl, rfl, by congr 1; omega, HS.out⟩
  case round =>
    obtain ⟨out, base, k, hk, rfl, rfl, rfl, hd⟩ := hrel
    have hb1 := PowRel.bounds hn.2 hd.1 hd.2.1
    have hb2 := PowRel.bounds hn.2 hd.2.1 hd.2.1
    by_cases hk0 : k = 0
    · subst hk0
      have H := Lib.hid hd.ends
      go_wp2
      go_ret
      exact ⟨ret_int (by rw [HE.out, H.out]), rfl⟩
    · have hk1 : (0 : Int) < k := by omega
      by_cases hk2 : k % 2 = 1
      · have hk2' : ((k : Int) % 2 == 1) = true := by rw [beq_iff_eq]; omega
        have H := Lib.hid (hd.odd hk2)
        have HK := Lib.hid hk0
        clear hk0 hk2
        go_wp2
        go_round
        case rel => exact ⟨out * base % n, base * base % n, k / 2, by omega, by simp, by simp, by simp, H.out⟩
        case measure => have := HK.out; simp [intOf]; omega
      · have hk2' : ((k : Int) % 2 == 1) = false := by rw [beq_eq_false_iff_ne]; omega
        have H := Lib.hid (hd.even (by omega))
        have HK := Lib.hid hk0
        clear hk0 hk2
        go_wp2
        go_round
        case rel => exact ⟨out, base * base % n, k / 2, by omega, rfl, by simp, by simp, H.out⟩
        case measure => have := HK.out; simp [intOf]; omega

end Go.Proofs.Ytodabjolblamgaa
