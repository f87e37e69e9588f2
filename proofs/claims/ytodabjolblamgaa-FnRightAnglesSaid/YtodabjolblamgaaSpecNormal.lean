/-
  The model's lines: spec.l01Normal, spec.l01Through.
-/
import Derived.Test.YtodabjolblamgaaInv
import Derived.Test.YtodabjolblamgaaBaseMath
namespace Go.Proofs.Ytodabjolblamgaa
open Go.RowKit

set_option maxRecDepth 20000 in
set_option maxHeartbeats 1000000 in
theorem normal_any (p a b c : Int) (w : World) (hp : isP p = true) (ha : -8192 ≤ a ∧ a ≤ 8192) (hb : -8192 ≤ b ∧ b ≤ 8192) (hc : -8192 ≤ c ∧ c ≤ 8192) :
    Calls Try.prog 128 #[.int .i64 p, .int .i64 a, .int .i64 b, .int .i64 c] w fun e w' =>
      e = .returned (.agg #[.int .i64 (mk1 p a b c), .int .i64 (mk2 p a b c), .int .i64 (mk3 p a b c)]) ∧ Below w.heap.size w w' := by
  have hr := isP_range hp
  obtain ⟨d, hd⟩ : ∃ d, d = nrm p a b := ⟨_, rfl⟩
  have hd31 : 0 ≤ d ∧ d ≤ 31 := by rw [hd]; exact nrm_range a b hp
  have m1 := mulB (a := a) (b := d) ha (by omega)
  have m2 := mulB (a := b) (b := d) hb (by omega)
  have m3 := mulB (a := c) (b := d) hc (by omega)
  have HV := Lib.hid (show mk1 p a b c = a * d % p ∧ mk2 p a b c = b * d % p ∧ mk3 p a b c = c * d % p by rw [hd]; exact ⟨rfl, rfl, rfl⟩)
  by_cases h : a % p = 0
  · have HD := Lib.hid (show inv p (b % p) = d by rw [hd, nrm, if_pos h, inv_mod])
    have hz : (a % p == 0) = true := by rw [beq_iff_eq]; exact h
    have hb2 := modR31 b hp
    clear hd h
    go_enter Try.func128, Try.ntmps128
    (go_wp2_with fail; refine Calls.mono (mod_any _ _ _ (by omega) (by omega) (by omega) (by omega)) ?_; rintro e w' ⟨rfl, rfl⟩)
    (go_wp2_with fail; refine Calls.mono (mod_any _ _ _ (by omega) (by omega) (by omega) (by omega)) ?_; rintro e w' ⟨rfl, rfl⟩)
    go_wp2_with fail
    refine Calls.mono (inverse_any _ _ _ hp (by omega) (by omega)) ?_
    rw [HD.out]
    rintro e w' ⟨rfl, rfl⟩
    (go_wp2_with fail; refine Calls.mono (mod_any _ _ _ (by omega) (by omega) (by omega) (by omega)) ?_; rintro e w' ⟨rfl, rfl⟩)
    (go_wp2_with fail; refine Calls.mono (mod_any _ _ _ (by omega) (by omega) (by omega) (by omega)) ?_; rintro e w' ⟨rfl, rfl⟩)
    (go_wp2_with fail; refine Calls.mono (mod_any _ _ _ (by omega) (by omega) (by omega) (by omega)) ?_; rintro e w' ⟨rfl, rfl⟩)
    go_wp2
    (refine bodyPost_ret (v := .agg #[.int .i64 (mk1 p a b c), .int .i64 (mk2 p a b c), .int .i64 (mk3 p a b c)]) (by simp [results, Try.results128, go_sem, HV.out.1, HV.out.2.1, HV.out.2.2]) rfl ⟨?_, ?_⟩)
    · rfl
    · (repeat (first | exact Below.refl _ _ | assumption | refine balloc ?_ _ | refine bdrewN ?_ _ | refine Below.drew ?_ | refine Below.setCell ?_ (by first | (simp; done) | (simp; omega)) _))
  · have HD := Lib.hid (show inv p (a % p) = d by rw [hd, nrm, if_neg h, inv_mod])
    have hz : (a % p == 0) = false := by rw [beq_eq_false_iff_ne]; exact h
    have ha2 := modR31 a hp
    clear hd h
    go_enter Try.func128, Try.ntmps128
    (go_wp2_with fail; refine Calls.mono (mod_any _ _ _ (by omega) (by omega) (by omega) (by omega)) ?_; rintro e w' ⟨rfl, rfl⟩)
    go_wp2_with fail
    refine Calls.mono (inverse_any _ _ _ hp (by omega) (by omega)) ?_
    rw [HD.out]
    rintro e w' ⟨rfl, rfl⟩
    (go_wp2_with fail; refine Calls.mono (mod_any _ _ _ (by omega) (by omega) (by omega) (by omega)) ?_; rintro e w' ⟨rfl, rfl⟩)
    (go_wp2_with fail; refine Calls.mono (mod_any _ _ _ (by omega) (by omega) (by omega) (by omega)) ?_; rintro e w' ⟨rfl, rfl⟩)
    (go_wp2_with fail; refine Calls.mono (mod_any _ _ _ (by omega) (by omega) (by omega) (by omega)) ?_; rintro e w' ⟨rfl, rfl⟩)
    go_wp2
    (refine bodyPost_ret (v := .agg #[.int .i64 (mk1 p a b c), .int .i64 (mk2 p a b c), .int .i64 (mk3 p a b c)]) (by simp [results, Try.results128, go_sem, HV.out.1, HV.out.2.1, HV.out.2.2]) rfl ⟨?_, ?_⟩)
    · rfl
    · (repeat (first | exact Below.refl _ _ | assumption | refine balloc ?_ _ | refine bdrewN ?_ _ | refine Below.drew ?_ | refine Below.setCell ?_ (by first | (simp; done) | (simp; omega)) _))

end Go.Proofs.Ytodabjolblamgaa
