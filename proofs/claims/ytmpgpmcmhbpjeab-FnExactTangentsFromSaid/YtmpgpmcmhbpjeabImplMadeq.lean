/-
  impl.lineMadeBy.
-/
import Derived.Test.YtmpgpmcmhbpjeabImplInvq
import Derived.Test.YtmpgpmcmhbpjeabMgq0

namespace Go.Proofs.Ytmpgpmcmhbpjeab
open Go.RowKit

set_option maxRecDepth 20000 in
set_option maxHeartbeats 400000 in
theorem lineMadeBy_any (p a b c : Int) (w : World) (hp : isP p = true) (ha : 0 ≤ a ∧ a < p) (hb : 0 ≤ b ∧ b < p) (hc : 0 ≤ c ∧ c < p) :
    Calls Try.prog 109 #[.int .i64 p, .int .i64 a, .int .i64 b, .int .i64 c] w fun e w' =>
      e = .returned (.agg #[.int .i64 (mk1 p a b c), .int .i64 (mk2 p a b c), .int .i64 (mk3 p a b c)]) ∧ Below w.heap.size w w' := by
  have hr := isP_range hp
  obtain ⟨d, hd⟩ : ∃ d, d = nrm p a b := ⟨_, rfl⟩
  have hd31 : 0 ≤ d ∧ d ≤ 31 := by rw [hd]; exact nrm_range a b hp
  have m1 := mulP (a := a) (b := d) (by omega) hd31
  have m2 := mulP (a := b) (b := d) (by omega) hd31
  have m3 := mulP (a := c) (b := d) (by omega) hd31
  have e1 : IntKind.i64.wrap (a * d) = a * d := wrapI _ (by omega)
  have e2 : IntKind.i64.wrap (b * d) = b * d := wrapI _ (by omega)
  have e3 : IntKind.i64.wrap (c * d) = c * d := wrapI _ (by omega)
  have t1 : (a * d).tmod p = a * d % p := Int.tmod_eq_emod_of_nonneg m1.1
  have t2 : (b * d).tmod p = b * d % p := Int.tmod_eq_emod_of_nonneg m2.1
  have t3 : (c * d).tmod p = c * d % p := Int.tmod_eq_emod_of_nonneg m3.1
  have hpos : p ≠ 0 := by omega
  have HV := Lib.hid (show mk1 p a b c = a * d % p ∧ mk2 p a b c = b * d % p ∧ mk3 p a b c = c * d % p by rw [hd]; exact ⟨rfl, rfl, rfl⟩)
  by_cases h : a = 0
  · have HD := Lib.hid (show inv p b = d by rw [hd, nrm, if_pos (by rw [h]; rfl)])
    clear hd
    subst h
    go_enter Try.func109, Try.ntmps109
    go_wp2_with fail
    refine Calls.mono (implInverse_any b p _ hp (by omega) (by omega)) ?_
    rw [HD.out]
    rintro e w' ⟨rfl, rfl⟩
    go_wp2_with fail
    (refine region_tail 16 (by kernel_rfl) (by kernel_rfl) ?_; simp only [List.take_succ_cons, List.take_zero, List.drop_succ_cons, List.drop_zero]; repeat still_step)
    refine wpStill_nil ?_
    go_wp2
    (refine bodyPost_ret (v := .agg #[.int .i64 (mk1 p 0 b c), .int .i64 (mk2 p 0 b c), .int .i64 (mk3 p 0 b c)]) (by simp [results, Try.results109, go_sem, HV.out.1, HV.out.2.1, HV.out.2.2]) rfl ⟨?_, ?_⟩)
    · rfl
    · (repeat (first | exact Below.refl _ _ | assumption | refine balloc ?_ _ | refine bdrewN ?_ _ | refine Below.drew ?_ | refine Below.setCell ?_ (by first | (simp; done) | (simp; omega)) _))
  · have HD := Lib.hid (show inv p a = d by rw [hd, nrm, if_neg (by rw [Int.emod_eq_of_lt (by omega) (by omega)]; exact h)])
    have h' : (a == 0) = false := by rw [beq_eq_false_iff_ne]; exact h
    clear hd h
    go_enter Try.func109, Try.ntmps109
    go_wp2_with fail
    refine Calls.mono (implInverse_any a p _ hp (by omega) (by omega)) ?_
    rw [HD.out]
    rintro e w' ⟨rfl, rfl⟩
    go_wp2_with fail
    (refine region_tail 16 (by kernel_rfl) (by kernel_rfl) ?_; simp only [List.take_succ_cons, List.take_zero, List.drop_succ_cons, List.drop_zero]; repeat still_step)
    refine wpStill_nil ?_
    go_wp2
    (refine bodyPost_ret (v := .agg #[.int .i64 (mk1 p a b c), .int .i64 (mk2 p a b c), .int .i64 (mk3 p a b c)]) (by simp [results, Try.results109, go_sem, HV.out.1, HV.out.2.1, HV.out.2.2]) rfl ⟨?_, ?_⟩)
    · rfl
    · (repeat (first | exact Below.refl _ _ | assumption | refine balloc ?_ _ | refine bdrewN ?_ _ | refine Below.drew ?_ | refine Below.setCell ?_ (by first | (simp; done) | (simp; omega)) _))

end Go.Proofs.Ytmpgpmcmhbpjeab
