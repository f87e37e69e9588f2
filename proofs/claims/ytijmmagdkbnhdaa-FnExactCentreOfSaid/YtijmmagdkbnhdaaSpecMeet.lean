/-
  The model's meet: spec.l01Meet.
-/
import Derived.Test.YtijmmagdkbnhdaaInv
import Derived.Test.YtijmmagdkbnhdaaBaseMath
namespace Go.Proofs.Ytijmmagdkbnhdaa
open Go.RowKit

def meetB (p l1 l2 m1 m2 : Int) : Bool := !(detM l1 l2 m1 m2 % p == 0)
def mtX (p l1 l2 l3 m1 m2 m3 : Int) : Int := if detM l1 l2 m1 m2 % p = 0 then 0 else meX p l1 l2 l3 m1 m2 m3
def mtY (p l1 l2 l3 m1 m2 m3 : Int) : Int := if detM l1 l2 m1 m2 % p = 0 then 0 else meY p l1 l2 l3 m1 m2 m3

set_option maxRecDepth 20000 in
set_option maxHeartbeats 2000000 in
theorem specMeet_any (p l1 l2 l3 m1 m2 m3 : Int) (w : World) (hp : isP p = true) (h1 : 0 ≤ l1 ∧ l1 ≤ 31) (h2 : 0 ≤ l2 ∧ l2 ≤ 31) (h3 : 0 ≤ l3 ∧ l3 ≤ 31) (g1 : 0 ≤ m1 ∧ m1 ≤ 31) (g2 : 0 ≤ m2 ∧ m2 ≤ 31) (g3 : 0 ≤ m3 ∧ m3 ≤ 31) :
    Calls Try.prog 81 #[.int .i64 p, .agg #[.int .i64 l1, .int .i64 l2, .int .i64 l3], .agg #[.int .i64 m1, .int .i64 m2, .int .i64 m3]] w fun e w' =>
      e = .returned (.tuple #[.agg #[.int .i64 (mtX p l1 l2 l3 m1 m2 m3), .int .i64 (mtY p l1 l2 l3 m1 m2 m3)], .bool (meetB p l1 l2 m1 m2)]) ∧ Below w.heap.size w w' := by
  have hr := isP_range hp
  have ltA : w.heap.size < w.heap.size + 1 + 1 + 1 := by omega
  have ltB : w.heap.size + 1 < w.heap.size + 1 + 1 + 1 := by omega
  have b1 := mulP h1 g2
  have b2 := mulP h2 g1
  have b3 := mulP h2 g3
  have b4 := mulP g2 h3
  have b5 := mulP g1 h3
  have b6 := mulP h1 g3
  cases hd : ((l1 * m2 - l2 * m1) % p == 0)
  · have HD : ¬ (detM l1 l2 m1 m2 % p = 0) := by rw [beq_eq_false_iff_ne] at hd; exact hd
    obtain ⟨d, hdd⟩ : ∃ d, d = inv p ((l1 * m2 - l2 * m1) % p) := ⟨_, rfl⟩
    have hd31 := invR31 ((l1 * m2 - l2 * m1) % p) hp
    rw [← hdd] at hd31
    have t1 := tmod_bounds (l2 * m3 - m2 * l3) p (by omega)
    have t2 := tmod_bounds (m1 * l3 - l1 * m3) p (by omega)
    have hpos : p ≠ 0 := by omega
    have c1 := mulB (a := (l2 * m3 - m2 * l3).tmod p) (b := d) (by omega) (by omega)
    have c2 := mulB (a := (m1 * l3 - l1 * m3).tmod p) (b := d) (by omega) (by omega)
    have e1 : IntKind.i64.wrap (l2 * m3) = l2 * m3 := wrapI _ (by omega)
    have e2 : IntKind.i64.wrap (m2 * l3) = m2 * l3 := wrapI _ (by omega)
    have e3 : IntKind.i64.wrap (l2 * m3 - m2 * l3) = l2 * m3 - m2 * l3 := wrapI _ (by omega)
    have e4 : IntKind.i64.wrap ((l2 * m3 - m2 * l3).tmod p * d) = (l2 * m3 - m2 * l3).tmod p * d := wrapI _ (by omega)
    have e5 : IntKind.i64.wrap (m1 * l3) = m1 * l3 := wrapI _ (by omega)
    have e6 : IntKind.i64.wrap (l1 * m3) = l1 * m3 := wrapI _ (by omega)
    have e7 : IntKind.i64.wrap (m1 * l3 - l1 * m3) = m1 * l3 - l1 * m3 := wrapI _ (by omega)
    have e8 : IntKind.i64.wrap ((m1 * l3 - l1 * m3).tmod p * d) = (m1 * l3 - l1 * m3).tmod p * d := wrapI _ (by omega)
    have HV := Lib.hid (show mtX p l1 l2 l3 m1 m2 m3 = (l2 * m3 - m2 * l3).tmod p * d % p ∧ mtY p l1 l2 l3 m1 m2 m3 = (m1 * l3 - l1 * m3).tmod p * d % p ∧ meetB p l1 l2 m1 m2 = true by
      refine ⟨?_, ?_, ?_⟩
      · rw [mtX, if_neg HD, hdd]; exact (meX_spec p l1 l2 l3 m1 m2 m3).symm
      · rw [mtY, if_neg HD, hdd]; exact (meY_spec p l1 l2 l3 m1 m2 m3).symm
      · rw [meetB, beq_eq_false_iff_ne.2 HD]; rfl)
    have HH := Lib.hid hdd
    have md := modR31 (l1 * m2 - l2 * m1) hp
    clear hdd HD
    go_enter Try.func81, Try.ntmps81
    (go_wp2_with fail; refine Calls.mono (mod_any _ _ _ (by omega) (by omega) (by omega) (by omega)) ?_; rintro e w' ⟨rfl, rfl⟩)
    go_wp2_with fail
    refine Calls.mono (inverse_any _ _ _ hp (by omega) (by omega)) ?_
    rw [← HH.out]
    rintro e w' ⟨rfl, rfl⟩
    go_wp2_with fail
    (refine region_tail 35 (by kernel_rfl) (by kernel_rfl) ?_; simp only [List.take_succ_cons, List.take_zero, List.drop_succ_cons, List.drop_zero]; repeat still_step)
    (still_call (stillOf (mod_any _ _ _ (by omega) (by omega) (by omega) (by omega))); repeat still_step)
    (still_call (stillOf (mod_any _ _ _ (by omega) (by omega) (by omega) (by omega))); repeat still_step)
    refine wpStill_nil ?_
    go_wp2
    (refine bodyPost_ret (v := .tuple #[.agg #[.int .i64 (mtX p l1 l2 l3 m1 m2 m3), .int .i64 (mtY p l1 l2 l3 m1 m2 m3)], .bool (meetB p l1 l2 m1 m2)]) (by simp [results, Try.results81, go_sem, HV.out.1, HV.out.2.1, HV.out.2.2, *]) rfl ⟨?_, ?_⟩)
    · rfl
    · (repeat (first | exact Below.refl _ _ | assumption | refine balloc ?_ _ | refine bdrewN ?_ _ | refine Below.drew ?_ | refine Below.setCell ?_ (by first | (simp; done) | (simp; omega)) _))
  · have HD : detM l1 l2 m1 m2 % p = 0 := by rw [beq_iff_eq] at hd; exact hd
    have HV := Lib.hid (show mtX p l1 l2 l3 m1 m2 m3 = 0 ∧ mtY p l1 l2 l3 m1 m2 m3 = 0 ∧ meetB p l1 l2 m1 m2 = false by simp [mtX, mtY, meetB, HD])
    clear HD
    go_enter Try.func81, Try.ntmps81
    (go_wp2_with fail; refine Calls.mono (mod_any _ _ _ (by omega) (by omega) (by omega) (by omega)) ?_; rintro e w' ⟨rfl, rfl⟩)
    go_wp2
    (refine bodyPost_ret (v := .tuple #[.agg #[.int .i64 (mtX p l1 l2 l3 m1 m2 m3), .int .i64 (mtY p l1 l2 l3 m1 m2 m3)], .bool (meetB p l1 l2 m1 m2)]) (by simp [results, Try.results81, go_sem, HV.out.1, HV.out.2.1, HV.out.2.2, *]) rfl ⟨?_, ?_⟩)
    · rfl
    · (repeat (first | exact Below.refl _ _ | assumption | refine balloc ?_ _ | refine bdrewN ?_ _ | refine Below.drew ?_ | refine Below.setCell ?_ (by first | (simp; done) | (simp; omega)) _))

end Go.Proofs.Ytijmmagdkbnhdaa
