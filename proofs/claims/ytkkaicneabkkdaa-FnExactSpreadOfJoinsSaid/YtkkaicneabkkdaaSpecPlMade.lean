/-
  spec.l09Made.
-/
import Derived.Test.YtkkaicneabkkdaaPlMath
import Derived.Test.YtkkaicneabkkdaaInv
import Derived.Test.YtkkaicneabkkdaaMod
import Derived.Deep.RegionHeld3
import Derived.Deep.DeepCutAuto
import Derived.Test.YtkkaicneabkkdaaBaseMath
namespace Go.Proofs.Ytkkaicneabkkdaa
open Go.RowKit

set_option linter.unusedVariables false in
set_option linter.unusedSimpArgs false in
set_option maxRecDepth 20000 in
set_option maxHeartbeats 4000000 in
theorem specPlMade_any (p x y z : Int)  (w : World) (hp : isP p = true) (hx : -8192 ≤ x ∧ x ≤ 8192) (hy : -8192 ≤ y ∧ y ≤ 8192) (hz : -8192 ≤ z ∧ z ≤ 8192) :
    Calls Try.prog 72 #[.int .i64 p, .int .i64 x, .int .i64 y, .int .i64 z] w fun e w' =>
      e = .returned (.agg #[.int .i64 (ck p (x % p) (y % p) (z % p) (x % p)), .int .i64 (ck p (x % p) (y % p) (z % p) (y % p)), .int .i64 (ck p (x % p) (y % p) (z % p) (z % p))]) ∧ Below w.heap.size w w' := by
  have hr := isP_range hp
  obtain ⟨v1, hv1⟩ : ∃ v : Int, v = x % p := ⟨_, rfl⟩
  have rv1 := modR x hp
  rw [← hv1] at rv1
  have Hv1 := Lib.hid hv1
  clear hv1
  obtain ⟨v2, hv2⟩ : ∃ v : Int, v = y % p := ⟨_, rfl⟩
  have rv2 := modR y hp
  rw [← hv2] at rv2
  have Hv2 := Lib.hid hv2
  clear hv2
  obtain ⟨v3, hv3⟩ : ∃ v : Int, v = z % p := ⟨_, rfl⟩
  have rv3 := modR z hp
  rw [← hv3] at rv3
  have Hv3 := Lib.hid hv3
  clear hv3
  go_enter Try.func72, Try.ntmps72
  go_wp2_with fail
  refine Calls.mono (mod_any _ _ _ (by omega) (by omega) (by omega) (by omega)) ?_
  rw [← Hv1.out]
  rintro e w' ⟨rfl, rfl⟩
  go_wp2_with fail
  refine Calls.mono (mod_any _ _ _ (by omega) (by omega) (by omega) (by omega)) ?_
  rw [← Hv2.out]
  rintro e w' ⟨rfl, rfl⟩
  go_wp2_with fail
  refine Calls.mono (mod_any _ _ _ (by omega) (by omega) (by omega) (by omega)) ?_
  rw [← Hv3.out]
  rintro e w' ⟨rfl, rfl⟩
  rcases bool_ways (v1 == 0) with hd1 | hd1
  · have hd1n : (v1 != 0) = true := by rw [bne, hd1]; rfl
    have Hhd1p := Lib.hid (beq_eq_false_iff_ne.1 hd1)
    obtain ⟨v4, hv4⟩ : ∃ v : Int, v = inv p v1 := ⟨_, rfl⟩
    have rv4 := inv_range v1 hp
    rw [← hv4] at rv4
    have Hv4 := Lib.hid hv4
    clear hv4
    have mu_1 := mulNN 30 30 900 (by decide) (a := v1) (b := v4) (by omega) (by omega)
    have e_1 : IntKind.i64.wrap (v1 * v4) = v1 * v4 := wrapI _ (by omega)
    have d_2 := modR (v1 * v4) hp
    have t_2 : (v1 * v4).tmod p = (v1 * v4) % p := Int.tmod_eq_emod_of_nonneg (by omega)
    have hpos : p ≠ 0 := by omega
    have mu_2 := mulNN 30 30 900 (by decide) (a := v2) (b := v4) (by omega) (by omega)
    have e_3 : IntKind.i64.wrap (v2 * v4) = v2 * v4 := wrapI _ (by omega)
    have d_4 := modR (v2 * v4) hp
    have t_4 : (v2 * v4).tmod p = (v2 * v4) % p := Int.tmod_eq_emod_of_nonneg (by omega)
    have mu_3 := mulNN 30 30 900 (by decide) (a := v3) (b := v4) (by omega) (by omega)
    have e_5 : IntKind.i64.wrap (v3 * v4) = v3 * v4 := wrapI _ (by omega)
    have d_6 := modR (v3 * v4) hp
    have t_6 : (v3 * v4).tmod p = (v3 * v4) % p := Int.tmod_eq_emod_of_nonneg (by omega)
    go_wp2_with fail
    refine Calls.mono (inverse_any _ _ _ hp (by omega) (by omega)) ?_
    rw [← Hv4.out]
    rintro e w' ⟨rfl, rfl⟩
    go_wp2_with fail
    (refine region_tail 19 (by kernel_rfl) (by kernel_rfl) ?_; simp only [List.take_succ_cons, List.take_zero, List.drop_succ_cons, List.drop_zero]; repeat still_step)
    refine wpStill_nil ?_
    have g1 := hd1
    (try simp only [Hv4.out, Hv3.out, Hv2.out, Hv1.out] at g1)
    have HV := Lib.hid (show ck p (x % p) (y % p) (z % p) (x % p) = (v1 * v4) % p ∧ ck p (x % p) (y % p) (z % p) (y % p) = (v2 * v4) % p ∧ ck p (x % p) (y % p) (z % p) (z % p) = (v3 * v4) % p from by
      simp only [Hv4.out, Hv3.out, Hv2.out, Hv1.out, ck, ld3, g1, if_true, if_false, Bool.false_eq_true] <;> simp)
    go_wp2
    (refine bodyPost_ret (v := .agg #[.int .i64 (ck p (x % p) (y % p) (z % p) (x % p)), .int .i64 (ck p (x % p) (y % p) (z % p) (y % p)), .int .i64 (ck p (x % p) (y % p) (z % p) (z % p))]) (by simp [results, Try.results72, go_sem, HV.out.1, HV.out.2.1, HV.out.2.2, *]) rfl ⟨?_, ?_⟩)
    · rfl
    · (repeat (first | with_reducible exact Below.refl _ _ | with_reducible refine balloc ?_ _ | with_reducible refine bdrewN ?_ _ | with_reducible refine Below.drew ?_ | with_reducible refine bthen ?_ (by with_reducible assumption) | with_reducible refine Below.setCell ?_ (by first | (simp; done) | (simp; omega)) _))
  · have hd1n : (v1 != 0) = false := by rw [bne, hd1]; rfl
    have Hhd1p := Lib.hid (beq_iff_eq.1 hd1)
    rcases bool_ways (v2 == 0) with hd2 | hd2
    · have hd2n : (v2 != 0) = true := by rw [bne, hd2]; rfl
      have Hhd2p := Lib.hid (beq_eq_false_iff_ne.1 hd2)
      obtain ⟨v4, hv4⟩ : ∃ v : Int, v = inv p v2 := ⟨_, rfl⟩
      have rv4 := inv_range v2 hp
      rw [← hv4] at rv4
      have Hv4 := Lib.hid hv4
      clear hv4
      have mu_1 := mulNN 30 30 900 (by decide) (a := v1) (b := v4) (by omega) (by omega)
      have e_1 : IntKind.i64.wrap (v1 * v4) = v1 * v4 := wrapI _ (by omega)
      have d_2 := modR (v1 * v4) hp
      have t_2 : (v1 * v4).tmod p = (v1 * v4) % p := Int.tmod_eq_emod_of_nonneg (by omega)
      have hpos : p ≠ 0 := by omega
      have mu_2 := mulNN 30 30 900 (by decide) (a := v2) (b := v4) (by omega) (by omega)
      have e_3 : IntKind.i64.wrap (v2 * v4) = v2 * v4 := wrapI _ (by omega)
      have d_4 := modR (v2 * v4) hp
      have t_4 : (v2 * v4).tmod p = (v2 * v4) % p := Int.tmod_eq_emod_of_nonneg (by omega)
      have mu_3 := mulNN 30 30 900 (by decide) (a := v3) (b := v4) (by omega) (by omega)
      have e_5 : IntKind.i64.wrap (v3 * v4) = v3 * v4 := wrapI _ (by omega)
      have d_6 := modR (v3 * v4) hp
      have t_6 : (v3 * v4).tmod p = (v3 * v4) % p := Int.tmod_eq_emod_of_nonneg (by omega)
      go_wp2_with fail
      refine Calls.mono (inverse_any _ _ _ hp (by omega) (by omega)) ?_
      rw [← Hv4.out]
      rintro e w' ⟨rfl, rfl⟩
      go_wp2_with fail
      (refine region_tail 19 (by kernel_rfl) (by kernel_rfl) ?_; simp only [List.take_succ_cons, List.take_zero, List.drop_succ_cons, List.drop_zero]; repeat still_step)
      refine wpStill_nil ?_
      have g1 := hd1
      have g2 := hd2
      (try simp only [Hv4.out, Hv3.out, Hv2.out, Hv1.out] at g1 g2)
      have HV := Lib.hid (show ck p (x % p) (y % p) (z % p) (x % p) = (v1 * v4) % p ∧ ck p (x % p) (y % p) (z % p) (y % p) = (v2 * v4) % p ∧ ck p (x % p) (y % p) (z % p) (z % p) = (v3 * v4) % p from by
        simp only [Hv4.out, Hv3.out, Hv2.out, Hv1.out, ck, ld3, g1, g2, if_true, if_false, Bool.false_eq_true] <;> simp)
      go_wp2
      (refine bodyPost_ret (v := .agg #[.int .i64 (ck p (x % p) (y % p) (z % p) (x % p)), .int .i64 (ck p (x % p) (y % p) (z % p) (y % p)), .int .i64 (ck p (x % p) (y % p) (z % p) (z % p))]) (by simp [results, Try.results72, go_sem, HV.out.1, HV.out.2.1, HV.out.2.2, *]) rfl ⟨?_, ?_⟩)
      · rfl
      · (repeat (first | with_reducible exact Below.refl _ _ | with_reducible refine balloc ?_ _ | with_reducible refine bdrewN ?_ _ | with_reducible refine Below.drew ?_ | with_reducible refine bthen ?_ (by with_reducible assumption) | with_reducible refine Below.setCell ?_ (by first | (simp; done) | (simp; omega)) _))
    · have hd2n : (v2 != 0) = false := by rw [bne, hd2]; rfl
      have Hhd2p := Lib.hid (beq_iff_eq.1 hd2)
      obtain ⟨v4, hv4⟩ : ∃ v : Int, v = inv p v3 := ⟨_, rfl⟩
      have rv4 := inv_range v3 hp
      rw [← hv4] at rv4
      have Hv4 := Lib.hid hv4
      clear hv4
      have mu_1 := mulNN 30 30 900 (by decide) (a := v1) (b := v4) (by omega) (by omega)
      have e_1 : IntKind.i64.wrap (v1 * v4) = v1 * v4 := wrapI _ (by omega)
      have d_2 := modR (v1 * v4) hp
      have t_2 : (v1 * v4).tmod p = (v1 * v4) % p := Int.tmod_eq_emod_of_nonneg (by omega)
      have hpos : p ≠ 0 := by omega
      have mu_2 := mulNN 30 30 900 (by decide) (a := v2) (b := v4) (by omega) (by omega)
      have e_3 : IntKind.i64.wrap (v2 * v4) = v2 * v4 := wrapI _ (by omega)
      have d_4 := modR (v2 * v4) hp
      have t_4 : (v2 * v4).tmod p = (v2 * v4) % p := Int.tmod_eq_emod_of_nonneg (by omega)
      have mu_3 := mulNN 30 30 900 (by decide) (a := v3) (b := v4) (by omega) (by omega)
      have e_5 : IntKind.i64.wrap (v3 * v4) = v3 * v4 := wrapI _ (by omega)
      have d_6 := modR (v3 * v4) hp
      have t_6 : (v3 * v4).tmod p = (v3 * v4) % p := Int.tmod_eq_emod_of_nonneg (by omega)
      go_wp2_with fail
      refine Calls.mono (inverse_any _ _ _ hp (by omega) (by omega)) ?_
      rw [← Hv4.out]
      rintro e w' ⟨rfl, rfl⟩
      go_wp2_with fail
      (refine region_tail 19 (by kernel_rfl) (by kernel_rfl) ?_; simp only [List.take_succ_cons, List.take_zero, List.drop_succ_cons, List.drop_zero]; repeat still_step)
      refine wpStill_nil ?_
      have g1 := hd1
      have g2 := hd2
      (try simp only [Hv4.out, Hv3.out, Hv2.out, Hv1.out] at g1 g2)
      have HV := Lib.hid (show ck p (x % p) (y % p) (z % p) (x % p) = (v1 * v4) % p ∧ ck p (x % p) (y % p) (z % p) (y % p) = (v2 * v4) % p ∧ ck p (x % p) (y % p) (z % p) (z % p) = (v3 * v4) % p from by
        simp only [Hv4.out, Hv3.out, Hv2.out, Hv1.out, ck, ld3, g1, g2, if_true, if_false, Bool.false_eq_true] <;> simp)
      go_wp2
      (refine bodyPost_ret (v := .agg #[.int .i64 (ck p (x % p) (y % p) (z % p) (x % p)), .int .i64 (ck p (x % p) (y % p) (z % p) (y % p)), .int .i64 (ck p (x % p) (y % p) (z % p) (z % p))]) (by simp [results, Try.results72, go_sem, HV.out.1, HV.out.2.1, HV.out.2.2, *]) rfl ⟨?_, ?_⟩)
      · rfl
      · (repeat (first | with_reducible exact Below.refl _ _ | with_reducible refine balloc ?_ _ | with_reducible refine bdrewN ?_ _ | with_reducible refine Below.drew ?_ | with_reducible refine bthen ?_ (by with_reducible assumption) | with_reducible refine Below.setCell ?_ (by first | (simp; done) | (simp; omega)) _))

end Go.Proofs.Ytkkaicneabkkdaa
