/-
  spec.l03Triple, impl.areTripleSpreads.
-/
import Derived.Test.YtklfgelmieecmaaSpreadMath
import Derived.Test.YtklfgelmieecmaaMod
import Derived.Test.YtklfgelmieecmaaImplRest
import Derived.Test.YtklfgelmieecmaaPcMath
namespace Go.Proofs.Ytklfgelmieecmaa
open Go.RowKit

set_option linter.unusedSimpArgs false in
set_option maxRecDepth 20000 in
set_option maxHeartbeats 4000000 in
theorem specTriple_any (p r s t : Int) (w : World) (hp : isP p = true) (hr : 0 ≤ r ∧ r < p) (hs : 0 ≤ s ∧ s < p) (ht : 0 ≤ t ∧ t < p) :
    Calls Try.prog 56 #[.int .i64 p, .int .i64 r, .int .i64 s, .int .i64 t] w fun e w' =>
      e = .returned (.bool (tripB p r s t)) ∧ Below w.heap.size w w' := by
  have hr := isP_range hp
  have mu_1 := mulNN 93 93 8649 (by decide) (a := r + s + t) (b := r + s + t) (by omega) (by omega)
  have mu_2 := mulNN 31 31 961 (by decide) (a := r) (b := r) (by omega) (by omega)
  have mu_3 := mulNN 31 31 961 (by decide) (a := s) (b := s) (by omega) (by omega)
  have mu_4 := mulNN 31 31 961 (by decide) (a := t) (b := t) (by omega) (by omega)
  have mu_5 := mulNN 124 31 3844 (by decide) (a := 4 * r) (b := s) (by omega) (by omega)
  have mu_6 := mulNN 3844 31 119164 (by decide) (a := (4 * r) * s) (b := t) (by omega) (by omega)
  obtain ⟨v1, hv1⟩ : ∃ v : Int, v = ((r + s + t) * (r + s + t) - (2 * (r * r + (s * s) + (t * t))) - (((4 * r) * s) * t)) % p := ⟨_, rfl⟩
  have rv1 := modR ((r + s + t) * (r + s + t) - (2 * (r * r + (s * s) + (t * t))) - (((4 * r) * s) * t)) hp
  rw [← hv1] at rv1
  have Hv1 := Lib.hid hv1
  clear hv1
  go_enter Try.func56, Try.ntmps56
  go_wp2_with fail
  refine Calls.mono (mod_any _ _ _ (by omega) (by omega) (by omega) (by omega)) ?_
  rw [← Hv1.out]
  rintro e w' ⟨rfl, rfl⟩
  have HV := Lib.hid (show tripB p r s t = (v1 == 0) from by
    simp only [Hv1.out]; rfl)
  go_wp2
  (refine bodyPost_ret (v := .bool (tripB p r s t)) (by simp [results, Try.results56, go_sem, HV.out, *]) rfl ⟨?_, ?_⟩)
  · rfl
  · (repeat (first | with_reducible exact Below.refl _ _ | with_reducible refine balloc ?_ _ | with_reducible refine bdrewN ?_ _ | with_reducible refine Below.drew ?_ | with_reducible refine bthen ?_ (by with_reducible assumption) | with_reducible refine Below.setCell ?_ (by first | (simp; done) | (simp; omega)) _))

set_option linter.unusedSimpArgs false in
set_option maxRecDepth 20000 in
set_option maxHeartbeats 4000000 in
theorem implTriple_any (p r s t : Int) (w : World) (hp : isP p = true) (hr : 0 ≤ r ∧ r < p) (hs : 0 ≤ s ∧ s < p) (ht : 0 ≤ t ∧ t < p) :
    Calls Try.prog 58 #[.int .i64 p, .int .i64 r, .int .i64 s, .int .i64 t] w fun e w' =>
      e = .returned (.bool (tripB p r s t)) ∧ Below w.heap.size w w' := by
  have hr := isP_range hp
  have mu_1 := mulNN 93 93 8649 (by decide) (a := r + s + t) (b := r + s + t) (by omega) (by omega)
  have mu_2 := mulNN 31 31 961 (by decide) (a := r) (b := r) (by omega) (by omega)
  have mu_3 := mulNN 31 31 961 (by decide) (a := s) (b := s) (by omega) (by omega)
  have mu_4 := mulNN 31 31 961 (by decide) (a := t) (b := t) (by omega) (by omega)
  have mu_5 := mulNN 124 31 3844 (by decide) (a := 4 * r) (b := s) (by omega) (by omega)
  have mu_6 := mulNN 3844 31 119164 (by decide) (a := (4 * r) * s) (b := t) (by omega) (by omega)
  obtain ⟨v1, hv1⟩ : ∃ v : Int, v = ((r + s + t) * (r + s + t) - (2 * (r * r + (s * s) + (t * t))) - (((4 * r) * s) * t)) % p := ⟨_, rfl⟩
  have rv1 := modR ((r + s + t) * (r + s + t) - (2 * (r * r + (s * s) + (t * t))) - (((4 * r) * s) * t)) hp
  rw [← hv1] at rv1
  have Hv1 := Lib.hid hv1
  clear hv1
  go_enter Try.func58, Try.ntmps58
  go_wp2_with fail
  refine Calls.mono (rest_any _ _ _ (by omega) (by omega) (by omega) (by omega)) ?_
  rw [← Hv1.out]
  rintro e w' ⟨rfl, rfl⟩
  have HV := Lib.hid (show tripB p r s t = (v1 == 0) from by
    simp only [Hv1.out]; rfl)
  go_wp2
  (refine bodyPost_ret (v := .bool (tripB p r s t)) (by simp [results, Try.results58, go_sem, HV.out, *]) rfl ⟨?_, ?_⟩)
  · rfl
  · (repeat (first | with_reducible exact Below.refl _ _ | with_reducible refine balloc ?_ _ | with_reducible refine bdrewN ?_ _ | with_reducible refine Below.drew ?_ | with_reducible refine bthen ?_ (by with_reducible assumption) | with_reducible refine Below.setCell ?_ (by first | (simp; done) | (simp; omega)) _))

end Go.Proofs.Ytklfgelmieecmaa
