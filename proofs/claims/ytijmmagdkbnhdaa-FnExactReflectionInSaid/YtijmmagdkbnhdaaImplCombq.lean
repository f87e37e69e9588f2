/-
  impl.combination.
-/
import Derived.Test.YtijmmagdkbnhdaaImplDiffq
import Derived.Test.YtijmmagdkbnhdaaMgq0

namespace Go.Proofs.Ytijmmagdkbnhdaa
open Go.RowKit

set_option maxRecDepth 20000 in
set_option maxHeartbeats 1000000 in
theorem implComb_any (p a1 a2 b1 b2 t : Int) (w : World) (hp : isP p = true) (ha1 : 0 ≤ a1 ∧ a1 ≤ 31) (ha2 : 0 ≤ a2 ∧ a2 ≤ 31) (hb1 : 0 ≤ b1 ∧ b1 ≤ 31) (hb2 : 0 ≤ b2 ∧ b2 ≤ 31) (ht : 0 ≤ t ∧ t ≤ 31) :
    Calls Try.prog 146 #[.int .i64 p, .agg #[.int .i64 a1, .int .i64 a2], .agg #[.int .i64 b1, .int .i64 b2], .int .i64 t] w fun e w' =>
      e = .returned (.agg #[.int .i64 (cmb p a1 b1 t), .int .i64 (cmb p a2 b2 t)]) ∧ Below w.heap.size w w' := by
  have hr := isP_range hp
  obtain ⟨d1, hd1⟩ : ∃ d, d = (b1 - a1) % p := ⟨_, rfl⟩
  obtain ⟨d2, hd2⟩ : ∃ d, d = (b2 - a2) % p := ⟨_, rfl⟩
  have r1 := modR31 (b1 - a1) hp
  have r2 := modR31 (b2 - a2) hp
  rw [← hd1] at r1
  rw [← hd2] at r2
  have m1 := mulP (a := t) (b := d1) ht r1
  have m2 := mulP (a := t) (b := d2) ht r2
  have e1 : IntKind.i64.wrap (t * d1) = t * d1 := wrapI _ (by omega)
  have e2 : IntKind.i64.wrap (t * d2) = t * d2 := wrapI _ (by omega)
  have e3 : IntKind.i64.wrap (a1 + t * d1) = a1 + t * d1 := wrapI _ (by omega)
  have e4 : IntKind.i64.wrap (a2 + t * d2) = a2 + t * d2 := wrapI _ (by omega)
  have HV := Lib.hid (show (a1 + t * d1) % p = cmb p a1 b1 t ∧ (a2 + t * d2) % p = cmb p a2 b2 t by rw [hd1, hd2]; exact ⟨cmb_impl _ _ _ hp, cmb_impl _ _ _ hp⟩)
  have HD := Lib.hid (show (b1 - a1) % p = d1 ∧ (b2 - a2) % p = d2 from ⟨hd1.symm, hd2.symm⟩)
  clear hd1 hd2
  go_enter Try.func146, Try.ntmps146
  go_wp2_with fail
  refine Calls.mono (difference_any p b1 b2 a1 a2 _ hp (by omega) (by omega) (by omega) (by omega)) ?_
  rw [HD.out.1, HD.out.2]
  rintro e w1 ⟨rfl, hB1⟩
  (obtain ⟨hB1c, hB1f⟩ := bcell hB1; have hB1s := hB1.size; (try simp at hB1s); (try have hB1q1 := Nat.lt_of_succ_le hB1s); (try have hB1q2 := Nat.lt_of_succ_lt hB1q1); (try have hB1q3 := Nat.lt_of_succ_lt hB1q2); (try have hB1zw0 : w.heap.size < w1.heap.size := (by omega)); (try have hB1zw1 : w.heap.size + 1 < w1.heap.size := (by omega)); (try have hB1zw2 : w.heap.size + 1 + 1 < w1.heap.size := (by omega)); (try have hB1zw3 : w.heap.size + 1 + 1 + 1 < w1.heap.size := (by omega)); (try have hB1zw4 : w.heap.size + 1 + 1 + 1 + 1 < w1.heap.size := (by omega)))
  go_wp2_with fail
  (refine region_tail 19 (by kernel_rfl) (by kernel_rfl) ?_; simp only [List.take_succ_cons, List.take_zero, List.drop_succ_cons, List.drop_zero]; repeat still_step)
  (still_call (stillOf (rest_any _ _ _ (by omega) (by omega) (by omega) (by omega))); repeat still_step)
  (still_call (stillOf (rest_any _ _ _ (by omega) (by omega) (by omega) (by omega))); repeat still_step)
  refine wpStill_nil ?_
  go_wp2
  (refine bodyPost_ret (v := .agg #[.int .i64 (cmb p a1 b1 t), .int .i64 (cmb p a2 b2 t)]) (by simp [results, Try.results146, go_sem, HV.out.1, HV.out.2, *]) rfl ⟨?_, ?_⟩)
  · rfl
  · (repeat (first | exact Below.refl _ _ | refine balloc ?_ _ | refine bdrewN ?_ _ | refine Below.drew ?_ | refine bthen ?_ hB1 | refine Below.setCell ?_ (by first | (simp; done) | (simp; omega)) _))

end Go.Proofs.Ytijmmagdkbnhdaa
