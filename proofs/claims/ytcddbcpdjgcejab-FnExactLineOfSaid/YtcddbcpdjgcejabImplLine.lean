/-
  The program's lines through points: impl.difference, impl.lineMadeBy, impl.lineThrough.
-/
import Derived.Test.YtcddbcpdjgcejabImplRest
import Derived.Test.YtcddbcpdjgcejabImplInv
import Derived.Test.YtcddbcpdjgcejabLineVals
namespace Go.Proofs.Ytcddbcpdjgcejab
open Go.RowKit

set_option maxHeartbeats 400000 in
theorem difference_any (p a1 a2 b1 b2 : Int) (w : World) (hp : isP p = true) (ha1 : 0 ≤ a1 ∧ a1 ≤ 31) (ha2 : 0 ≤ a2 ∧ a2 ≤ 31) (hb1 : 0 ≤ b1 ∧ b1 ≤ 31) (hb2 : 0 ≤ b2 ∧ b2 ≤ 31) :
    Calls Try.prog 49 #[.int .i64 p, .agg #[.int .i64 a1, .int .i64 a2], .agg #[.int .i64 b1, .int .i64 b2]] w fun e w' =>
      e = .returned (.agg #[.int .i64 ((a1 - b1) % p), .int .i64 ((a2 - b2) % p)]) ∧ Below w.heap.size w w' := by
  have hr := isP_range hp
  have e1 : IntKind.i64.wrap (a1 - b1) = a1 - b1 := wrapI _ (by omega)
  have e2 : IntKind.i64.wrap (a2 - b2) = a2 - b2 := wrapI _ (by omega)
  go_enter Try.func49, Try.ntmps49
  go_wp2_with fail
  (refine region_tail 15 (by kernel_rfl) (by kernel_rfl) ?_; simp only [List.take_succ_cons, List.take_zero, List.drop_succ_cons, List.drop_zero]; repeat still_step)
  (still_call (stillOf (rest_any _ _ _ (by omega) (by omega) (by omega) (by omega))); repeat still_step)
  (still_call (stillOf (rest_any _ _ _ (by omega) (by omega) (by omega) (by omega))); repeat still_step)
  refine wpStill_nil ?_
  go_wp2
  (refine bodyPost_ret (v := .agg #[.int .i64 ((a1 - b1) % p), .int .i64 ((a2 - b2) % p)]) (by simp [results, Try.results49, go_sem]) rfl ⟨?_, ?_⟩)
  · rfl
  · (repeat (first | exact Below.refl _ _ | assumption | refine balloc ?_ _ | refine bdrewN ?_ _ | refine Below.drew ?_ | refine Below.setCell ?_ (by first | (simp; done) | (simp; omega)) _))

set_option maxHeartbeats 400000 in
theorem lineMadeBy_any (p a b c : Int) (w : World) (hp : isP p = true) (ha : 0 ≤ a ∧ a < p) (hb : 0 ≤ b ∧ b < p) (hc : 0 ≤ c ∧ c < p) :
    Calls Try.prog 29 #[.int .i64 p, .int .i64 a, .int .i64 b, .int .i64 c] w fun e w' =>
      e = .returned (.agg #[.int .i64 (mk1 p a b c), .int .i64 (mk2 p a b c), .int .i64 (mk3 p a b c)]) ∧ Below w.heap.size w w' := by
  have hr := isP_range hp
  obtain ⟨d, hd⟩ : ∃ d, d = nrm p a b := ⟨_, rfl⟩
  have hd31 : 0 ≤ d ∧ d ≤ 31 := by rw [hd]; exact nrm_range a b hp
  have m1 := mulP (a := a) (b := d) (by omega) hd31
  have m2 := mulP (a := b) (b := d) (by omega) hd31
  have m3 := mulP (a := c) (b := d) (by omega) hd31
  have e1 : IntKind.i64.wrap (a * d) = a * d := wrapI _ (by omega)
  have e2 : IntKind.i64.wrap (b * d) = b * d := wrapI _ (by omega)
  have e3 : IntKind.i64.wrap (c * d) = c * d := wrapI _ (by omega)
  have t1 : (a * d).tmod p = a * d % p := Int.tmod_eq_emod_of_nonneg m1.1
  have t2 : (b * d).tmod p = b * d % p := Int.tmod_eq_emod_of_nonneg m2.1
  have t3 : (c * d).tmod p = c * d % p := Int.tmod_eq_emod_of_nonneg m3.1
  have hpos : p ≠ 0 := by omega
  have HV := Lib.hid (show mk1 p a b c = a * d % p ∧ mk2 p a b c = b * d % p ∧ mk3 p a b c = c * d % p by rw [hd]; exact ⟨rfl, rfl, rfl⟩)
  by_cases h : a = 0
  · have HD := Lib.hid (show inv p b = d by rw [hd, nrm, if_pos (by rw [h]; rfl)])
    clear hd
    subst h
    go_enter Try.func29, Try.ntmps29
    go_wp2_with fail
    refine Calls.mono (implInverse_any b p _ hp (by omega) (by omega)) ?_
    rw [HD.out]
    rintro e w' ⟨rfl, rfl⟩
    go_wp2_with fail
    (refine region_tail 16 (by kernel_rfl) (by kernel_rfl) ?_; simp only [List.take_succ_cons, List.take_zero, List.drop_succ_cons, List.drop_zero]; repeat still_step)
    refine wpStill_nil ?_
    go_wp2
    (refine bodyPost_ret (v := .agg #[.int .i64 (mk1 p 0 b c), .int .i64 (mk2 p 0 b c), .int .i64 (mk3 p 0 b c)]) (by simp [results, Try.results29, go_sem, HV.out.1, HV.out.2.1, HV.out.2.2]) rfl ⟨?_, ?_⟩)
    · rfl
    · (repeat (first | exact Below.refl _ _ | assumption | refine balloc ?_ _ | refine bdrewN ?_ _ | refine Below.drew ?_ | refine Below.setCell ?_ (by first | (simp; done) | (simp; omega)) _))
  · have HD := Lib.hid (show inv p a = d by rw [hd, nrm, if_neg (by rw [Int.emod_eq_of_lt (by omega) (by omega)]; exact h)])
    have h' : (a == 0) = false := by rw [beq_eq_false_iff_ne]; exact h
    clear hd h
    go_enter Try.func29, Try.ntmps29
    go_wp2_with fail
    refine Calls.mono (implInverse_any a p _ hp (by omega) (by omega)) ?_
    rw [HD.out]
    rintro e w' ⟨rfl, rfl⟩
    go_wp2_with fail
    (refine region_tail 16 (by kernel_rfl) (by kernel_rfl) ?_; simp only [List.take_succ_cons, List.take_zero, List.drop_succ_cons, List.drop_zero]; repeat still_step)
    refine wpStill_nil ?_
    go_wp2
    (refine bodyPost_ret (v := .agg #[.int .i64 (mk1 p a b c), .int .i64 (mk2 p a b c), .int .i64 (mk3 p a b c)]) (by simp [results, Try.results29, go_sem, HV.out.1, HV.out.2.1, HV.out.2.2]) rfl ⟨?_, ?_⟩)
    · rfl
    · (repeat (first | exact Below.refl _ _ | assumption | refine balloc ?_ _ | refine bdrewN ?_ _ | refine Below.drew ?_ | refine Below.setCell ?_ (by first | (simp; done) | (simp; omega)) _))

set_option maxHeartbeats 400000 in
theorem implThrough_any (p a1 a2 b1 b2 : Int) (w : World) (hp : isP p = true) (ha1 : 0 ≤ a1 ∧ a1 < p) (ha2 : 0 ≤ a2 ∧ a2 < p) (hb1 : 0 ≤ b1 ∧ b1 < p) (hb2 : 0 ≤ b2 ∧ b2 < p) (hne : ¬ (a1 = b1 ∧ a2 = b2)) :
    Calls Try.prog 33 #[.int .i64 p, .agg #[.int .i64 a1, .int .i64 a2], .agg #[.int .i64 b1, .int .i64 b2]] w fun e w' =>
      e = .returned (.agg #[.int .i64 (th1 p a1 a2 b1 b2), .int .i64 (th2 p a1 a2 b1 b2), .int .i64 (th3 p a1 a2 b1 b2)]) ∧ Below w.heap.size w w' := by
  have hr := isP_range hp
  obtain ⟨d1, hd1⟩ : ∃ d, d = (b1 - a1) % p := ⟨_, rfl⟩
  obtain ⟨d2, hd2⟩ : ∃ d, d = (b2 - a2) % p := ⟨_, rfl⟩
  have r1 := modR (b1 - a1) hp
  have r2 := modR (b2 - a2) hp
  rw [← hd1] at r1
  rw [← hd2] at r2
  have m1 := mulP (a := d1) (b := a2) (by omega) (by omega)
  have m2 := mulP (a := d2) (b := a1) (by omega) (by omega)
  have e0 : IntKind.i64.wrap (-d1) = -d1 := wrapI _ (by omega)
  have e1 : IntKind.i64.wrap (d1 * a2) = d1 * a2 := wrapI _ (by omega)
  have e2 : IntKind.i64.wrap (d2 * a1) = d2 * a1 := wrapI _ (by omega)
  have e3 : IntKind.i64.wrap (d1 * a2 - d2 * a1) = d1 * a2 - d2 * a1 := wrapI _ (by omega)
  have HV := Lib.hid (thEq hp ha1 ha2 hb1 hb2 hne)
  rw [← hd1, ← hd2] at HV
  have HD1 := Lib.hid hd1
  have HD2 := Lib.hid hd2
  clear hd1 hd2 hne
  go_enter Try.func33, Try.ntmps33
  go_wp2_with fail
  refine Calls.mono (difference_any p b1 b2 a1 a2 _ hp (by omega) (by omega) (by omega) (by omega)) ?_
  rw [← HD1.out, ← HD2.out]
  rintro e w1 ⟨rfl, hB1⟩
  (obtain ⟨hB1c, hB1f⟩ := bcell hB1; have hB1s := hB1.size; (try simp at hB1s); (try have hB1q1 := Nat.lt_of_succ_le hB1s); (try have hB1q2 := Nat.lt_of_succ_lt hB1q1); (try have hB1q3 := Nat.lt_of_succ_lt hB1q2); (try have hB1zw0 : w.heap.size < w1.heap.size := (by omega)); (try have hB1zw1 : w.heap.size + 1 < w1.heap.size := (by omega)); (try have hB1zw2 : w.heap.size + 1 + 1 < w1.heap.size := (by omega)))
  go_wp2_with fail
  (refine region_tail 21 (by kernel_rfl) (by kernel_rfl) ?_; simp only [List.take_succ_cons, List.take_zero, List.drop_succ_cons, List.drop_zero]; repeat still_step)
  (still_call (stillOf (rest_any _ _ _ (by omega) (by omega) (by omega) (by omega))); repeat still_step)
  (still_call (stillOf (rest_any _ _ _ (by omega) (by omega) (by omega) (by omega))); repeat still_step)
  refine wpStill_nil ?_
  (go_wp2_with fail; refine Calls.mono (lineMadeBy_any p d2 (-d1 % p) ((d1 * a2 - d2 * a1) % p) _ hp r2 (modR _ hp) (modR _ hp)) ?_; rintro e w2 ⟨rfl, hB2⟩; obtain ⟨hB2c, hB2f⟩ := bcell hB2; have hB2s := hB2.size; (try simp at hB2s); (try have hB2q1 := Nat.lt_of_succ_le hB2s); (try have hB2q2 := Nat.lt_of_succ_lt hB2q1); (try have hB2q3 := Nat.lt_of_succ_lt hB2q2); (try have hB2zw0 : w.heap.size < w2.heap.size := (by omega)); (try have hB2zw1 : w.heap.size + 1 < w2.heap.size := (by omega)); (try have hB2zw2 : w.heap.size + 1 + 1 < w2.heap.size := (by omega)); (try have hB2zw10 : w1.heap.size < w2.heap.size := (by omega)); (try have hB2zw11 : w1.heap.size + 1 < w2.heap.size := (by omega)); (try have hB2zw12 : w1.heap.size + 1 + 1 < w2.heap.size := (by omega)))
  go_wp2
  (refine bodyPost_ret (v := .agg #[.int .i64 (th1 p a1 a2 b1 b2), .int .i64 (th2 p a1 a2 b1 b2), .int .i64 (th3 p a1 a2 b1 b2)]) (by simp [results, Try.results33, go_sem, HV.out.1, HV.out.2.1, HV.out.2.2, *]) rfl ⟨?_, ?_⟩)
  · rfl
  · (repeat (first | exact Below.refl _ _ | refine balloc ?_ _ | refine bdrewN ?_ _ | refine Below.drew ?_ | refine bthen ?_ hB1 | refine bthen ?_ hB2 | refine Below.setCell ?_ (by first | (simp; done) | (simp; omega)) _))

end Go.Proofs.Ytcddbcpdjgcejab
