/-
  impl.lineThrough at any two points.
-/
import Derived.Test.YtmpgpmcmhbpjeabImplLineq
import Derived.Test.YtmpgpmcmhbpjeabPencilq

namespace Go.Proofs.Ytmpgpmcmhbpjeab
open Go.RowKit

/-- What lineThrough makes of any two points. -/
def tr1 (p a1 a2 b1 b2 : Int) : Int := mk1 p ((b2 - a2) % p) (-((b1 - a1) % p) % p) (((b1 - a1) % p * a2 - (b2 - a2) % p * a1) % p)
def tr2 (p a1 a2 b1 b2 : Int) : Int := mk2 p ((b2 - a2) % p) (-((b1 - a1) % p) % p) (((b1 - a1) % p * a2 - (b2 - a2) % p * a1) % p)
def tr3 (p a1 a2 b1 b2 : Int) : Int := mk3 p ((b2 - a2) % p) (-((b1 - a1) % p) % p) (((b1 - a1) % p * a2 - (b2 - a2) % p * a1) % p)
theorem trEq (p a1 a2 b1 b2 : Int) : tr1 p a1 a2 b1 b2 = mk1 p ((b2 - a2) % p) (-((b1 - a1) % p) % p) (((b1 - a1) % p * a2 - (b2 - a2) % p * a1) % p) ∧
    tr2 p a1 a2 b1 b2 = mk2 p ((b2 - a2) % p) (-((b1 - a1) % p) % p) (((b1 - a1) % p * a2 - (b2 - a2) % p * a1) % p) ∧
    tr3 p a1 a2 b1 b2 = mk3 p ((b2 - a2) % p) (-((b1 - a1) % p) % p) (((b1 - a1) % p * a2 - (b2 - a2) % p * a1) % p) := ⟨rfl, rfl, rfl⟩
theorem tr1_r {p : Int} (a1 a2 b1 b2 : Int) (h : isP p = true) : 0 ≤ tr1 p a1 a2 b1 b2 ∧ tr1 p a1 a2 b1 b2 < p := modR _ h
theorem tr2_r {p : Int} (a1 a2 b1 b2 : Int) (h : isP p = true) : 0 ≤ tr2 p a1 a2 b1 b2 ∧ tr2 p a1 a2 b1 b2 < p := modR _ h
theorem tr3_r {p : Int} (a1 a2 b1 b2 : Int) (h : isP p = true) : 0 ≤ tr3 p a1 a2 b1 b2 ∧ tr3 p a1 a2 b1 b2 < p := modR _ h
/-- The lines to all points but one, as the program makes them. -/
def trT (p a1 a2 : Int) (b : Int × Int) : Int × Int × Int := (tr1 p a1 a2 b.1 b.2, tr2 p a1 a2 b.1 b.2, tr3 p a1 a2 b.1 b.2)
def linesR (p a1 a2 : Int) (bs : List (Int × Int)) : List (Int × Int × Int) := (bs.filter fun b => !(b.1 == a1 && b.2 == a2)).map (trT p a1 a2)
theorem linesR_no {p a1 a2 : Int} (bs : List (Int × Int)) {b : Int × Int} (h : (b.1 == a1 && b.2 == a2) = true) : linesR p a1 a2 (bs ++ [b]) = linesR p a1 a2 bs := by
  rw [linesR, linesR, List.filter_append, List.filter_cons, h]; simp
theorem linesR_yes {p a1 a2 : Int} (bs : List (Int × Int)) {b : Int × Int} (h : (b.1 == a1 && b.2 == a2) = false) : linesR p a1 a2 (bs ++ [b]) = linesR p a1 a2 bs ++ [trT p a1 a2 b] := by
  rw [linesR, linesR, List.filter_append, List.filter_cons, h]; simp
theorem linesR_le (p a1 a2 : Int) (bs : List (Int × Int)) : (linesR p a1 a2 bs).length ≤ bs.length := by
  rw [linesR, List.length_map]; exact List.length_filter_le _ _
theorem linesR_r {p a1 a2 : Int} (hp : isP p = true) (bs : List (Int × Int)) : ∀ z, z ∈ linesR p a1 a2 bs → (0 ≤ z.1 ∧ z.1 < p) ∧ (0 ≤ z.2.1 ∧ z.2.1 < p) ∧ 0 ≤ z.2.2 ∧ z.2.2 < p := fun z hz => by
  obtain ⟨b, _, rfl⟩ := List.mem_map.1 hz
  exact ⟨tr1_r _ _ _ _ hp, tr2_r _ _ _ _ hp, tr3_r _ _ _ _ hp⟩
theorem linesR_all {p a1 a2 : Int} (hp : isP p = true) (ha1 : 0 ≤ a1 ∧ a1 < p) (ha2 : 0 ≤ a2 ∧ a2 < p) {bs : List (Int × Int)} (hb : ∀ b, b ∈ bs ↔ (0 ≤ b.1 ∧ b.1 < p) ∧ 0 ≤ b.2 ∧ b.2 < p) (z : Int × Int × Int) :
    z ∈ linesR p a1 a2 bs ↔ z ∈ pencil p a1 a2 p.toNat := by
  rw [← linesTo_all hp ha1 ha2 hb]
  have e : linesR p a1 a2 bs = linesTo p a1 a2 bs := by
    unfold linesR linesTo
    refine List.map_congr_left fun b h => ?_
    obtain ⟨h1, h2⟩ := List.mem_filter.1 h
    have hr := (hb b).1 h1
    have he := thEq hp ha1 ha2 hr.1 hr.2 (by rintro ⟨e1, e2⟩; simp [← e1, ← e2] at h2)
    unfold trT thT tr1 tr2 tr3
    rw [← he.1, ← he.2.1, ← he.2.2]
  rw [e]

set_option maxRecDepth 20000 in
set_option maxHeartbeats 400000 in
theorem implThroughR_any (p a1 a2 b1 b2 : Int) (w : World) (hp : isP p = true) (ha1 : 0 ≤ a1 ∧ a1 < p) (ha2 : 0 ≤ a2 ∧ a2 < p) (hb1 : 0 ≤ b1 ∧ b1 ≤ 31) (hb2 : 0 ≤ b2 ∧ b2 ≤ 31) :
    Calls Try.prog 83 #[.int .i64 p, .agg #[.int .i64 a1, .int .i64 a2], .agg #[.int .i64 b1, .int .i64 b2]] w fun e w' =>
      e = .returned (.agg #[.int .i64 (tr1 p a1 a2 b1 b2), .int .i64 (tr2 p a1 a2 b1 b2), .int .i64 (tr3 p a1 a2 b1 b2)]) ∧ Below w.heap.size w w' := by
  have hr := isP_range hp
  obtain ⟨d1, hd1⟩ : ∃ d, d = (b1 - a1) % p := ⟨_, rfl⟩
  obtain ⟨d2, hd2⟩ : ∃ d, d = (b2 - a2) % p := ⟨_, rfl⟩
  have r1 := modR (b1 - a1) hp
  have r2 := modR (b2 - a2) hp
  rw [← hd1] at r1
  rw [← hd2] at r2
  have m1 := mulP (a := d1) (b := a2) (by omega) (by omega)
  have m2 := mulP (a := d2) (b := a1) (by omega) (by omega)
  have e0 : IntKind.i64.wrap (-d1) = -d1 := wrapI _ (by omega)
  have e1 : IntKind.i64.wrap (d1 * a2) = d1 * a2 := wrapI _ (by omega)
  have e2 : IntKind.i64.wrap (d2 * a1) = d2 * a1 := wrapI _ (by omega)
  have e3 : IntKind.i64.wrap (d1 * a2 - d2 * a1) = d1 * a2 - d2 * a1 := wrapI _ (by omega)
  have HV := Lib.hid (trEq p a1 a2 b1 b2)
  rw [← hd1, ← hd2] at HV
  have HD1 := Lib.hid hd1
  have HD2 := Lib.hid hd2
  clear hd1 hd2
  go_enter Try.func83, Try.ntmps83
  go_wp2_with fail
  refine Calls.mono (difference_any p b1 b2 a1 a2 _ hp (by omega) (by omega) (by omega) (by omega)) ?_
  rw [← HD1.out, ← HD2.out]
  rintro e w1 ⟨rfl, hB1⟩
  (obtain ⟨hB1c, hB1f⟩ := bcell hB1; have hB1s := hB1.size; (try simp at hB1s); (try have hB1q1 := Nat.lt_of_succ_le hB1s); (try have hB1q2 := Nat.lt_of_succ_lt hB1q1); (try have hB1q3 := Nat.lt_of_succ_lt hB1q2); (try have hB1zw0 : w.heap.size < w1.heap.size := (by omega)); (try have hB1zw1 : w.heap.size + 1 < w1.heap.size := (by omega)); (try have hB1zw2 : w.heap.size + 1 + 1 < w1.heap.size := (by omega)); (try have hB1zw3 : w.heap.size + 1 + 1 + 1 < w1.heap.size := (by omega)); (try have hB1zw4 : w.heap.size + 1 + 1 + 1 + 1 < w1.heap.size := (by omega)))
  go_wp2_with fail
  (refine region_tail 21 (by kernel_rfl) (by kernel_rfl) ?_; simp only [List.take_succ_cons, List.take_zero, List.drop_succ_cons, List.drop_zero]; repeat still_step)
  (still_call (stillOf (rest_any _ _ _ (by omega) (by omega) (by omega) (by omega))); repeat still_step)
  (still_call (stillOf (rest_any _ _ _ (by omega) (by omega) (by omega) (by omega))); repeat still_step)
  refine wpStill_nil ?_
  (go_wp2_with fail; refine Calls.mono (lineMadeBy_any p d2 (-d1 % p) ((d1 * a2 - d2 * a1) % p) _ hp r2 (modR _ hp) (modR _ hp)) ?_; rintro e w2 ⟨rfl, hB2⟩; obtain ⟨hB2c, hB2f⟩ := bcell hB2; have hB2s := hB2.size; (try simp at hB2s); (try have hB2q1 := Nat.lt_of_succ_le hB2s); (try have hB2q2 := Nat.lt_of_succ_lt hB2q1); (try have hB2q3 := Nat.lt_of_succ_lt hB2q2); (try have hB2zw0 : w.heap.size < w2.heap.size := (by omega)); (try have hB2zw1 : w.heap.size + 1 < w2.heap.size := (by omega)); (try have hB2zw2 : w.heap.size + 1 + 1 < w2.heap.size := (by omega)); (try have hB2zw3 : w.heap.size + 1 + 1 + 1 < w2.heap.size := (by omega)); (try have hB2zw4 : w.heap.size + 1 + 1 + 1 + 1 < w2.heap.size := (by omega)); (try have hB2zw10 : w1.heap.size < w2.heap.size := (by omega)); (try have hB2zw11 : w1.heap.size + 1 < w2.heap.size := (by omega)); (try have hB2zw12 : w1.heap.size + 1 + 1 < w2.heap.size := (by omega)); (try have hB2zw13 : w1.heap.size + 1 + 1 + 1 < w2.heap.size := (by omega)); (try have hB2zw14 : w1.heap.size + 1 + 1 + 1 + 1 < w2.heap.size := (by omega)))
  go_wp2
  (refine bodyPost_ret (v := .agg #[.int .i64 (tr1 p a1 a2 b1 b2), .int .i64 (tr2 p a1 a2 b1 b2), .int .i64 (tr3 p a1 a2 b1 b2)]) (by simp [results, Try.results83, go_sem, HV.out.1, HV.out.2.1, HV.out.2.2, *]) rfl ⟨?_, ?_⟩)
  · rfl
  · (repeat (first | exact Below.refl _ _ | refine balloc ?_ _ | refine bdrewN ?_ _ | refine Below.drew ?_ | refine bthen ?_ hB1 | refine bthen ?_ hB2 | refine Below.setCell ?_ (by first | (simp; done) | (simp; omega)) _))

end Go.Proofs.Ytmpgpmcmhbpjeab
