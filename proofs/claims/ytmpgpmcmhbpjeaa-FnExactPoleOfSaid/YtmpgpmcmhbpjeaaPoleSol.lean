/-
  Rows whose solution is a pole; no program.
-/
import Derived.Test.YtmpgpmcmhbpjeaaOnlyMath
import Derived.Test.YtmpgpmcmhbpjeaaPoleMath
import Derived.Test.YtmpgpmcmhbpjeaaPencil
namespace Go.Proofs.Ytmpgpmcmhbpjeaa
open Go.RowKit

theorem grid_in {f : Int → Int → Bool} {m : Nat} (z : Int × Int) : z ∈ gridL f m m ↔ ((0 ≤ z.1 ∧ z.1 < (m : Int)) ∧ 0 ≤ z.2 ∧ z.2 < (m : Int)) ∧ f z.1 z.2 = true := by
  simp only [gridL, rowL, List.mem_flatMap, List.mem_map, List.mem_filter, List.mem_range]
  constructor
  · rintro ⟨a, ha, b, ⟨hb, hf⟩, rfl⟩
    exact ⟨⟨⟨by show (0 : Int) ≤ (a : Int); omega, by show (a : Int) < m; omega⟩, by show (0 : Int) ≤ (b : Int); omega, by show (b : Int) < m; omega⟩, hf⟩
  · rintro ⟨⟨h1, h2⟩, hf⟩
    have e1 : ((z.1.toNat : Nat) : Int) = z.1 := Int.toNat_of_nonneg h1.1
    have e2 : ((z.2.toNat : Nat) : Int) = z.2 := Int.toNat_of_nonneg h2.1
    exact ⟨z.1.toNat, by omega, z.2.toNat, ⟨by omega, by rw [e1, e2]; exact hf⟩, by rw [e1, e2]⟩
/-- A symmetric matrix with a determinant other than 0 leads only 0 to 0. -/
theorem adj3 {R : Type} [Lean.Grind.CommRing R] {a b c d e f w0 w1 w2 D : R} (hD : D = 2 * a * (2 * c * (2 * f) - e * e) - b * (b * (2 * f) - e * d) + d * (b * e - 2 * c * d))
    (h1 : 2 * a * w0 + b * w1 + d * w2 = 0) (h2 : b * w0 + 2 * c * w1 + e * w2 = 0) (h3 : d * w0 + e * w1 + 2 * f * w2 = 0) : D * w0 = 0 ∧ D * w1 = 0 ∧ D * w2 = 0 := by
  have e0 : D * w0 = (2 * c * (2 * f) - e * e) * (2 * a * w0 + b * w1 + d * w2) - (b * (2 * f) - e * d) * (b * w0 + 2 * c * w1 + e * w2) + (b * e - 2 * c * d) * (d * w0 + e * w1 + 2 * f * w2) := by subst hD; clear h1 h2 h3; grind
  have e1 : D * w1 = (2 * a * (2 * f) - d * d) * (b * w0 + 2 * c * w1 + e * w2) - (b * (2 * f) - e * d) * (2 * a * w0 + b * w1 + d * w2) - (2 * a * e - b * d) * (d * w0 + e * w1 + 2 * f * w2) := by subst hD; clear h1 h2 h3; grind
  have e2 : D * w2 = (b * e - 2 * c * d) * (2 * a * w0 + b * w1 + d * w2) - (2 * a * e - b * d) * (b * w0 + 2 * c * w1 + e * w2) + (2 * a * (2 * c) - b * b) * (d * w0 + e * w1 + 2 * f * w2) := by subst hD; clear h1 h2 h3; grind
  rw [h1, h2, h3] at e0 e1 e2
  clear h1 h2 h3 hD
  refine ⟨?_, ?_, ?_⟩
  · rw [e0]; grind
  · rw [e1]; grind
  · rw [e2]; grind
section
variable {n : Nat} [NeZero n]
theorem dot4 (r : Nat → Int) (v : Nat → Fin n) : dot n r v 4 = K n (r 0) * v 0 + K n (r 1) * v 1 + K n (r 2) * v 2 + K n (r 3) * v 3 := by
  simp only [dot]; grind
/-- The rows' list. -/
def poR (p k1 k2 k3 k4 k5 k6 l1 l2 l3 : Int) : List Int := [2 * k1 % p, k2, k4, -l1 % p, k2, 2 * k3 % p, k5, -l2 % p, k4, k5, 2 * k6 % p, -l3 % p]
def PolS (n : Nat) [NeZero n] (k1 k2 k3 k4 k5 k6 l1 l2 l3 : Int) (v : Nat → Fin n) : Prop :=
  2 * K n k1 * v 0 + K n k2 * v 1 + K n k4 * v 2 = K n l1 * v 3 ∧ K n k2 * v 0 + 2 * K n k3 * v 1 + K n k5 * v 2 = K n l2 * v 3 ∧ K n k4 * v 0 + K n k5 * v 1 + 2 * K n k6 * v 2 = K n l3 * v 3
variable {k1 k2 k3 k4 k5 k6 l1 l2 l3 : Int}
theorem polS_iff {M : Nat → Nat → Int} (hM : M = fun i j => (poR n k1 k2 k3 k4 k5 k6 l1 l2 l3).getD (i * 4 + j) 0) (v : Nat → Fin n) : Sol n 3 4 M v ↔ PolS n k1 k2 k3 k4 k5 k6 l1 l2 l3 v := by
  have e0 : dot n (M 0) v 4 = 2 * K n k1 * v 0 + K n k2 * v 1 + K n k4 * v 2 - K n l1 * v 3 := by
    rw [dot4, hM]
    show K n (2 * k1 % n) * v 0 + K n k2 * v 1 + K n k4 * v 2 + K n (-l1 % n) * v 3 = _
    rw [K_mod, K_mod, K_mul, K_neg, K_two]; grind
  have e1 : dot n (M 1) v 4 = K n k2 * v 0 + 2 * K n k3 * v 1 + K n k5 * v 2 - K n l2 * v 3 := by
    rw [dot4, hM]
    show K n k2 * v 0 + K n (2 * k3 % n) * v 1 + K n k5 * v 2 + K n (-l2 % n) * v 3 = _
    rw [K_mod, K_mod, K_mul, K_neg, K_two]; grind
  have e2 : dot n (M 2) v 4 = K n k4 * v 0 + K n k5 * v 1 + 2 * K n k6 * v 2 - K n l3 * v 3 := by
    rw [dot4, hM]
    show K n k4 * v 0 + K n k5 * v 1 + K n (2 * k6 % n) * v 2 + K n (-l3 % n) * v 3 = _
    rw [K_mod, K_mod, K_mul, K_neg, K_two]; grind
  constructor
  · intro h
    have h0 := h 0 (by decide)
    have h1 := h 1 (by decide)
    have h2 := h 2 (by decide)
    rw [e0] at h0
    rw [e1] at h1
    rw [e2] at h2
    clear e0 e1 e2 h hM
    refine ⟨?_, ?_, ?_⟩
    · clear h1 h2; grind
    · clear h0 h2; grind
    · clear h0 h1; grind
  · rintro ⟨h0, h1, h2⟩ i hi
    have : i = 0 ∨ i = 1 ∨ i = 2 := by omega
    rcases this with rfl | rfl | rfl
    · rw [e0, h0]; clear e0 e1 e2 h0 h1 h2; grind
    · rw [e1, h1]; clear e0 e1 e2 h0 h1 h2; grind
    · rw [e2, h2]; clear e0 e1 e2 h0 h1 h2; grind
theorem vec4 {P : Nat → Prop} (h0 : P 0) (h1 : P 1) (h2 : P 2) (h3 : P 3) : ∀ j, j < 4 → P j := fun j hj => by
  have : j = 0 ∨ j = 1 ∨ j = 2 ∨ j = 3 := by omega
  rcases this with rfl | rfl | rfl | rfl
  · exact h0
  · exact h1
  · exact h2
  · exact h3
theorem K_dtm : K n (dtm n k1 k2 k3 k4 k5 k6) = 2 * K n k1 * (2 * K n k3 * (2 * K n k6) - K n k5 * K n k5) - K n k2 * (K n k2 * (2 * K n k6) - K n k5 * K n k4) + K n k4 * (K n k2 * K n k5 - 2 * K n k3 * K n k4) := by
  unfold dtm
  simp only [K_mod, K_sub, K_add, K_mul, K_two]
/-- Solutions are in one ratio. -/
theorem pole_par (hp : isP (n : Int) = true) (hD : K n (dtm n k1 k2 k3 k4 k5 k6) ≠ 0) {u v : Nat → Fin n} (hu : PolS n k1 k2 k3 k4 k5 k6 l1 l2 l3 u) (hv : PolS n k1 k2 k3 k4 k5 k6 l1 l2 l3 v) : ∀ j, j < 4 → u 3 * v j = v 3 * u j := by
  obtain ⟨u0, u1, u2⟩ := hu
  obtain ⟨v0, v1, v2⟩ := hv
  have hi := K_inv hp hD
  obtain ⟨d0, d1, d2⟩ := adj3 (w0 := u 3 * v 0 - v 3 * u 0) (w1 := u 3 * v 1 - v 3 * u 1) (w2 := u 3 * v 2 - v 3 * u 2) (K_dtm (n := n) (k1 := k1) (k2 := k2) (k3 := k3) (k4 := k4) (k5 := k5) (k6 := k6))
    (by clear hi hD u1 u2 v1 v2; grind) (by clear hi hD u0 u2 v0 v2; grind) (by clear hi hD u0 u1 v0 v1; grind)
  generalize K n (dtm n k1 k2 k3 k4 k5 k6) = D at hi d0 d1 d2
  generalize K n (inv n (dtm n k1 k2 k3 k4 k5 k6)) = I at hi
  clear hD u0 u1 u2 v0 v1 v2
  refine vec4 ?_ ?_ ?_ ?_
  · clear d1 d2; grind
  · clear d0 d2; grind
  · clear d0 d1; grind
  · clear d0 d1 d2; grind
theorem pole_zero (hp : isP (n : Int) = true) (hD : K n (dtm n k1 k2 k3 k4 k5 k6) ≠ 0) {v : Nat → Fin n} (hv : PolS n k1 k2 k3 k4 k5 k6 l1 l2 l3 v) (h3 : v 3 = 0) : ∀ j, j < 4 → v j = 0 := by
  obtain ⟨v0, v1, v2⟩ := hv
  have hi := K_inv hp hD
  rw [h3] at v0 v1 v2
  obtain ⟨d0, d1, d2⟩ := adj3 (w0 := v 0) (w1 := v 1) (w2 := v 2) (K_dtm (n := n) (k1 := k1) (k2 := k2) (k3 := k3) (k4 := k4) (k5 := k5) (k6 := k6))
    (by rw [v0]; grind) (by rw [v1]; grind) (by rw [v2]; grind)
  generalize K n (dtm n k1 k2 k3 k4 k5 k6) = D at hi d0 d1 d2
  generalize K n (inv n (dtm n k1 k2 k3 k4 k5 k6)) = I at hi
  clear hD v0 v1 v2
  refine vec4 ?_ ?_ ?_ h3
  · clear d1 d2; grind
  · clear d0 d2; grind
  · clear d0 d1; grind
/-- One column alone is free. -/
theorem pole_not (hp : isP (n : Int) = true) (hD : K n (dtm n k1 k2 k3 k4 k5 k6) ≠ 0) (h : OnlyNot n 3 4 fun i j => (poR n k1 k2 k3 k4 k5 k6 l1 l2 l3).getD (i * 4 + j) 0) : False := by
  obtain ⟨r, L, M, hR, hr, hs⟩ := h
  have hN := hR.rN
  have hiff := fun v => (hs v).trans (polS_iff (n := n) rfl v)
  obtain ⟨f, g, hfg, hf, hg⟩ := hR.two (by omega)
  obtain ⟨v, hv, v1, v2, _⟩ := hR.sol_free hf
  obtain ⟨u, hu, u1, u2, _⟩ := hR.sol_free hg
  have hv' := (hiff v).1 hv
  have hu' := (hiff u).1 hu
  have g0 := v2 g hg (Ne.symm hfg)
  have q := pole_par hp hD hu' hv' g hg.1
  rw [g0, u1] at q
  have h3 : v 3 = 0 := by clear hR hs hv hu hv' hu' hiff; grind
  have := pole_zero hp hD hv' h3 f hf.1
  rw [v1] at this
  exact one_ne hp this
/-- A point with a number beside it. -/
def vcP (n : Nat) [NeZero n] (x y : Int) (s : Fin n) (j : Nat) : Fin n := if j = 0 then K n x else if j = 1 then K n y else if j = 2 then 1 else s
theorem polS_vc (x y : Int) (s : Fin n) : PolS n k1 k2 k3 k4 k5 k6 l1 l2 l3 (vcP n x y s) ↔ K n (pu n k1 k2 k4 x y) = K n l1 * s ∧ K n (pv n k2 k3 k5 x y) = K n l2 * s ∧ K n (pw n k4 k5 k6 x y) = K n l3 * s := by
  have a0 : vcP n x y s 0 = K n x := rfl
  have a1 : vcP n x y s 1 = K n y := rfl
  have a2 : vcP n x y s 2 = 1 := rfl
  have a3 : vcP n x y s 3 = s := rfl
  have e0 : K n (pu n k1 k2 k4 x y) = 2 * K n k1 * K n x + K n k2 * K n y + K n k4 * 1 := by
    unfold pu; simp only [K_mod, K_add, K_mul, K_two]; grind
  have e1 : K n (pv n k2 k3 k5 x y) = K n k2 * K n x + 2 * K n k3 * K n y + K n k5 * 1 := by
    unfold pv; simp only [K_mod, K_add, K_mul, K_two]; grind
  have e2 : K n (pw n k4 k5 k6 x y) = K n k4 * K n x + K n k5 * K n y + 2 * K n k6 * 1 := by
    unfold pw; simp only [K_mod, K_add, K_mul, K_two]; grind
  unfold PolS
  rw [a0, a1, a2, a3, e0, e1, e2]
theorem line_some {a b c : Int} (hp : isP (n : Int) = true) (hl : lineB n a b c = true) : ¬ (K n a = 0 ∧ K n b = 0) := by
  have h1 := K_one_ne hp
  rintro ⟨ha, hb⟩
  rcases lead_ways (lineB_in hl).1 with rfl | ⟨rfl, rfl⟩
  · exact h1 ha
  · exact h1 hb
theorem plM_sol (hp : isP (n : Int) = true) {x y : Int} (h : plM n k1 k2 k3 k4 k5 k6 l1 l2 l3 x y = true) : ∃ s : Fin n, PolS n k1 k2 k3 k4 k5 k6 l1 l2 l3 (vcP n x y s) := by
  unfold plM at h
  have hz : plZ n k1 k2 k3 k4 k5 x y = false := by
    cases hz : plZ n k1 k2 k3 k4 k5 x y
    · rfl
    · rw [hz] at h; simp at h
  rw [hz] at h
  simp only [Bool.not_false, Bool.true_and, Bool.and_eq_true, beq_iff_eq] at h
  have g1 := h.1.1
  have g2 := h.1.2
  have g3 := h.2
  unfold pl1 at g1
  unfold pl2 at g2
  unfold pl3 at g3
  rw [hz] at g1 g2 g3
  have h1 : mk1 n (pu n k1 k2 k4 x y) (pv n k2 k3 k5 x y) (pw n k4 k5 k6 x y) = l1 := by simpa using g1
  have h2 : mk2 n (pu n k1 k2 k4 x y) (pv n k2 k3 k5 x y) (pw n k4 k5 k6 x y) = l2 := by simpa using g2
  have h3 : mk3 n (pu n k1 k2 k4 x y) (pv n k2 k3 k5 x y) (pw n k4 k5 k6 x y) = l3 := by simpa using g3
  clear g1 g2 g3 h
  have hn : ¬ (K n (pu n k1 k2 k4 x y) = 0 ∧ K n (pv n k2 k3 k5 x y) = 0) := by
    rintro ⟨q1, q2⟩
    rw [K_eq_zero] at q1 q2
    have r1 := pu_r k1 k2 k4 x y hp
    have r2 := pv_r k2 k3 k5 x y hp
    rw [Int.emod_eq_of_lt r1.1 r1.2] at q1
    rw [Int.emod_eq_of_lt r2.1 r2.2] at q2
    rw [plZ, q1, q2] at hz
    simp at hz
  have c1 : K n l1 = K n (pu n k1 k2 k4 x y) * K n (nrm n (pu n k1 k2 k4 x y) (pv n k2 k3 k5 x y)) := by rw [← h1, mk1, K_mod, K_mul]
  have c2 : K n l2 = K n (pv n k2 k3 k5 x y) * K n (nrm n (pu n k1 k2 k4 x y) (pv n k2 k3 k5 x y)) := by rw [← h2, mk2, K_mod, K_mul]
  have c3 : K n l3 = K n (pw n k4 k5 k6 x y) * K n (nrm n (pu n k1 k2 k4 x y) (pv n k2 k3 k5 x y)) := by rw [← h3, mk3, K_mod, K_mul]
  have hk := K_nrm hp hn
  generalize K n (nrm n (pu n k1 k2 k4 x y) (pv n k2 k3 k5 x y)) = N at *
  rcases hk with ⟨_, hk⟩ | ⟨_, _, hk⟩
  · refine ⟨K n (pu n k1 k2 k4 x y), (polS_vc x y _).2 ?_⟩
    generalize K n (pu n k1 k2 k4 x y) = A at *
    generalize K n (pv n k2 k3 k5 x y) = B at *
    generalize K n (pw n k4 k5 k6 x y) = C at *
    rw [c1, c2, c3]
    clear c1 c2 c3 h1 h2 h3 hn hz
    refine ⟨?_, ?_, ?_⟩ <;> grind
  · refine ⟨K n (pv n k2 k3 k5 x y), (polS_vc x y _).2 ?_⟩
    generalize K n (pu n k1 k2 k4 x y) = A at *
    generalize K n (pv n k2 k3 k5 x y) = B at *
    generalize K n (pw n k4 k5 k6 x y) = C at *
    rw [c1, c2, c3]
    clear c1 c2 c3 h1 h2 h3 hn hz
    refine ⟨?_, ?_, ?_⟩ <;> grind
theorem sol_plM (hp : isP (n : Int) = true) (hl : lineB n l1 l2 l3 = true) {x y s : Int} (hs : K n s ≠ 0) (h : PolS n k1 k2 k3 k4 k5 k6 l1 l2 l3 (vcP n x y (K n s))) : plM n k1 k2 k3 k4 k5 k6 l1 l2 l3 x y = true := by
  obtain ⟨h1, h2, h3⟩ := (polS_vc x y _).1 h
  have hn := line_some hp hl
  obtain ⟨m1, m2, m3⟩ := mk_ratio hp hs hn (c := l3) (a' := pu n k1 k2 k4 x y) (b' := pv n k2 k3 k5 x y) (c' := pw n k4 k5 k6 x y) (by rw [h1, Lean.Grind.CommRing.mul_comm]) (by rw [h2, Lean.Grind.CommRing.mul_comm]) (by rw [h3, Lean.Grind.CommRing.mul_comm])
  obtain ⟨g1, g2, g3⟩ := mk_lead hp hl
  have hz : plZ n k1 k2 k3 k4 k5 x y = false := by
    cases hz : plZ n k1 k2 k3 k4 k5 x y
    · rfl
    · exfalso
      have q := Bool.and_eq_true_iff.1 hz
      rw [beq_iff_eq.1 q.1, K_zero] at h1
      rw [beq_iff_eq.1 q.2, K_zero] at h2
      have hi := K_inv hp hs
      refine hn ⟨?_, ?_⟩
      · generalize K n s = S at *
        generalize K n (inv n s) = I at *
        clear h2 h3 hn hz q m1 m2 m3 h
        grind
      · generalize K n s = S at *
        generalize K n (inv n s) = I at *
        clear h1 h3 hn hz q m1 m2 m3 h
        grind
  unfold plM pl1 pl2 pl3
  rw [hz, m1, m2, m3, g1, g2, g3]
  simp
/-- The point that is answered, and that there is none. -/
theorem pole_is (hp : isP (n : Int) = true) (hl : lineB n l1 l2 l3 = true) (hd : (dtm n k1 k2 k3 k4 k5 k6 == 0) = false) {x : Nat → Int} (hr : ∀ j, j < 4 → 0 ≤ x j ∧ x j < (n : Int)) (h : OnlyBy n 3 4 (fun i j => (poR n k1 k2 k3 k4 k5 k6 l1 l2 l3).getD (i * 4 + j) 0) x) :
    (x 2 = 0 → poF n k1 k2 k3 k4 k5 k6 l1 l2 l3 = none) ∧ (x 2 ≠ 0 → poF n k1 k2 k3 k4 k5 k6 l1 l2 l3 = some (x 0 * inv n (x 2) % n, x 1 * inv n (x 2) % n)) := by
  have hD : K n (dtm n k1 k2 k3 k4 k5 k6) ≠ 0 := K_small (dtm_r _ _ _ _ _ _ hp) (by simpa using hd)
  have hpr := isP_range hp
  obtain ⟨f, hf, hx, hs, hm⟩ := only_mult h
  have hs' := (polS_iff rfl _).1 hs
  have hm' : ∀ v : Nat → Fin n, PolS n k1 k2 k3 k4 k5 k6 l1 l2 l3 v → ∀ j, j < 4 → v j = v f * K n (x j) := fun v hv => hm v ((polS_iff rfl _).2 hv)
  have hX3 : K n (x 3) ≠ 0 := fun e => by
    have := pole_zero hp hD hs' e f hf
    rw [hx, K_one] at this
    exact one_ne hp this
  have hlt : ∀ z, z ∈ gridL (fun x y => plM n k1 k2 k3 k4 k5 k6 l1 l2 l3 x y) n n → plM n k1 k2 k3 k4 k5 k6 l1 l2 l3 z.1 z.2 = true ∧ (0 ≤ z.1 ∧ z.1 < (n : Int)) ∧ 0 ≤ z.2 ∧ z.2 < (n : Int) := fun z hz =>
    ⟨((grid_in z).1 hz).2, ((grid_in z).1 hz).1⟩
  have hone : ∀ a b : Int, plM n k1 k2 k3 k4 k5 k6 l1 l2 l3 a b = true → ∃ c : Fin n, K n a = c * K n (x 0) ∧ K n b = c * K n (x 1) ∧ 1 = c * K n (x 2) := fun a b hab => by
    obtain ⟨s, hS⟩ := plM_sol hp hab
    have q := hm' _ hS
    exact ⟨_, q 0 (by decide), q 1 (by decide), q 2 (by decide)⟩
  unfold poF
  rw [Int.toNat_natCast]
  constructor
  · intro h2
    cases hh : (gridL (fun x y => plM n k1 k2 k3 k4 k5 k6 l1 l2 l3 x y) n n).head? with
    | none => rfl
    | some z =>
      obtain ⟨c, _, _, q⟩ := hone z.1 z.2 (hlt z (List.mem_of_mem_head? hh)).1
      rw [h2, K_zero] at q
      exact (one_ne hp (by rw [q]; grind)).elim
  · intro h2
    have hX2 := K_small (hr 2 (by decide)) h2
    have hi := K_inv hp hX2
    have hpx := modR (x 0 * inv n (x 2)) hp
    have hpy := modR (x 1 * inv n (x 2)) hp
    have kx : K n (x 0 * inv n (x 2) % n) = K n (x 0) * K n (inv n (x 2)) := by rw [K_mod, K_mul]
    have ky : K n (x 1 * inv n (x 2) % n) = K n (x 1) * K n (inv n (x 2)) := by rw [K_mod, K_mul]
    have hin : plM n k1 k2 k3 k4 k5 k6 l1 l2 l3 (x 0 * inv n (x 2) % n) (x 1 * inv n (x 2) % n) = true := by
      refine sol_plM hp hl (s := x 3 * inv n (x 2)) ?_ ?_
      · intro e
        rw [K_mul] at e
        rcases K_noz hp e with e | e
        · exact hX3 e
        · rw [e] at hi
          exact one_ne hp (by rw [← hi]; grind)
      · obtain ⟨s0, s1, s2⟩ := hs'
        have b0 : ∀ s, vcP n (x 0 * inv n (x 2) % n) (x 1 * inv n (x 2) % n) s 0 = K n (x 0) * K n (inv n (x 2)) := fun _ => kx
        have b1 : ∀ s, vcP n (x 0 * inv n (x 2) % n) (x 1 * inv n (x 2) % n) s 1 = K n (x 1) * K n (inv n (x 2)) := fun _ => ky
        have b2 : ∀ s, vcP n (x 0 * inv n (x 2) % n) (x 1 * inv n (x 2) % n) s 2 = K n (x 2) * K n (inv n (x 2)) := fun _ => hi.symm
        have b3 : vcP n (x 0 * inv n (x 2) % n) (x 1 * inv n (x 2) % n) (K n (x 3 * inv n (x 2))) 3 = K n (x 3) * K n (inv n (x 2)) := K_mul _ _
        unfold PolS
        rw [b0, b1, b2, b3]
        simp only at s0 s1 s2
        generalize K n (inv n (x 2)) = I at *
        generalize K n (x 0) = X0 at *
        generalize K n (x 1) = X1 at *
        generalize K n (x 2) = X2 at *
        generalize K n (x 3) = X3 at *
        clear hm hm' hone hlt hr h hs b0 b1 b2 b3 kx ky hi hX2 hX3 hD hx
        refine ⟨?_, ?_, ?_⟩
        · clear s1 s2; grind
        · clear s0 s2; grind
        · clear s0 s1; grind
    have hmem : (x 0 * inv n (x 2) % n, x 1 * inv n (x 2) % n) ∈ gridL (fun x y => plM n k1 k2 k3 k4 k5 k6 l1 l2 l3 x y) n n := by
      exact (grid_in _).2 ⟨⟨hpx, hpy⟩, hin⟩
    cases hh : (gridL (fun x y => plM n k1 k2 k3 k4 k5 k6 l1 l2 l3 x y) n n).head? with
    | none =>
      rw [List.head?_eq_none_iff] at hh
      rw [hh] at hmem
      simp at hmem
    | some z =>
      obtain ⟨h1, r1, r2⟩ := hlt z (List.mem_of_mem_head? hh)
      obtain ⟨c, c0, c1, c2⟩ := hone z.1 z.2 h1
      have hc : c = K n (inv n (x 2)) := by
        generalize K n (inv n (x 2)) = I at *
        generalize K n (x 2) = X2 at *
        clear hm hm' hone hlt hr h hs hX2 hX3 hD hx c0 c1 kx ky
        grind
      have e1 : z.1 = x 0 * inv n (x 2) % n := K_inj r1 hpx (by rw [kx, c0, hc]; grind)
      have e2 : z.2 = x 1 * inv n (x 2) % n := K_inj r2 hpy (by rw [ky, c1, hc]; grind)
      rw [← e1, ← e2]
end
end Go.Proofs.Ytmpgpmcmhbpjeaa
