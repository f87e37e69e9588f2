/-
  Moves: their numbers; no program.
-/
import Derived.Test.YtodabjolblamgaaBaseMath
namespace Go.Proofs.Ytodabjolblamgaa
open Go.RowKit

theorem nums6_in (p a b c d e f : Int) : numsIn p [a, b, c, d, e, f] = (inB a 0 (p - 1) && (inB b 0 (p - 1) && (inB c 0 (p - 1) && (inB d 0 (p - 1) && numsIn p [e, f])))) := by simp [numsIn]
theorem nums6_42 (p a b c d e f : Int) : numsIn p [a, b, c, d, e, f] = (numsIn p [a, b, c, d] && numsIn p [e, f]) := by simp [numsIn, Bool.and_assoc]
theorem cells4 {w : World} {b : Nat} {a0 a1 a2 a3 : Int} (h0 : w.cell? ⟨b, 0, none⟩ = some (.int .i64 a0)) (h1 : w.cell? ⟨b, 1, none⟩ = some (.int .i64 a1)) (h2 : w.cell? ⟨b, 2, none⟩ = some (.int .i64 a2)) (h3 : w.cell? ⟨b, 3, none⟩ = some (.int .i64 a3)) : Cells w b 0 [a0, a1, a2, a3] := by
  intro i hi
  have : i = 0 ∨ i = 1 ∨ i = 2 ∨ i = 3 := by simp at hi; omega
  rcases this with rfl | rfl | rfl | rfl <;> simpa
theorem twoP {a b c d : Int} (ha : 0 ≤ a ∧ a ≤ 31) (hb : 0 ≤ b ∧ b ≤ 31) (hc : 0 ≤ c ∧ c ≤ 31) (hd : 0 ≤ d ∧ d ≤ 31) : 0 ≤ a * b + c * d ∧ a * b + c * d ≤ 1922 := by
  have h1 := mulP ha hb
  have h2 := mulP hc hd
  omega
/-- A row of a matrix at a point. -/
def ld (p a b x y : Int) : Int := (a * x + b * y) % p
/-- A row of a map at a point. -/
def mv (p a b u x y : Int) : Int := (a * x + b * y + u) % p
theorem ld_r (a b x y : Int) {p : Int} (h : isP p = true) : 0 ≤ ld p a b x y ∧ ld p a b x y < p := modR _ h
theorem mv_r (a b u x y : Int) {p : Int} (h : isP p = true) : 0 ≤ mv p a b u x y ∧ mv p a b u x y < p := modR _ h
theorem mv_ld (p a b u x y : Int) : (ld p a b x y + u) % p = mv p a b u x y := by unfold ld mv; rw [Int.emod_add_emod]
/-- Whether a map is a move. -/
def mvB (p c m1 m2 m3 m4 : Int) : Bool :=
  (prd p c (ld p m1 m2 1 0) (ld p m3 m4 1 0) (ld p m1 m2 1 0) (ld p m3 m4 1 0) == prd p c 1 0 1 0) &&
  ((prd p c (ld p m1 m2 0 1) (ld p m3 m4 0 1) (ld p m1 m2 0 1) (ld p m3 m4 0 1) == prd p c 0 1 0 1) &&
  (prd p c (ld p m1 m2 1 0) (ld p m3 m4 1 0) (ld p m1 m2 0 1) (ld p m3 m4 0 1) == prd p c 1 0 0 1))
def mvQ1 (p c m1 m2 m3 m4 m5 m6 : Int) : Bool := qdr p c (mv p m1 m2 m5 1 0) (mv p m3 m4 m6 1 0) (mv p m1 m2 m5 0 0) (mv p m3 m4 m6 0 0) == qdr p c 1 0 0 0
def mvQ2 (p c m1 m2 m3 m4 m5 m6 : Int) : Bool := qdr p c (mv p m1 m2 m5 0 1) (mv p m3 m4 m6 0 1) (mv p m1 m2 m5 0 0) (mv p m3 m4 m6 0 0) == qdr p c 0 1 0 0
def mvQ3 (p c m1 m2 m3 m4 m5 m6 : Int) : Bool := qdr p c (mv p m1 m2 m5 0 1) (mv p m3 m4 m6 0 1) (mv p m1 m2 m5 1 0) (mv p m3 m4 m6 1 0) == qdr p c 0 1 1 0
theorem prd_K (n : Nat) [NeZero n] (c a1 a2 b1 b2 : Int) : K n (prd n c a1 a2 b1 b2) = if c = 0 then K n a1 * K n b1 + K n a2 * K n b2 else if c = 1 then K n a1 * K n b1 - K n a2 * K n b2 else K n a1 * K n b2 + K n a2 * K n b1 := by
  unfold prd; split
  · simp only [K_mod, K_add, K_mul]
  · split <;> simp only [K_mod, K_add, K_sub, K_mul]
theorem prd_beq {n : Nat} [NeZero n] (hp : isP (n : Int) = true) (c a1 a2 b1 b2 c' a1' a2' b1' b2' : Int) : (prd n c a1 a2 b1 b2 == prd n c' a1' a2' b1' b2') = true ↔ K n (prd n c a1 a2 b1 b2) = K n (prd n c' a1' a2' b1' b2') := by
  rw [beq_iff_eq]
  exact ⟨fun h => by rw [h], fun h => K_inj (prd_lt _ _ _ _ _ hp) (prd_lt _ _ _ _ _ hp) h⟩
theorem K_halves {n : Nat} [NeZero n] (hp : isP (n : Int) = true) : ∃ h : Fin n, h * 2 = 1 := by
  have h2 : K n 2 ≠ 0 := K_small ⟨by decide, by have := isP_range hp; omega⟩ (by decide)
  have := K_inv hp h2
  exact ⟨K n (inv n 2), by rw [← K_two]; grind⟩
theorem half {R : Type} [Lean.Grind.CommRing R] {i x y : R} (hi : i * 2 = 1) (h : 2 * x = 2 * y) : x = y := by
  have e : i * (2 * x) = i * (2 * y) := by rw [h]
  have e1 : i * (2 * x) = i * 2 * x := by grind
  have e2 : i * (2 * y) = i * 2 * y := by grind
  rw [e1, e2, hi] at e
  grind
set_option linter.unusedSimpArgs false in
/-- A map keeps the products of the axes just where it keeps three quadrances. -/
theorem mvB_impl {p c m1 m2 m3 m4 m5 m6 : Int} (hp : isP p = true) (hc : colB c = true) : (mvQ1 p c m1 m2 m3 m4 m5 m6 && (mvQ2 p c m1 m2 m3 m4 m5 m6 && mvQ3 p c m1 m2 m3 m4 m5 m6)) = mvB p c m1 m2 m3 m4 := by
  obtain ⟨n, rfl⟩ := Int.eq_ofNat_of_zero_le (by have := isP_range hp; omega : 0 ≤ p)
  haveI := neZero_of hp
  obtain ⟨i2, hi⟩ := K_halves hp
  rw [Bool.eq_iff_iff]
  simp only [Bool.and_eq_true, mvQ1, mvQ2, mvQ3, mvB, qdr]
  rw [prd_beq hp, prd_beq hp, prd_beq hp, prd_beq hp, prd_beq hp, prd_beq hp]
  simp only [prd_K, K_mod, K_sub, ld, mv, K_add, K_mul, K_zero, K_one]
  generalize K n m1 = a at *
  generalize K n m2 = b at *
  generalize K n m3 = d at *
  generalize K n m4 = e at *
  rcases colB_ways hc with rfl | rfl | rfl <;> simp <;> clear hc <;> constructor <;> rintro ⟨h1, h2, h3⟩ <;> refine ⟨?_, ?_, ?_⟩ <;> first | grind | (refine half hi ?_; grind)
/-- The sign of a map. -/
def sgn (p m1 m2 m3 m4 : Int) : Int := (m1 * m4 - m2 * m3) % p
theorem sgn_r (m1 m2 m3 m4 : Int) {p : Int} (h : isP p = true) : 0 ≤ sgn p m1 m2 m3 m4 ∧ sgn p m1 m2 m3 m4 < p := modR _ h

end Go.Proofs.Ytodabjolblamgaa
