/-
  Conics: their numbers; no program.
-/
import Derived.Test.YtmpgpmcmhbpjeaaBaseMath
namespace Go.Proofs.Ytmpgpmcmhbpjeaa
open Go.RowKit

set_option linter.unusedSimpArgs false in
theorem nums6_of (p a b c d e f : Int) : numsIn p [a, b, c, d, e, f] = (inB a 0 (p - 1) && (inB b 0 (p - 1) && (inB c 0 (p - 1) && (inB d 0 (p - 1) && (inB e 0 (p - 1) && inB f 0 (p - 1)))))) := by simp [numsIn]
set_option linter.unusedSimpArgs false in
theorem cells6 {w : World} {b : Nat} {a0 a1 a2 a3 a4 a5 : Int} (h0 : w.cell? ⟨b, 0, none⟩ = some (.int .i64 a0)) (h1 : w.cell? ⟨b, 1, none⟩ = some (.int .i64 a1)) (h2 : w.cell? ⟨b, 2, none⟩ = some (.int .i64 a2)) (h3 : w.cell? ⟨b, 3, none⟩ = some (.int .i64 a3)) (h4 : w.cell? ⟨b, 4, none⟩ = some (.int .i64 a4)) (h5 : w.cell? ⟨b, 5, none⟩ = some (.int .i64 a5)) : Cells w b 0 [a0, a1, a2, a3, a4, a5] := by
  intro i hi
  have : i = 0 ∨ i = 1 ∨ i = 2 ∨ i = 3 ∨ i = 4 ∨ i = 5 := by simp at hi; omega
  rcases this with rfl | rfl | rfl | rfl | rfl | rfl <;> simpa
/-- The first one of three numbers that is not 0. -/
def ld3 (a b c : Int) : Int := if (a == 0) = true then (if (b == 0) = true then c else b) else a
set_option linter.unusedSimpArgs false in
theorem ld3_r {p a b c : Int} (ha : 0 ≤ a ∧ a < p) (hb : 0 ≤ b ∧ b < p) (hc : 0 ≤ c ∧ c < p) : 0 ≤ ld3 a b c ∧ ld3 a b c < p := by
  unfold ld3; split
  · split
    · exact hc
    · exact hb
  · exact ha
/-- Whether six numbers are a conic. -/
def cnB (p k1 k2 k3 k4 k5 k6 : Int) : Bool := ld3 k1 k2 k3 == 1 && numsIn p [k1, k2, k3, k4, k5, k6]
set_option linter.unusedSimpArgs false in
theorem cnB_nums {p k1 k2 k3 k4 k5 k6 : Int} (h : cnB p k1 k2 k3 k4 k5 k6 = true) : numsIn p [k1, k2, k3, k4, k5, k6] = true := (Bool.and_eq_true_iff.1 h).2
set_option linter.unusedSimpArgs false in
theorem cnB_lead {p k1 k2 k3 k4 k5 k6 : Int} (h : cnB p k1 k2 k3 k4 k5 k6 = true) : ld3 k1 k2 k3 = 1 := by simpa using (Bool.and_eq_true_iff.1 h).1
/-- A number of the conic that six numbers make. -/
def ck (p k1 k2 k3 x : Int) : Int := x * inv p (ld3 k1 k2 k3) % p
set_option linter.unusedSimpArgs false in
theorem ck_r (k1 k2 k3 x : Int) {p : Int} (h : isP p = true) : 0 ≤ ck p k1 k2 k3 x ∧ ck p k1 k2 k3 x < p := modR _ h
/-- Sums of products. -/
def sp3 (p x1 x2 x3 y1 y2 y3 : Int) : Int := (x1 * y1 + x2 * y2 + x3 * y3) % p
def sp6 (p x1 x2 x3 x4 x5 x6 y1 y2 y3 y4 y5 y6 : Int) : Int := (x1 * y1 + x2 * y2 + x3 * y3 + x4 * y4 + x5 * y5 + x6 * y6) % p
set_option linter.unusedSimpArgs false in
theorem sp3_r (x1 x2 x3 y1 y2 y3 : Int) {p : Int} (h : isP p = true) : 0 ≤ sp3 p x1 x2 x3 y1 y2 y3 ∧ sp3 p x1 x2 x3 y1 y2 y3 < p := modR _ h
set_option linter.unusedSimpArgs false in
theorem sp6_r (x1 x2 x3 x4 x5 x6 y1 y2 y3 y4 y5 y6 : Int) {p : Int} (h : isP p = true) : 0 ≤ sp6 p x1 x2 x3 x4 x5 x6 y1 y2 y3 y4 y5 y6 ∧ sp6 p x1 x2 x3 x4 x5 x6 y1 y2 y3 y4 y5 y6 < p := modR _ h
/-- A conic's value at a point. -/
def cvl (p k1 k2 k3 k4 k5 k6 x y : Int) : Int := (k1 * x * x + k2 * x * y + k3 * y * y + k4 * x + k5 * y + k6) % p
set_option linter.unusedSimpArgs false in
theorem cvl_r (k1 k2 k3 k4 k5 k6 x y : Int) {p : Int} (h : isP p = true) : 0 ≤ cvl p k1 k2 k3 k4 k5 k6 x y ∧ cvl p k1 k2 k3 k4 k5 k6 x y < p := modR _ h
def dsc (p k1 k2 k3 : Int) : Int := (k2 * k2 - 4 * k1 * k3) % p
set_option linter.unusedSimpArgs false in
theorem dsc_r (k1 k2 k3 : Int) {p : Int} (h : isP p = true) : 0 ≤ dsc p k1 k2 k3 ∧ dsc p k1 k2 k3 < p := modR _ h
def dtm (p k1 k2 k3 k4 k5 k6 : Int) : Int := (2 * k1 * (2 * k3 * (2 * k6) - k5 * k5) - k2 * (k2 * (2 * k6) - k5 * k4) + k4 * (k2 * k5 - 2 * k3 * k4)) % p
set_option linter.unusedSimpArgs false in
theorem dtm_r (k1 k2 k3 k4 k5 k6 : Int) {p : Int} (h : isP p = true) : 0 ≤ dtm p k1 k2 k3 k4 k5 k6 ∧ dtm p k1 k2 k3 k4 k5 k6 < p := modR _ h
/-- The numbers that make a polar. -/
def pu (p k1 k2 k4 x y : Int) : Int := (2 * k1 * x + k2 * y + k4) % p
def pv (p k2 k3 k5 x y : Int) : Int := (k2 * x + 2 * k3 * y + k5) % p
def pw (p k4 k5 k6 x y : Int) : Int := (k4 * x + k5 * y + 2 * k6) % p
set_option linter.unusedSimpArgs false in
theorem pu_r (k1 k2 k4 x y : Int) {p : Int} (h : isP p = true) : 0 ≤ pu p k1 k2 k4 x y ∧ pu p k1 k2 k4 x y < p := modR _ h
set_option linter.unusedSimpArgs false in
theorem pv_r (k2 k3 k5 x y : Int) {p : Int} (h : isP p = true) : 0 ≤ pv p k2 k3 k5 x y ∧ pv p k2 k3 k5 x y < p := modR _ h
set_option linter.unusedSimpArgs false in
theorem pw_r (k4 k5 k6 x y : Int) {p : Int} (h : isP p = true) : 0 ≤ pw p k4 k5 k6 x y ∧ pw p k4 k5 k6 x y < p := modR _ h
def plZ (p k1 k2 k3 k4 k5 x y : Int) : Bool := pu p k1 k2 k4 x y == 0 && pv p k2 k3 k5 x y == 0
def pl1 (p k1 k2 k3 k4 k5 k6 x y : Int) : Int := if plZ p k1 k2 k3 k4 k5 x y = true then 0 else mk1 p (pu p k1 k2 k4 x y) (pv p k2 k3 k5 x y) (pw p k4 k5 k6 x y)
def pl2 (p k1 k2 k3 k4 k5 k6 x y : Int) : Int := if plZ p k1 k2 k3 k4 k5 x y = true then 0 else mk2 p (pu p k1 k2 k4 x y) (pv p k2 k3 k5 x y) (pw p k4 k5 k6 x y)
def pl3 (p k1 k2 k3 k4 k5 k6 x y : Int) : Int := if plZ p k1 k2 k3 k4 k5 x y = true then 0 else mk3 p (pu p k1 k2 k4 x y) (pv p k2 k3 k5 x y) (pw p k4 k5 k6 x y)
set_option linter.unusedSimpArgs false in
theorem pl_r (k1 k2 k3 k4 k5 k6 x y : Int) {p : Int} (h : isP p = true) : (0 ≤ pl1 p k1 k2 k3 k4 k5 k6 x y ∧ pl1 p k1 k2 k3 k4 k5 k6 x y < p) ∧ (0 ≤ pl2 p k1 k2 k3 k4 k5 k6 x y ∧ pl2 p k1 k2 k3 k4 k5 k6 x y < p) ∧ (0 ≤ pl3 p k1 k2 k3 k4 k5 k6 x y ∧ pl3 p k1 k2 k3 k4 k5 k6 x y < p) := by
  have hr := isP_range h
  unfold pl1 pl2 pl3
  split
  · omega
  · exact ⟨modR _ h, modR _ h, modR _ h⟩
set_option linter.unusedSimpArgs false in
theorem mk_r (a b c : Int) {p : Int} (h : isP p = true) : (0 ≤ mk1 p a b c ∧ mk1 p a b c < p) ∧ (0 ≤ mk2 p a b c ∧ mk2 p a b c < p) ∧ (0 ≤ mk3 p a b c ∧ mk3 p a b c < p) := ⟨modR _ h, modR _ h, modR _ h⟩
set_option linter.unusedSimpArgs false in
theorem inv_zero {p : Int} (hp : isP p = true) : inv p 0 = 0 := by
  obtain ⟨n, rfl⟩ := Int.eq_ofNat_of_zero_le (by have := isP_range hp; omega : 0 ≤ p)
  have h := pow_inv hp (m := 0) (by have := isP_ne hp; omega)
  have e := inv_cast n 0
  rw [show ((0 : Nat) : Int) = 0 from rfl] at e
  rw [e, ← h, Nat.zero_pow (by have := isP_ne hp; omega), Nat.zero_mod]; rfl
set_option linter.unusedSimpArgs false in
theorem ck_zero {p k1 k2 k3 : Int} (hp : isP p = true) (h : (ld3 k1 k2 k3 == 0) = true) (x : Int) : ck p k1 k2 k3 x = 0 := by
  unfold ck; rw [beq_iff_eq.1 h, inv_zero hp]; simp
section
variable {p : Int} (hp : isP p = true) (k1 k2 k3 k4 k5 k6 x y : Int)
include hp
set_option linter.unusedSimpArgs false in
theorem sp_pu : sp3 p (2 * k1 % p) k2 k4 x y 1 = pu p k1 k2 k4 x y := by
  obtain ⟨n, rfl⟩ := Int.eq_ofNat_of_zero_le (by have := isP_range hp; omega : 0 ≤ p)
  haveI := neZero_of hp
  unfold sp3 pu
  rw [← K_ext]
  simp only [K_mod, K_sub, K_add, K_mul, K_one]
  grind
set_option linter.unusedSimpArgs false in
theorem sp_pv : sp3 p k2 (2 * k3 % p) k5 x y 1 = pv p k2 k3 k5 x y := by
  obtain ⟨n, rfl⟩ := Int.eq_ofNat_of_zero_le (by have := isP_range hp; omega : 0 ≤ p)
  haveI := neZero_of hp
  unfold sp3 pv
  rw [← K_ext]
  simp only [K_mod, K_sub, K_add, K_mul, K_one]
  grind
set_option linter.unusedSimpArgs false in
theorem sp_pw : sp3 p k4 k5 (2 * k6 % p) x y 1 = pw p k4 k5 k6 x y := by
  obtain ⟨n, rfl⟩ := Int.eq_ofNat_of_zero_le (by have := isP_range hp; omega : 0 ≤ p)
  haveI := neZero_of hp
  unfold sp3 pw
  rw [← K_ext]
  simp only [K_mod, K_sub, K_add, K_mul, K_one]
  grind
set_option linter.unusedSimpArgs false in
theorem sp_cv : sp6 p k1 k2 k3 k4 k5 k6 (x * x % p) (x * y % p) (y * y % p) x y 1 = cvl p k1 k2 k3 k4 k5 k6 x y := by
  obtain ⟨n, rfl⟩ := Int.eq_ofNat_of_zero_le (by have := isP_range hp; omega : 0 ≤ p)
  haveI := neZero_of hp
  unfold sp6 cvl
  rw [← K_ext]
  simp only [K_mod, K_sub, K_add, K_mul, K_one]
  grind
set_option linter.unusedSimpArgs false in
theorem dt_rows : (2 * k1 % p * (2 * k3 % p * (2 * k6 % p) - k5 * k5) + k2 * (k5 * k4 - k2 * (2 * k6 % p)) + k4 * (k2 * k5 - 2 * k3 % p * k4)) % p = dtm p k1 k2 k3 k4 k5 k6 := by
  obtain ⟨n, rfl⟩ := Int.eq_ofNat_of_zero_le (by have := isP_range hp; omega : 0 ≤ p)
  haveI := neZero_of hp
  unfold dtm
  rw [← K_ext]
  simp only [K_mod, K_sub, K_add, K_mul, K_two]
  grind
set_option linter.unusedSimpArgs false in
/-- A point on a proper conic has a polar. -/
theorem tan_polar (hd : (dtm p k1 k2 k3 k4 k5 k6 == 0) = false) (hv : (cvl p k1 k2 k3 k4 k5 k6 x y == 0) = true) : plZ p k1 k2 k3 k4 k5 x y = false := by
  cases hz : plZ p k1 k2 k3 k4 k5 x y
  · rfl
  · exfalso
    obtain ⟨n, rfl⟩ := Int.eq_ofNat_of_zero_le (by have := isP_range hp; omega : 0 ≤ p)
    haveI := neZero_of hp
    have h := Bool.and_eq_true_iff.1 hz
    have h1 := beq_iff_eq.1 h.1
    have h2 := beq_iff_eq.1 h.2
    have h3 := beq_iff_eq.1 hv
    apply (beq_eq_false_iff_ne.1 hd)
    unfold pu at h1
    unfold pv at h2
    unfold cvl at h3
    unfold dtm
    rw [← K_eq_zero] at h1 h2 h3 ⊢
    simp only [K_mod, K_sub, K_add, K_mul, K_two] at h1 h2 h3 ⊢
    grind
end
end Go.Proofs.Ytmpgpmcmhbpjeaa
