/-
  Orders of moves: powers come back to the identity; no program.
-/
import Derived.Test.YthfckpfiechloaaMoveProd
namespace Go.Proofs.Ythfckpfiechloaa
open Go.RowKit

theorem nodup_le : ∀ (N : Nat) (l : List Nat), l.Nodup → (∀ x ∈ l, x < N) → l.length ≤ N
  | 0, l, _, h => by
    cases l with
    | nil => simp
    | cons x l => have := h x (by simp); omega
  | N + 1, l, hn, h => by
    by_cases hm : N ∈ l
    · have h1 : (l.erase N).length ≤ N := nodup_le N (l.erase N) (hn.erase N) fun x hx => by
        have hx' := (List.Nodup.mem_erase_iff hn).1 hx
        have := h x hx'.2
        have := hx'.1
        omega
      rw [List.length_erase_of_mem hm] at h1
      omega
    · have := nodup_le N l hn fun x hx => by
        have h1 := h x hx
        have h2 : x ≠ N := fun e => hm (e ▸ hx)
        omega
      omega
theorem pigeon (N : Nat) (f : Nat → Nat) (h : ∀ i, f i < N) : ∃ i j, i < j ∧ j ≤ N ∧ f i = f j := by
  refine Classical.byContradiction fun hc => ?_
  have hd : ((List.range (N + 1)).map f).Nodup := by
    rw [List.Nodup, List.pairwise_map]
    refine List.Pairwise.imp_of_mem ?_ (List.pairwise_lt_range (n := N + 1))
    intro a b ha hb hab e
    exact hc ⟨a, b, hab, by have := List.mem_range.1 hb; omega, e⟩
  have := nodup_le N _ hd fun x hx => by
    obtain ⟨i, _, rfl⟩ := List.mem_map.1 hx
    exact h i
  simp at this
  omega
abbrev Mv := Int × Int × Int × Int × Int × Int
/-- First m, then n. -/
def tmM (p : Int) (m n : Mv) : Mv :=
  (pd p n.1 n.2.1 m.1 m.2.1 m.2.2.1 m.2.2.2.1 1 0, pd p n.1 n.2.1 m.1 m.2.1 m.2.2.1 m.2.2.2.1 0 1, pd p n.2.2.1 n.2.2.2.1 m.1 m.2.1 m.2.2.1 m.2.2.2.1 1 0, pd p n.2.2.1 n.2.2.2.1 m.1 m.2.1 m.2.2.1 m.2.2.2.1 0 1,
   mv p n.1 n.2.1 n.2.2.2.2.1 m.2.2.2.2.1 m.2.2.2.2.2, mv p n.2.2.1 n.2.2.2.1 n.2.2.2.2.2 m.2.2.2.2.1 m.2.2.2.2.2)
def MvR (p : Int) (x : Mv) : Prop := (0 ≤ x.1 ∧ x.1 < p) ∧ (0 ≤ x.2.1 ∧ x.2.1 < p) ∧ (0 ≤ x.2.2.1 ∧ x.2.2.1 < p) ∧ (0 ≤ x.2.2.2.1 ∧ x.2.2.2.1 < p) ∧ (0 ≤ x.2.2.2.2.1 ∧ x.2.2.2.2.1 < p) ∧ (0 ≤ x.2.2.2.2.2 ∧ x.2.2.2.2.2 < p)
theorem tmM_r {p : Int} (hp : isP p = true) (m n : Mv) : MvR p (tmM p m n) := ⟨modR _ hp, modR _ hp, modR _ hp, modR _ hp, modR _ hp, modR _ hp⟩
def unitM : Mv := (1, 0, 0, 1, 0, 0)
theorem unitM_r {p : Int} (hp : isP p = true) : MvR p unitM := by
  have := isP_range hp
  refine ⟨?_, ?_, ?_, ?_, ?_, ?_⟩ <;> (simp only [unitM]; omega)
section
variable {n : Nat} [NeZero n]
theorem mv_ext {x y : Mv} (hx : MvR n x) (hy : MvR n y) (h1 : K n x.1 = K n y.1) (h2 : K n x.2.1 = K n y.2.1) (h3 : K n x.2.2.1 = K n y.2.2.1) (h4 : K n x.2.2.2.1 = K n y.2.2.2.1) (h5 : K n x.2.2.2.2.1 = K n y.2.2.2.2.1) (h6 : K n x.2.2.2.2.2 = K n y.2.2.2.2.2) : x = y := by
  obtain ⟨a1, a2, a3, a4, a5, a6⟩ := x
  obtain ⟨b1, b2, b3, b4, b5, b6⟩ := y
  simp only [MvR] at *
  rw [K_inj hx.1 hy.1 h1, K_inj hx.2.1 hy.2.1 h2, K_inj hx.2.2.1 hy.2.2.1 h3, K_inj hx.2.2.2.1 hy.2.2.2.1 h4, K_inj hx.2.2.2.2.1 hy.2.2.2.2.1 h5, K_inj hx.2.2.2.2.2 hy.2.2.2.2.2 h6]
theorem tm_unit {m : Mv} (hm : MvR n m) (hp : isP (n : Int) = true) : tmM n unitM m = m := by
  refine mv_ext (tmM_r hp _ _) hm ?_ ?_ ?_ ?_ ?_ ?_ <;> simp only [tmM, unitM, pd, ld, mv, K_mod, K_add, K_mul, K_zero, K_one] <;> grind
/-- A product with a map whose sign is a unit tells its first map. -/
theorem cancel_ring {R : Type} [Lean.Grind.CommRing R] {a b c d i x y x' y' : R} (hi : (a * d - b * c) * i = 1) (h1 : a * x + b * y = a * x' + b * y') (h2 : c * x + d * y = c * x' + d * y') : x = x' ∧ y = y' := by
  constructor <;> grind
theorem tm_cancel {m x y : Mv} (hp : isP (n : Int) = true) (hd : K n (sgn n m.1 m.2.1 m.2.2.1 m.2.2.2.1) ≠ 0) (hx : MvR n x) (hy : MvR n y) (h : tmM n x m = tmM n y m) : x = y := by
  have hi := K_inv hp hd
  obtain ⟨a1, a2, a3, a4, a5, a6⟩ := x
  obtain ⟨b1, b2, b3, b4, b5, b6⟩ := y
  obtain ⟨m1, m2, m3, m4, m5, m6⟩ := m
  simp only [tmM, pd, ld, mv, Prod.mk.injEq] at h
  obtain ⟨h1, h2, h3, h4, h5, h6⟩ := h
  simp only [sgn, K_mod, K_sub, K_mul] at hi
  generalize K n (inv n ((m1 * m4 - m2 * m3) % n)) = I at hi
  rw [← K_ext] at h1 h2 h3 h4 h5 h6
  simp only [K_mod, K_add, K_mul, K_zero, K_one] at h1 h2 h3 h4 h5 h6
  have q1 := cancel_ring (x := K n a1) (y := K n a3) (x' := K n b1) (y' := K n b3) hi (by grind) (by grind)
  have q2 := cancel_ring (x := K n a2) (y := K n a4) (x' := K n b2) (y' := K n b4) hi (by grind) (by grind)
  have q3 := cancel_ring (x := K n a5) (y := K n a6) (x' := K n b5) (y' := K n b6) hi (by grind) (by grind)
  exact mv_ext hx hy q1.1 q2.1 q1.2 q2.2 q3.1 q3.2
end
/-- The powers of a move: pwM k is the product of k + 1 times the move. -/
def pwM (p : Int) (m : Mv) : Nat → Mv
  | 0 => m
  | k + 1 => tmM p (pwM p m k) m
theorem pwM_r {p : Int} (hp : isP p = true) {m : Mv} (hm : MvR p m) : ∀ k, MvR p (pwM p m k)
  | 0 => hm
  | _ + 1 => tmM_r hp _ _
def encM (x : Mv) : Nat := ((((x.1.toNat * 32 + x.2.1.toNat) * 32 + x.2.2.1.toNat) * 32 + x.2.2.2.1.toNat) * 32 + x.2.2.2.2.1.toNat) * 32 + x.2.2.2.2.2.toNat
theorem encM_lt {p : Int} (hp : isP p = true) {x : Mv} (h : MvR p x) : encM x < 1073741824 := by
  have := isP_range hp
  obtain ⟨h1, h2, h3, h4, h5, h6⟩ := h
  unfold encM; omega
theorem dig {a b a' b' : Nat} (hb : b < 32) (hb' : b' < 32) (h : a * 32 + b = a' * 32 + b') : a = a' ∧ b = b' := by omega
set_option maxRecDepth 20000 in
set_option maxHeartbeats 2000000 in
theorem encM_inj {p : Int} (hp : isP p = true) {x y : Mv} (hx : MvR p x) (hy : MvR p y) (h : encM x = encM y) : x = y := by
  have := isP_range hp
  obtain ⟨a1, a2, a3, a4, a5, a6⟩ := x
  obtain ⟨b1, b2, b3, b4, b5, b6⟩ := y
  obtain ⟨h1, h2, h3, h4, h5, h6⟩ := hx
  obtain ⟨g1, g2, g3, g4, g5, g6⟩ := hy
  simp only [encM] at *
  obtain ⟨q5, q6⟩ := dig (by omega) (by omega) h
  obtain ⟨q4, q5⟩ := dig (by omega) (by omega) q5
  obtain ⟨q3, q4⟩ := dig (by omega) (by omega) q4
  obtain ⟨q2, q3⟩ := dig (by omega) (by omega) q3
  obtain ⟨q1, q2⟩ := dig (by omega) (by omega) q2
  clear h
  have e6 : a6 = b6 := by clear q1 q2 q3 q4 q5; omega
  have e5 : a5 = b5 := by clear q1 q2 q3 q4 q6; omega
  have e4 : a4 = b4 := by clear q1 q2 q3 q5 q6; omega
  have e3 : a3 = b3 := by clear q1 q2 q4 q5 q6; omega
  have e2 : a2 = b2 := by clear q1 q3 q4 q5 q6; omega
  have e1 : a1 = b1 := by clear q2 q3 q4 q5 q6; omega
  rw [e1, e2, e3, e4, e5, e6]
/-- Some power is the identity. -/
theorem pw_back {p : Int} (hp : isP p = true) {m : Mv} (hm : MvR p m) (hd : sgn p m.1 m.2.1 m.2.2.1 m.2.2.2.1 % p ≠ 0) : ∃ k, k < 1073741825 ∧ pwM p m k = unitM := by
  obtain ⟨n, rfl⟩ := Int.eq_ofNat_of_zero_le (by have := isP_range hp; omega : 0 ≤ p)
  haveI := neZero_of hp
  have hd' : K n (sgn n m.1 m.2.1 m.2.2.1 m.2.2.2.1) ≠ 0 := fun e => hd (K_eq_zero.1 e)
  obtain ⟨i, j, hij, hj, he⟩ := pigeon 1073741824 (fun k => encM (pwM n m k)) fun k => encM_lt hp (pwM_r hp hm k)
  have he' := encM_inj hp (pwM_r hp hm i) (pwM_r hp hm j) he
  clear he
  have down : ∀ i d, pwM n m i = pwM n m (i + (d + 1)) → pwM n m d = unitM := by
    intro i
    induction i with
    | zero =>
      intro d e
      rw [Nat.zero_add] at e
      have e' : tmM n unitM m = tmM n (pwM n m d) m := by rw [tm_unit hm hp]; exact e
      exact (tm_cancel hp hd' (unitM_r hp) (pwM_r hp hm d) e').symm
    | succ i ih =>
      intro d e
      rw [show i + 1 + (d + 1) = (i + (d + 1)) + 1 by omega] at e
      exact ih d (tm_cancel hp hd' (pwM_r hp hm i) (pwM_r hp hm _) e)
  exact ⟨j - i - 1, by omega, down i (j - i - 1) (by rw [he']; congr 1; omega)⟩
def isU (p : Int) (m : Mv) (k : Nat) : Bool := pwM p m k == unitM
/-- The order. -/
def ordM (p : Int) (m : Mv) : Int := (((List.range 1073741825).find? (isU p m)).getD 0 : Nat) + 1
theorem ordM_at {p : Int} {m : Mv} {k : Nat} (h : NoYes (isU p m) k) (hk : k < 1073741825) (hy : isU p m k = true) : ordM p m = (k : Int) + 1 := by
  rw [ordM, find_some h hk hy]; rfl
theorem isU_unit (x1 x2 x3 x4 x5 x6 : Int) : (((x1, x2, x3, x4, x5, x6) : Mv) == unitM) = (x1 == 1 && x2 == 0 && x3 == 0 && x4 == 1 && x5 == 0 && x6 == 0) := by
  rw [Bool.eq_iff_iff]
  simp [unitM]
  omega
set_option linter.unusedSimpArgs false in
/-- The sign of a move is a unit. -/
theorem mv_sgn {p c m1 m2 m3 m4 : Int} (hp : isP p = true) (hc : colB c = true) (h : mvB p c m1 m2 m3 m4 = true) : sgn p m1 m2 m3 m4 % p ≠ 0 := by
  obtain ⟨n, rfl⟩ := Int.eq_ofNat_of_zero_le (by have := isP_range hp; omega : 0 ≤ p)
  haveI := neZero_of hp
  obtain ⟨i2, hi⟩ := K_halves hp
  have h1' : (1 : Fin n) ≠ 0 := by
    have := K_small (n := n) (x := 1) ⟨by decide, by have := isP_range hp; omega⟩ (by decide)
    rwa [K_one] at this
  simp only [mvB, Bool.and_eq_true] at h
  rw [prd_beq hp, prd_beq hp, prd_beq hp] at h
  simp only [prd_K, K_mod, ld, K_add, K_mul, K_zero, K_one] at h
  intro e
  rw [← K_eq_zero, sgn, K_mod, K_sub, K_mul, K_mul] at e
  generalize K n m1 = a at *
  generalize K n m2 = b at *
  generalize K n m3 = d at *
  generalize K n m4 = g at *
  clear hp
  rcases colB_ways hc with rfl | rfl | rfl <;> simp at h <;> clear hc <;> obtain ⟨q1, q2, q3⟩ := h
  · exact h1' (by have : (a * g - b * d) * (a * g - b * d) = 1 := by grind
                  rw [e] at this; grind)
  · exact h1' (by have : (a * g - b * d) * (a * g - b * d) = 1 := by grind
                  rw [e] at this; grind)
  · exact h1' (by have : (a * g - b * d) * (a * g - b * d) = 1 := by grind
                  rw [e] at this; grind)

end Go.Proofs.Ythfckpfiechloaa
