/-
  Reflections: the program's move is the model's; no program.
-/
import Derived.Test.YtijmmagdkbnhdaaMgq0

namespace Go.Proofs.Ytijmmagdkbnhdaa
open Go.RowKit

def rp1 (p c l1 l2 l3 : Int) : Int := md p c (((sqN1 p l1 l2 l3) - (sqS1 p l1 l2 l3)) % p) (((sqN2 p l1 l2 l3) - (sqS2 p l1 l2 l3)) % p) (sqS1 p l1 l2 l3) (sqS2 p l1 l2 l3) (sqN1 p l1 l2 l3) (sqN2 p l1 l2 l3) (inv p (prd p c (((sqN1 p l1 l2 l3) - (sqS1 p l1 l2 l3)) % p) (((sqN2 p l1 l2 l3) - (sqS2 p l1 l2 l3)) % p) (((sqN1 p l1 l2 l3) - (sqS1 p l1 l2 l3)) % p) (((sqN2 p l1 l2 l3) - (sqS2 p l1 l2 l3)) % p))) (p - 1) (sqS1 p l1 l2 l3) (((sqN1 p l1 l2 l3) - (sqS1 p l1 l2 l3)) % p) (ac1 p c (((sqN1 p l1 l2 l3) - (sqS1 p l1 l2 l3)) % p) (((sqN2 p l1 l2 l3) - (sqS2 p l1 l2 l3)) % p)) 1 0
def rp2 (p c l1 l2 l3 : Int) : Int := md p c (((sqN1 p l1 l2 l3) - (sqS1 p l1 l2 l3)) % p) (((sqN2 p l1 l2 l3) - (sqS2 p l1 l2 l3)) % p) (sqS1 p l1 l2 l3) (sqS2 p l1 l2 l3) (sqN1 p l1 l2 l3) (sqN2 p l1 l2 l3) (inv p (prd p c (((sqN1 p l1 l2 l3) - (sqS1 p l1 l2 l3)) % p) (((sqN2 p l1 l2 l3) - (sqS2 p l1 l2 l3)) % p) (((sqN1 p l1 l2 l3) - (sqS1 p l1 l2 l3)) % p) (((sqN2 p l1 l2 l3) - (sqS2 p l1 l2 l3)) % p))) (p - 1) (sqS1 p l1 l2 l3) (((sqN1 p l1 l2 l3) - (sqS1 p l1 l2 l3)) % p) (ac1 p c (((sqN1 p l1 l2 l3) - (sqS1 p l1 l2 l3)) % p) (((sqN2 p l1 l2 l3) - (sqS2 p l1 l2 l3)) % p)) 0 1
def rp3 (p c l1 l2 l3 : Int) : Int := md p c (((sqN1 p l1 l2 l3) - (sqS1 p l1 l2 l3)) % p) (((sqN2 p l1 l2 l3) - (sqS2 p l1 l2 l3)) % p) (sqS1 p l1 l2 l3) (sqS2 p l1 l2 l3) (sqN1 p l1 l2 l3) (sqN2 p l1 l2 l3) (inv p (prd p c (((sqN1 p l1 l2 l3) - (sqS1 p l1 l2 l3)) % p) (((sqN2 p l1 l2 l3) - (sqS2 p l1 l2 l3)) % p) (((sqN1 p l1 l2 l3) - (sqS1 p l1 l2 l3)) % p) (((sqN2 p l1 l2 l3) - (sqS2 p l1 l2 l3)) % p))) (p - 1) (sqS2 p l1 l2 l3) (((sqN2 p l1 l2 l3) - (sqS2 p l1 l2 l3)) % p) (ac2 p c (((sqN1 p l1 l2 l3) - (sqS1 p l1 l2 l3)) % p) (((sqN2 p l1 l2 l3) - (sqS2 p l1 l2 l3)) % p)) 1 0
def rp4 (p c l1 l2 l3 : Int) : Int := md p c (((sqN1 p l1 l2 l3) - (sqS1 p l1 l2 l3)) % p) (((sqN2 p l1 l2 l3) - (sqS2 p l1 l2 l3)) % p) (sqS1 p l1 l2 l3) (sqS2 p l1 l2 l3) (sqN1 p l1 l2 l3) (sqN2 p l1 l2 l3) (inv p (prd p c (((sqN1 p l1 l2 l3) - (sqS1 p l1 l2 l3)) % p) (((sqN2 p l1 l2 l3) - (sqS2 p l1 l2 l3)) % p) (((sqN1 p l1 l2 l3) - (sqS1 p l1 l2 l3)) % p) (((sqN2 p l1 l2 l3) - (sqS2 p l1 l2 l3)) % p))) (p - 1) (sqS2 p l1 l2 l3) (((sqN2 p l1 l2 l3) - (sqS2 p l1 l2 l3)) % p) (ac2 p c (((sqN1 p l1 l2 l3) - (sqS1 p l1 l2 l3)) % p) (((sqN2 p l1 l2 l3) - (sqS2 p l1 l2 l3)) % p)) 0 1
def rp5 (p c l1 l2 l3 : Int) : Int := mb p c (((sqN1 p l1 l2 l3) - (sqS1 p l1 l2 l3)) % p) (((sqN2 p l1 l2 l3) - (sqS2 p l1 l2 l3)) % p) (sqS1 p l1 l2 l3) (sqS2 p l1 l2 l3) (sqN1 p l1 l2 l3) (sqN2 p l1 l2 l3) (inv p (prd p c (((sqN1 p l1 l2 l3) - (sqS1 p l1 l2 l3)) % p) (((sqN2 p l1 l2 l3) - (sqS2 p l1 l2 l3)) % p) (((sqN1 p l1 l2 l3) - (sqS1 p l1 l2 l3)) % p) (((sqN2 p l1 l2 l3) - (sqS2 p l1 l2 l3)) % p))) (p - 1) (sqS1 p l1 l2 l3) (((sqN1 p l1 l2 l3) - (sqS1 p l1 l2 l3)) % p) (ac1 p c (((sqN1 p l1 l2 l3) - (sqS1 p l1 l2 l3)) % p) (((sqN2 p l1 l2 l3) - (sqS2 p l1 l2 l3)) % p)) 0 0
def rp6 (p c l1 l2 l3 : Int) : Int := mb p c (((sqN1 p l1 l2 l3) - (sqS1 p l1 l2 l3)) % p) (((sqN2 p l1 l2 l3) - (sqS2 p l1 l2 l3)) % p) (sqS1 p l1 l2 l3) (sqS2 p l1 l2 l3) (sqN1 p l1 l2 l3) (sqN2 p l1 l2 l3) (inv p (prd p c (((sqN1 p l1 l2 l3) - (sqS1 p l1 l2 l3)) % p) (((sqN2 p l1 l2 l3) - (sqS2 p l1 l2 l3)) % p) (((sqN1 p l1 l2 l3) - (sqS1 p l1 l2 l3)) % p) (((sqN2 p l1 l2 l3) - (sqS2 p l1 l2 l3)) % p))) (p - 1) (sqS2 p l1 l2 l3) (((sqN2 p l1 l2 l3) - (sqS2 p l1 l2 l3)) % p) (ac2 p c (((sqN1 p l1 l2 l3) - (sqS1 p l1 l2 l3)) % p) (((sqN2 p l1 l2 l3) - (sqS2 p l1 l2 l3)) % p)) 0 0

set_option linter.unusedSimpArgs false in
theorem sq_rR {p l1 l2 l3 : Int} (hp : isP p = true) : (0 ≤ sqS1 p l1 l2 l3 ∧ sqS1 p l1 l2 l3 < p) ∧ (0 ≤ sqS2 p l1 l2 l3 ∧ sqS2 p l1 l2 l3 < p) ∧ (0 ≤ sqN1 p l1 l2 l3 ∧ sqN1 p l1 l2 l3 < p) ∧ (0 ≤ sqN2 p l1 l2 l3 ∧ sqN2 p l1 l2 l3 < p) := by
  have hr := isP_range hp
  have h1 := modR (-l3) hp
  have h2 := modR (-l3 * inv p l2) hp
  have h3 := modR (-(l1 + l3) * inv p l2) hp
  unfold sqS1 sqS2 sqN1 sqN2
  refine ⟨?_, ?_, ?_, ?_⟩ <;> split <;> omega
set_option linter.unusedVariables false in
set_option linter.unusedSimpArgs false in
theorem ref_same {p c l1 l2 l3 : Int} (hp : isP p = true) (hc : colB c = true) (hl : leadB l1 l2 = true) (h2 : 0 ≤ l2 ∧ l2 < p) (hn : nullB p c l1 l2 = false) :
    rf1 p c l1 l2 = rp1 p c l1 l2 l3 ∧ rf2 p c l1 l2 = rp2 p c l1 l2 l3 ∧ rf3 p c l1 l2 = rp3 p c l1 l2 l3 ∧ rf4 p c l1 l2 = rp4 p c l1 l2 l3 ∧ rf5 p c l1 l2 l3 = rp5 p c l1 l2 l3 ∧ rf6 p c l1 l2 l3 = rp6 p c l1 l2 l3 := by
  obtain ⟨n, rfl⟩ := Int.eq_ofNat_of_zero_le (by have := isP_range hp; omega : 0 ≤ p)
  haveI := neZero_of hp
  obtain ⟨r, t, ti, ht, eS1, eS2, eN1, eN2⟩ := two_rel (l3 := l3) hp hl h2
  have hN0 : K n (prd n c (-l2 % n) l1 (-l2 % n) l1) ≠ 0 := K_small (prd_lt _ _ _ _ _ hp) (beq_eq_false_iff_ne.1 hn)
  have hN := K_inv hp hN0
  have hM0 : K n (prd n c ((sqN1 n l1 l2 l3 - sqS1 n l1 l2 l3) % n) ((sqN2 n l1 l2 l3 - sqS2 n l1 l2 l3) % n) ((sqN1 n l1 l2 l3 - sqS1 n l1 l2 l3) % n) ((sqN2 n l1 l2 l3 - sqS2 n l1 l2 l3) % n)) ≠ 0 := by
    intro e
    apply hN0
    have e' : ti * ti * K n (prd n c ((sqN1 n l1 l2 l3 - sqS1 n l1 l2 l3) % n) ((sqN2 n l1 l2 l3 - sqS2 n l1 l2 l3) % n) ((sqN1 n l1 l2 l3 - sqS1 n l1 l2 l3) % n) ((sqN2 n l1 l2 l3 - sqS2 n l1 l2 l3) % n)) = 0 := by rw [e]; grind
    clear hN hN0 e hn
    simp only [prd_K, K_mod, K_sub, K_neg, eN1, eN2] at e' ⊢
    clear eN1 eN2 eS1 eS2
    generalize K n (sqS1 n l1 l2 l3) = s at *
    generalize K n (sqS2 n l1 l2 l3) = q at *
    generalize K n l1 = u at *
    generalize K n l2 = v at *
    rcases colB_ways hc with rfl | rfl | rfl
    · simp only [if_true] at e' ⊢
      clear hc hp
      have : ti * ti * ((s - t * v - s) * (s - t * v - s) + (q + t * u - q) * (q + t * u - q)) = (ti * t) * (ti * t) * (-v * -v + u * u) := by grind -lia
      rw [ht] at this; grind -lia
    · simp only [show ¬ ((1 : Int) = 0) by decide, if_false, if_true] at e' ⊢
      clear hc hp
      have : ti * ti * ((s - t * v - s) * (s - t * v - s) - (q + t * u - q) * (q + t * u - q)) = (ti * t) * (ti * t) * (-v * -v - u * u) := by grind -lia
      rw [ht] at this; grind -lia
    · simp only [show ¬ ((2 : Int) = 0) by decide, show ¬ ((2 : Int) = 1) by decide, if_false] at e' ⊢
      clear hc hp
      have : ti * ti * ((s - t * v - s) * (q + t * u - q) + (q + t * u - q) * (s - t * v - s)) = (ti * t) * (ti * t) * (-v * u + u * -v) := by grind -lia
      rw [ht] at this; grind -lia
  have hM := K_inv hp hM0
  have key := fun x1 x2 => K_mbr (x1 := x1) (x2 := x2) hp hc ht eN1 eN2 hN hM
  clear hM hM0 hN0 hn
  have fin : ∀ {a b : Int}, (0 ≤ a ∧ a < n) → (0 ≤ b ∧ b < n) → K n a = K n b → a = b := fun h1 h2 h => K_inj h1 h2 h
  have q1 : K n (rf1 n c l1 l2) = K n (rp1 n c l1 l2 l3) := by
    unfold rf1 rp1 md alo rfS rfD
    simp only [K_mod, K_sub, key]
    simp only [prd_K, K_mod, K_sub, K_add, K_mul, K_neg, K_zero, K_one, K_two, eS1, eS2] at hN ⊢
    clear key eN1 eN2 eS1 eS2 fin ht
    generalize K n (inv n (prd n c (-l2 % n) l1 (-l2 % n) l1)) = D at *
    generalize K n (tw1 n l1 l3) = a at *
    generalize K n (tw2 n l1 l3) = b at *
    generalize K n l1 = u at *
    generalize K n l2 = v at *
    rcases colB_ways hc with rfl | rfl | rfl <;> simp [show ¬ ((1 : Int) = 0) by decide, show ¬ ((2 : Int) = 0) by decide, show ¬ ((2 : Int) = 1) by decide] at hN ⊢ <;> clear hc hp <;> grind -lia
  have q2 : K n (rf2 n c l1 l2) = K n (rp2 n c l1 l2 l3) := by
    unfold rf2 rp2 md alo rfS rfD
    simp only [K_mod, K_sub, key]
    simp only [prd_K, K_mod, K_sub, K_add, K_mul, K_neg, K_zero, K_one, K_two, eS1, eS2] at hN ⊢
    clear key eN1 eN2 eS1 eS2 fin ht
    generalize K n (inv n (prd n c (-l2 % n) l1 (-l2 % n) l1)) = D at *
    generalize K n (tw1 n l1 l3) = a at *
    generalize K n (tw2 n l1 l3) = b at *
    generalize K n l1 = u at *
    generalize K n l2 = v at *
    clear q1
    rcases colB_ways hc with rfl | rfl | rfl <;> simp [show ¬ ((1 : Int) = 0) by decide, show ¬ ((2 : Int) = 0) by decide, show ¬ ((2 : Int) = 1) by decide] at hN ⊢ <;> clear hc hp <;> grind -lia
  have q3 : K n (rf3 n c l1 l2) = K n (rp3 n c l1 l2 l3) := by
    unfold rf3 rp3 md alo rfS rfD
    simp only [K_mod, K_sub, key]
    simp only [prd_K, K_mod, K_sub, K_add, K_mul, K_neg, K_zero, K_one, K_two, eS1, eS2] at hN ⊢
    clear key eN1 eN2 eS1 eS2 fin ht
    generalize K n (inv n (prd n c (-l2 % n) l1 (-l2 % n) l1)) = D at *
    generalize K n (tw1 n l1 l3) = a at *
    generalize K n (tw2 n l1 l3) = b at *
    generalize K n l1 = u at *
    generalize K n l2 = v at *
    clear q1 q2
    rcases colB_ways hc with rfl | rfl | rfl <;> simp [show ¬ ((1 : Int) = 0) by decide, show ¬ ((2 : Int) = 0) by decide, show ¬ ((2 : Int) = 1) by decide] at hN ⊢ <;> clear hc hp <;> grind -lia
  have q4 : K n (rf4 n c l1 l2) = K n (rp4 n c l1 l2 l3) := by
    unfold rf4 rp4 md alo rfS rfD
    simp only [K_mod, K_sub, key]
    simp only [prd_K, K_mod, K_sub, K_add, K_mul, K_neg, K_zero, K_one, K_two, eS1, eS2] at hN ⊢
    clear key eN1 eN2 eS1 eS2 fin ht
    generalize K n (inv n (prd n c (-l2 % n) l1 (-l2 % n) l1)) = D at *
    generalize K n (tw1 n l1 l3) = a at *
    generalize K n (tw2 n l1 l3) = b at *
    generalize K n l1 = u at *
    generalize K n l2 = v at *
    clear q1 q2 q3
    rcases colB_ways hc with rfl | rfl | rfl <;> simp [show ¬ ((1 : Int) = 0) by decide, show ¬ ((2 : Int) = 0) by decide, show ¬ ((2 : Int) = 1) by decide] at hN ⊢ <;> clear hc hp <;> grind -lia
  have q5 : K n (rf5 n c l1 l2 l3) = K n (rp5 n c l1 l2 l3) := by
    unfold rf5 rp5 ld rf1 rf2 alo rfS rfD
    simp only [K_mod, K_sub, K_add, K_mul, key]
    simp only [prd_K, K_mod, K_sub, K_add, K_mul, K_neg, K_zero, K_one, K_two, eS1, eS2] at hN ⊢
    clear key eN1 eN2 eS1 eS2 fin ht
    generalize K n (inv n (prd n c (-l2 % n) l1 (-l2 % n) l1)) = D at *
    generalize K n (tw1 n l1 l3) = a at *
    generalize K n (tw2 n l1 l3) = b at *
    generalize K n l1 = u at *
    generalize K n l2 = v at *
    clear q1 q2 q3 q4
    rcases colB_ways hc with rfl | rfl | rfl <;> simp [show ¬ ((1 : Int) = 0) by decide, show ¬ ((2 : Int) = 0) by decide, show ¬ ((2 : Int) = 1) by decide] at hN ⊢ <;> clear hc hp <;> grind -lia
  have q6 : K n (rf6 n c l1 l2 l3) = K n (rp6 n c l1 l2 l3) := by
    unfold rf6 rp6 ld rf3 rf4 alo rfS rfD
    simp only [K_mod, K_sub, K_add, K_mul, key]
    simp only [prd_K, K_mod, K_sub, K_add, K_mul, K_neg, K_zero, K_one, K_two, eS1, eS2] at hN ⊢
    clear key eN1 eN2 eS1 eS2 fin ht
    generalize K n (inv n (prd n c (-l2 % n) l1 (-l2 % n) l1)) = D at *
    generalize K n (tw1 n l1 l3) = a at *
    generalize K n (tw2 n l1 l3) = b at *
    generalize K n l1 = u at *
    generalize K n l2 = v at *
    clear q1 q2 q3 q4 q5
    rcases colB_ways hc with rfl | rfl | rfl <;> simp [show ¬ ((1 : Int) = 0) by decide, show ¬ ((2 : Int) = 0) by decide, show ¬ ((2 : Int) = 1) by decide] at hN ⊢ <;> clear hc hp <;> grind -lia
  exact ⟨fin (modR _ hp) (modR _ hp) q1, fin (modR _ hp) (modR _ hp) q2, fin (modR _ hp) (modR _ hp) q3, fin (modR _ hp) (modR _ hp) q4, fin (modR _ hp) (modR _ hp) q5, fin (modR _ hp) (modR _ hp) q6⟩

end Go.Proofs.Ytijmmagdkbnhdaa
