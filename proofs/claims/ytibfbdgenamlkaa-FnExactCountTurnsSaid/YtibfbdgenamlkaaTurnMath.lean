/-
  The turns about a point: what leads one point to those at its quadrance is just what keeps the point and has the sign 1; no program.
-/
import Derived.Test.YtibfbdgenamlkaaAll7Math
import Derived.Test.YtibfbdgenamlkaaMoveBet
namespace Go.Proofs.Ytibfbdgenamlkaa
open Go.RowKit

/-- A move that keeps (0, 0), put at a point. -/
def aboutM (p a1 a2 : Int) (m : T6) : T6 := (m.1, m.2.1, m.2.2.1, m.2.2.2.1, (a1 - ld p m.1 m.2.1 a1 a2) % p, (a2 - ld p m.2.2.1 m.2.2.2.1 a1 a2) % p)
/-- The turns about a point, in order. -/
def tuM (p c a1 a2 : Int) : List T6 := srtM ((allM p c 1).map (aboutM p a1 a2))
/-- The first j of them. -/
def tkM (p a1 a2 : Int) (N : List T6) (j : Nat) : List T6 := srtM ((N.take j).map (aboutM p a1 a2))
theorem tkM_le (p a1 a2 : Int) (N : List T6) (j : Nat) : (tkM p a1 a2 N j).length ≤ N.length := by
  have h := srtM_le ((N.take j).map (aboutM p a1 a2))
  rw [List.length_map, List.length_take] at h
  unfold tkM; omega
theorem tkM_sorted (p a1 a2 : Int) (N : List T6) (j : Nat) : (tkM p a1 a2 N j).Pairwise lt6 := srtM_sorted _
theorem tuM_le {p : Int} (c a1 a2 : Int) (hp : isP p = true) : (tuM p c a1 a2).length ≤ 961 := by
  refine Nat.le_trans (srtM_le _) ?_
  rw [List.length_map]; exact allM_le c 1 hp
/-- The way's inverse product. -/
def btI (p c a1 a2 b1 b2 : Int) : Int := inv p (prd p c ((b1 - a1) % p) ((b2 - a2) % p) ((b1 - a1) % p) ((b2 - a2) % p))
/-- The program's move of sign 1 from a, b to a, x. -/
def btM (p c a1 a2 b1 b2 : Int) (x : Int × Int) : T6 :=
  (md p c ((b1 - a1) % p) ((b2 - a2) % p) a1 a2 b1 b2 (btI p c a1 a2 b1 b2) 1 a1 ((x.1 - a1) % p) (ac1 p c ((x.1 - a1) % p) ((x.2 - a2) % p)) 1 0,
   md p c ((b1 - a1) % p) ((b2 - a2) % p) a1 a2 b1 b2 (btI p c a1 a2 b1 b2) 1 a1 ((x.1 - a1) % p) (ac1 p c ((x.1 - a1) % p) ((x.2 - a2) % p)) 0 1,
   md p c ((b1 - a1) % p) ((b2 - a2) % p) a1 a2 b1 b2 (btI p c a1 a2 b1 b2) 1 a2 ((x.2 - a2) % p) (ac2 p c ((x.1 - a1) % p) ((x.2 - a2) % p)) 1 0,
   md p c ((b1 - a1) % p) ((b2 - a2) % p) a1 a2 b1 b2 (btI p c a1 a2 b1 b2) 1 a2 ((x.2 - a2) % p) (ac2 p c ((x.1 - a1) % p) ((x.2 - a2) % p)) 0 1,
   mb p c ((b1 - a1) % p) ((b2 - a2) % p) a1 a2 b1 b2 (btI p c a1 a2 b1 b2) 1 a1 ((x.1 - a1) % p) (ac1 p c ((x.1 - a1) % p) ((x.2 - a2) % p)) 0 0,
   mb p c ((b1 - a1) % p) ((b2 - a2) % p) a1 a2 b1 b2 (btI p c a1 a2 b1 b2) 1 a2 ((x.2 - a2) % p) (ac2 p c ((x.1 - a1) % p) ((x.2 - a2) % p)) 0 0)
theorem btM_r {p c a1 a2 b1 b2 : Int} (x : Int × Int) (hp : isP p = true) : (0 ≤ (btM p c a1 a2 b1 b2 x).1 ∧ (btM p c a1 a2 b1 b2 x).1 < p) ∧ (0 ≤ (btM p c a1 a2 b1 b2 x).2.1 ∧ (btM p c a1 a2 b1 b2 x).2.1 < p) ∧ (0 ≤ (btM p c a1 a2 b1 b2 x).2.2.1 ∧ (btM p c a1 a2 b1 b2 x).2.2.1 < p) ∧ (0 ≤ (btM p c a1 a2 b1 b2 x).2.2.2.1 ∧ (btM p c a1 a2 b1 b2 x).2.2.2.1 < p) ∧ (0 ≤ (btM p c a1 a2 b1 b2 x).2.2.2.2.1 ∧ (btM p c a1 a2 b1 b2 x).2.2.2.2.1 < p) ∧ (0 ≤ (btM p c a1 a2 b1 b2 x).2.2.2.2.2 ∧ (btM p c a1 a2 b1 b2 x).2.2.2.2.2 < p) :=
  ⟨modR _ hp, modR _ hp, modR _ hp, modR _ hp, modR _ hp, modR _ hp⟩

section
variable {n : Nat} [NeZero n]
/-- The matrix of the program's move, colour by colour; W: the way, F: along, I: the inverse. -/
def Mx (c : Int) (W1 W2 F1 F2 I A B C D : Fin n) : Prop :=
  (c = 0 ∧ A = (W1 * F1 + W2 * F2) * I ∧ B = (W2 * F1 - W1 * F2) * I ∧ C = (W1 * F2 - W2 * F1) * I ∧ D = (W1 * F1 + W2 * F2) * I) ∨
  (c = 1 ∧ A = (W1 * F1 - W2 * F2) * I ∧ B = (W1 * F2 - W2 * F1) * I ∧ C = (W1 * F2 - W2 * F1) * I ∧ D = (W1 * F1 - W2 * F2) * I) ∨
  (c = 2 ∧ A = 2 * W2 * F1 * I ∧ B = 0 ∧ C = 0 ∧ D = 2 * W1 * F2 * I)
theorem bt_K {c a1 a2 b1 b2 x1 x2 : Int} (hc : colB c = true) :
    Mx c (K n b1 - K n a1) (K n b2 - K n a2) (K n x1 - K n a1) (K n x2 - K n a2) (K n (btI n c a1 a2 b1 b2)) (K n (btM n c a1 a2 b1 b2 (x1, x2)).1) (K n (btM n c a1 a2 b1 b2 (x1, x2)).2.1) (K n (btM n c a1 a2 b1 b2 (x1, x2)).2.2.1) (K n (btM n c a1 a2 b1 b2 (x1, x2)).2.2.2.1) ∧
    K n (btM n c a1 a2 b1 b2 (x1, x2)).2.2.2.2.1 = K n a1 - (K n (btM n c a1 a2 b1 b2 (x1, x2)).1 * K n a1 + K n (btM n c a1 a2 b1 b2 (x1, x2)).2.1 * K n a2) ∧
    K n (btM n c a1 a2 b1 b2 (x1, x2)).2.2.2.2.2 = K n a2 - (K n (btM n c a1 a2 b1 b2 (x1, x2)).2.2.1 * K n a1 + K n (btM n c a1 a2 b1 b2 (x1, x2)).2.2.2.1 * K n a2) := by
  unfold btM
  simp only [md, mb, ac1, ac2, area, K_mod, K_sub, K_add, K_mul, K_neg, prd_K, K_zero, K_one]
  generalize K n (btI n c a1 a2 b1 b2) = I
  generalize K n a1 = A1
  generalize K n a2 = A2
  generalize K n b1 = B1
  generalize K n b2 = B2
  generalize K n x1 = X1
  generalize K n x2 = X2
  unfold Mx
  rcases colB_ways hc with rfl | rfl | rfl <;> simp [show ¬ ((1 : Int) = 0) by decide, show ¬ ((2 : Int) = 0) by decide, show ¬ ((2 : Int) = 1) by decide] <;> clear hc <;> refine ⟨⟨?_, ?_, ?_, ?_⟩, ?_, ?_⟩ <;> grind -lia
/-- What a matrix of sign 1 that keeps the products looks like, colour by colour. -/
def Fm (c : Int) (A B C D : Fin n) : Prop :=
  (c = 0 ∧ B = -C ∧ D = A ∧ A * A + C * C = 1) ∨ (c = 1 ∧ B = C ∧ D = A ∧ A * A - C * C = 1) ∨ (c = 2 ∧ B = 0 ∧ C = 0 ∧ A * D = 1)
theorem fm_iff (hp : isP (n : Int) = true) {c m1 m2 m3 m4 : Int} (hc : colB c = true) :
    (mvB n c m1 m2 m3 m4 && (sgn n m1 m2 m3 m4 == 1 % n)) = true ↔ Fm c (K n m1) (K n m2) (K n m3) (K n m4) := by
  obtain ⟨i2, hi⟩ := K_halves hp
  rw [Bool.and_eq_true, beq_iff_eq, sgn, ← K_ext]
  simp only [mvB, Bool.and_eq_true]
  rw [prd_beq hp, prd_beq hp, prd_beq hp]
  simp only [prd_K, K_mod, K_sub, ld, K_add, K_mul, K_zero, K_one]
  generalize K n m1 = A at *
  generalize K n m2 = B at *
  generalize K n m3 = C at *
  generalize K n m4 = D at *
  unfold Fm
  rcases colB_ways hc with rfl | rfl | rfl <;> simp [show ¬ ((1 : Int) = 0) by decide, show ¬ ((2 : Int) = 0) by decide, show ¬ ((2 : Int) = 1) by decide] <;> clear hc hp
  · constructor
    · rintro ⟨⟨h1, h2, h3⟩, h4⟩
      refine ⟨?_, ?_, ?_⟩ <;> grind -lia
    · rintro ⟨rfl, rfl, h⟩
      refine ⟨⟨?_, ?_, ?_⟩, ?_⟩ <;> grind -lia
  · constructor
    · rintro ⟨⟨h1, h2, h3⟩, h4⟩
      refine ⟨?_, ?_, ?_⟩ <;> grind -lia
    · rintro ⟨rfl, rfl, h⟩
      refine ⟨⟨?_, ?_, ?_⟩, ?_⟩ <;> grind -lia
  · constructor
    · rintro ⟨⟨h1, h2, h3⟩, h4⟩
      have e1 : A * D = 1 := half hi (by grind -lia)
      have e2 : A * C = 0 := half hi (by grind -lia)
      have e3 : B * D = 0 := half hi (by grind -lia)
      clear h1 h2 h3 h4 hi
      refine ⟨?_, ?_, e1⟩ <;> grind -lia
    · rintro ⟨rfl, rfl, h⟩
      refine ⟨⟨?_, ?_, ?_⟩, ?_⟩ <;> grind -lia
/-- The model's second column. -/
theorem fm_al (hp : isP (n : Int) = true) {c m1 m2 m3 m4 : Int} (hc : colB c = true) (h1 : 0 ≤ m1 ∧ m1 < n) (h2 : 0 ≤ m2 ∧ m2 < n) (h3 : 0 ≤ m3 ∧ m3 < n) (h4 : 0 ≤ m4 ∧ m4 < n)
    (h : Fm c (K n m1) (K n m2) (K n m3) (K n m4)) : alQ n c 1 m3 % n = m2 ∧ alR n c 1 m1 % n = m4 := by
  have z0 : ∀ {x : Int}, (0 ≤ x ∧ x < n) → K n x = 0 → x = 0 := fun hx e => by
    refine Classical.byContradiction fun q => K_small hx q e
  rcases h with ⟨rfl, e1, e2, _⟩ | ⟨rfl, e1, e2, _⟩ | ⟨rfl, e1, e2, e3⟩
  · refine ⟨K_inj (modR _ hp) h2 ?_, K_inj (modR _ hp) h4 ?_⟩
    · rw [K_mod, e1]; simp [alQ, K_neg]
    · rw [K_mod, e2]; simp [alR]
  · refine ⟨K_inj (modR _ hp) h2 ?_, K_inj (modR _ hp) h4 ?_⟩
    · rw [K_mod, e1]; simp [alQ]
    · rw [K_mod, e2]; simp [alR]
  · have hm1 : m1 ≠ 0 := fun e => by rw [e, K_zero] at e3; have := K_one_ne (n := n) hp; rw [K_one] at this; exact this (by rw [← e3]; grind)
    refine ⟨K_inj (modR _ hp) h2 ?_, K_inj (modR _ hp) h4 ?_⟩
    · rw [K_mod, e1, z0 h3 e2]; simp [alQ, K_zero]
    · rw [K_mod]
      simp only [alR, if_true, if_neg hm1]
      have hi := K_inv hp (K_small h1 hm1)
      grind -lia
theorem fm_of_mx {c : Int} {W1 W2 F1 F2 I A B C D : Fin n} (h : Mx c W1 W2 F1 F2 I A B C D)
    (hW : (c = 0 ∧ (W1 * W1 + W2 * W2) * I = 1 ∧ (F1 * F1 + F2 * F2) * I = 1) ∨ (c = 1 ∧ (W1 * W1 - W2 * W2) * I = 1 ∧ (F1 * F1 - F2 * F2) * I = 1) ∨ (c = 2 ∧ (2 * W1 * W2) * I = 1 ∧ (2 * F1 * F2) * I = 1)) : Fm c A B C D := by
  rcases h with ⟨rfl, rfl, rfl, rfl, rfl⟩ | ⟨rfl, rfl, rfl, rfl, rfl⟩ | ⟨rfl, rfl, rfl, rfl, rfl⟩ <;> simp [show ¬ ((0 : Int) = 1) by decide, show ¬ ((0 : Int) = 2) by decide, show ¬ ((1 : Int) = 2) by decide, show ¬ ((1 : Int) = 0) by decide, show ¬ ((2 : Int) = 0) by decide, show ¬ ((2 : Int) = 1) by decide] at hW <;> obtain ⟨q1, q2⟩ := hW
  · exact .inl ⟨rfl, by grind -lia, rfl, by grind -lia⟩
  · exact .inr (.inl ⟨rfl, rfl, rfl, by grind -lia⟩)
  · exact .inr (.inr ⟨rfl, rfl, rfl, by grind -lia⟩)
theorem mx_of_fm {c : Int} {W1 W2 F1 F2 I A B C D A' B' C' D' : Fin n} (hf : Fm c A B C D) (h1 : F1 = A * W1 + B * W2) (h2 : F2 = C * W1 + D * W2) (h : Mx c W1 W2 F1 F2 I A' B' C' D')
    (hW : (c = 0 ∧ (W1 * W1 + W2 * W2) * I = 1) ∨ (c = 1 ∧ (W1 * W1 - W2 * W2) * I = 1) ∨ (c = 2 ∧ (2 * W1 * W2) * I = 1)) : A' = A ∧ B' = B ∧ C' = C ∧ D' = D := by
  subst h1 h2
  rcases h with ⟨rfl, rfl, rfl, rfl, rfl⟩ | ⟨rfl, rfl, rfl, rfl, rfl⟩ | ⟨rfl, rfl, rfl, rfl, rfl⟩ <;> simp [Fm, show ¬ ((0 : Int) = 1) by decide, show ¬ ((0 : Int) = 2) by decide, show ¬ ((1 : Int) = 2) by decide, show ¬ ((1 : Int) = 0) by decide, show ¬ ((2 : Int) = 0) by decide, show ¬ ((2 : Int) = 1) by decide] at hf hW
  · obtain ⟨rfl, rfl, e⟩ := hf
    refine ⟨?_, ?_, ?_, ?_⟩ <;> grind -lia
  · obtain ⟨rfl, rfl, e⟩ := hf
    refine ⟨?_, ?_, ?_, ?_⟩ <;> grind -lia
  · obtain ⟨rfl, rfl, e⟩ := hf
    refine ⟨?_, ?_, ?_, ?_⟩ <;> grind -lia
/-- The move leads the way to along. -/
theorem mx_lead {c : Int} {W1 W2 F1 F2 I A B C D : Fin n} (h : Mx c W1 W2 F1 F2 I A B C D)
    (hW : (c = 0 ∧ (W1 * W1 + W2 * W2) * I = 1) ∨ (c = 1 ∧ (W1 * W1 - W2 * W2) * I = 1) ∨ (c = 2 ∧ (2 * W1 * W2) * I = 1)) : A * W1 + B * W2 = F1 ∧ C * W1 + D * W2 = F2 := by
  rcases h with ⟨rfl, rfl, rfl, rfl, rfl⟩ | ⟨rfl, rfl, rfl, rfl, rfl⟩ | ⟨rfl, rfl, rfl, rfl, rfl⟩ <;> simp [show ¬ ((0 : Int) = 1) by decide, show ¬ ((0 : Int) = 2) by decide, show ¬ ((1 : Int) = 2) by decide, show ¬ ((1 : Int) = 0) by decide, show ¬ ((2 : Int) = 0) by decide, show ¬ ((2 : Int) = 1) by decide] at hW <;> constructor <;> grind -lia
theorem qdr_K (c a1 a2 b1 b2 : Int) : K n (qdr n c a1 a2 b1 b2) = if c = 0 then (K n b1 - K n a1) * (K n b1 - K n a1) + (K n b2 - K n a2) * (K n b2 - K n a2) else if c = 1 then (K n b1 - K n a1) * (K n b1 - K n a1) - (K n b2 - K n a2) * (K n b2 - K n a2) else (K n b1 - K n a1) * (K n b2 - K n a2) + (K n b2 - K n a2) * (K n b1 - K n a1) := by
  unfold qdr; rw [prd_K]; simp only [K_mod, K_sub]
theorem q_form {c : Int} (hc : colB c = true) {a1 a2 b1 b2 : Int} {I : Fin n} (h : K n (qdr n c a1 a2 b1 b2) * I = 1) :
    (c = 0 ∧ ((K n b1 - K n a1) * (K n b1 - K n a1) + (K n b2 - K n a2) * (K n b2 - K n a2)) * I = 1) ∨ (c = 1 ∧ ((K n b1 - K n a1) * (K n b1 - K n a1) - (K n b2 - K n a2) * (K n b2 - K n a2)) * I = 1) ∨ (c = 2 ∧ (2 * (K n b1 - K n a1) * (K n b2 - K n a2)) * I = 1) := by
  rw [qdr_K] at h
  rcases colB_ways hc with rfl | rfl | rfl <;> simp [show ¬ ((1 : Int) = 0) by decide, show ¬ ((2 : Int) = 0) by decide, show ¬ ((2 : Int) = 1) by decide] at h ⊢
  · exact h
  · exact h
  · grind -lia
end

theorem bt_turn {p c a1 a2 b1 b2 x1 x2 : Int} (hp : isP p = true) (hc : colB c = true) (hq : (qdr p c a1 a2 b1 b2 == 0) = false) (hx : qdr p c a1 a2 x1 x2 = qdr p c a1 a2 b1 b2) :
    alF p c 1 (btM p c a1 a2 b1 b2 (x1, x2)).1 (btM p c a1 a2 b1 b2 (x1, x2)).2.2.1 = true ∧
      aboutM p a1 a2 (alM p c 1 ((btM p c a1 a2 b1 b2 (x1, x2)).1, (btM p c a1 a2 b1 b2 (x1, x2)).2.2.1)) = btM p c a1 a2 b1 b2 (x1, x2) := by
  obtain ⟨n, rfl⟩ := Int.eq_ofNat_of_zero_le (by have := isP_range hp; omega : 0 ≤ p)
  haveI := neZero_of hp
  obtain ⟨r1, r2, r3, r4, r5, r6⟩ := btM_r (c := c) (a1 := a1) (a2 := a2) (b1 := b1) (b2 := b2) (x1, x2) hp
  obtain ⟨hM, h5, h6⟩ := bt_K (n := n) (a1 := a1) (a2 := a2) (b1 := b1) (b2 := b2) (x1 := x1) (x2 := x2) hc
  have hI : K n (qdr n c a1 a2 b1 b2) * K n (btI n c a1 a2 b1 b2) = 1 := K_inv hp (K_small (qdr_r _ _ _ _ _ hp) (beq_eq_false_iff_ne.1 hq))
  have hI2 : K n (qdr n c a1 a2 x1 x2) * K n (btI n c a1 a2 b1 b2) = 1 := by rw [hx]; exact hI
  have q1 := q_form hc hI
  have q2 := q_form hc hI2
  obtain ⟨z, hz⟩ : ∃ z, z = btM n c a1 a2 b1 b2 (x1, x2) := ⟨_, rfl⟩
  rw [← hz] at r1 r2 r3 r4 r5 r6 hM h5 h6 ⊢
  have hf : Fm c (K n z.1) (K n z.2.1) (K n z.2.2.1) (K n z.2.2.2.1) := by
    refine fm_of_mx hM ?_
    rcases q1 with ⟨rfl, h⟩ | ⟨rfl, h⟩ | ⟨rfl, h⟩ <;> simp [show ¬ ((0 : Int) = 1) by decide, show ¬ ((0 : Int) = 2) by decide, show ¬ ((1 : Int) = 2) by decide, show ¬ ((1 : Int) = 0) by decide, show ¬ ((2 : Int) = 0) by decide, show ¬ ((2 : Int) = 1) by decide] at q2 ⊢ <;> exact ⟨h, q2⟩
  obtain ⟨e1, e2⟩ := fm_al hp hc r1 r2 r3 r4 hf
  refine ⟨?_, ?_⟩
  · rw [alF, e1, e2]; exact (fm_iff hp hc).2 hf
  · obtain ⟨z1, z2, z3, z4, z5, z6⟩ := z
    simp only at e1 e2 h5 h6 r5 r6
    simp only [alM, e1, e2, aboutM, Prod.mk.injEq, true_and]
    refine ⟨K_inj (modR _ hp) r5 ?_, K_inj (modR _ hp) r6 ?_⟩
    · rw [K_mod, K_sub, ld, K_mod, K_add, K_mul, K_mul, h5]
    · rw [K_mod, K_sub, ld, K_mod, K_add, K_mul, K_mul, h6]
/-- Where a model's move leads b. -/
def leadB2 (p a1 a2 b1 b2 : Int) (z : T6) : Int × Int := ((z.1 * (b1 - a1) + z.2.1 * (b2 - a2) + a1) % p, (z.2.2.1 * (b1 - a1) + z.2.2.2.1 * (b2 - a2) + a2) % p)
theorem turn_bt {p c a1 a2 b1 b2 m1 m3 : Int} (hp : isP p = true) (hc : colB c = true) (hq : (qdr p c a1 a2 b1 b2 == 0) = false) (h1 : 0 ≤ m1 ∧ m1 < p) (h3 : 0 ≤ m3 ∧ m3 < p) (hal : alF p c 1 m1 m3 = true) :
    qdr p c a1 a2 (leadB2 p a1 a2 b1 b2 (alM p c 1 (m1, m3))).1 (leadB2 p a1 a2 b1 b2 (alM p c 1 (m1, m3))).2 = qdr p c a1 a2 b1 b2 ∧
      btM p c a1 a2 b1 b2 (leadB2 p a1 a2 b1 b2 (alM p c 1 (m1, m3))) = aboutM p a1 a2 (alM p c 1 (m1, m3)) := by
  obtain ⟨n, rfl⟩ := Int.eq_ofNat_of_zero_le (by have := isP_range hp; omega : 0 ≤ p)
  haveI := neZero_of hp
  have hf := (fm_iff hp hc).1 hal
  obtain ⟨m2, hm2⟩ : ∃ v, v = alQ n c 1 m3 % (n : Int) := ⟨_, rfl⟩
  obtain ⟨m4, hm4⟩ : ∃ v, v = alR n c 1 m1 % (n : Int) := ⟨_, rfl⟩
  have r2 := modR (alQ n c 1 m3) hp
  have r4 := modR (alR n c 1 m1) hp
  rw [← hm2] at hf r2; rw [← hm4] at hf r4
  simp only [alM, ← hm2, ← hm4, leadB2, aboutM]
  clear hm2 hm4 hal
  obtain ⟨x1, hx1⟩ : ∃ v, v = (m1 * (b1 - a1) + m2 * (b2 - a2) + a1) % (n : Int) := ⟨_, rfl⟩
  obtain ⟨x2, hx2⟩ : ∃ v, v = (m3 * (b1 - a1) + m4 * (b2 - a2) + a2) % (n : Int) := ⟨_, rfl⟩
  have k1 : K n x1 - K n a1 = K n m1 * (K n b1 - K n a1) + K n m2 * (K n b2 - K n a2) := by rw [hx1, K_mod]; simp only [K_add, K_mul, K_sub]; grind -lia
  have k2 : K n x2 - K n a2 = K n m3 * (K n b1 - K n a1) + K n m4 * (K n b2 - K n a2) := by rw [hx2, K_mod]; simp only [K_add, K_mul, K_sub]; grind -lia
  rw [← hx1, ← hx2]
  clear hx1 hx2
  obtain ⟨s1, s2, s3, s4, s5, s6⟩ := btM_r (c := c) (a1 := a1) (a2 := a2) (b1 := b1) (b2 := b2) (x1, x2) hp
  obtain ⟨hM, h5, h6⟩ := bt_K (n := n) (a1 := a1) (a2 := a2) (b1 := b1) (b2 := b2) (x1 := x1) (x2 := x2) hc
  have hI : K n (qdr n c a1 a2 b1 b2) * K n (btI n c a1 a2 b1 b2) = 1 := K_inv hp (K_small (qdr_r _ _ _ _ _ hp) (beq_eq_false_iff_ne.1 hq))
  obtain ⟨e1, e2, e3, e4⟩ := mx_of_fm hf k1 k2 hM (q_form hc hI)
  refine ⟨K_inj (qdr_r _ _ _ _ _ hp) (qdr_r _ _ _ _ _ hp) ?_, ?_⟩
  · rw [qdr_K, qdr_K, k1, k2]
    clear e1 e2 e3 e4 hM h5 h6 hI hq s1 s2 s3 s4 s5 s6 k1 k2 h1 h3 r2 r4
    generalize K n m1 = A at *
    generalize K n m2 = B at *
    generalize K n m3 = C at *
    generalize K n m4 = D at *
    generalize K n b1 - K n a1 = W1
    generalize K n b2 - K n a2 = W2
    rcases hf with ⟨rfl, rfl, rfl, e⟩ | ⟨rfl, rfl, rfl, e⟩ | ⟨rfl, rfl, rfl, e⟩ <;> simp [show ¬ ((1 : Int) = 0) by decide, show ¬ ((2 : Int) = 0) by decide, show ¬ ((2 : Int) = 1) by decide] <;> clear hc hp <;> grind -lia
  · obtain ⟨z, hz⟩ : ∃ z, z = btM n c a1 a2 b1 b2 (x1, x2) := ⟨_, rfl⟩
    rw [← hz] at s1 s2 s3 s4 s5 s6 e1 e2 e3 e4 h5 h6 ⊢
    obtain ⟨z1, z2, z3, z4, z5, z6⟩ := z
    simp only at e1 e2 e3 e4 h5 h6 s1 s2 s3 s4 s5 s6
    rw [e1, e2] at h5
    rw [e3, e4] at h6
    simp only [Prod.mk.injEq]
    refine ⟨K_inj s1 h1 e1, K_inj s2 r2 e2, K_inj s3 h3 e3, K_inj s4 r4 e4, K_inj s5 (modR _ hp) ?_, K_inj s6 (modR _ hp) ?_⟩
    · rw [K_mod, K_sub, ld, K_mod, K_add, K_mul, K_mul, h5]
    · rw [K_mod, K_sub, ld, K_mod, K_add, K_mul, K_mul, h6]
theorem bt_inj {p c a1 a2 b1 b2 : Int} {x y : Int × Int} (hp : isP p = true) (hc : colB c = true) (hq : (qdr p c a1 a2 b1 b2 == 0) = false) (hx : (0 ≤ x.1 ∧ x.1 < p) ∧ 0 ≤ x.2 ∧ x.2 < p) (hy : (0 ≤ y.1 ∧ y.1 < p) ∧ 0 ≤ y.2 ∧ y.2 < p) (h : btM p c a1 a2 b1 b2 x = btM p c a1 a2 b1 b2 y) : x = y := by
  obtain ⟨n, rfl⟩ := Int.eq_ofNat_of_zero_le (by have := isP_range hp; omega : 0 ≤ p)
  haveI := neZero_of hp
  have hI : K n (qdr n c a1 a2 b1 b2) * K n (btI n c a1 a2 b1 b2) = 1 := K_inv hp (K_small (qdr_r _ _ _ _ _ hp) (beq_eq_false_iff_ne.1 hq))
  have q1 := q_form hc hI
  obtain ⟨u1, u2⟩ := mx_lead (bt_K (n := n) (a1 := a1) (a2 := a2) (b1 := b1) (b2 := b2) (x1 := x.1) (x2 := x.2) hc).1 q1
  obtain ⟨v1, v2⟩ := mx_lead (bt_K (n := n) (a1 := a1) (a2 := a2) (b1 := b1) (b2 := b2) (x1 := y.1) (x2 := y.2) hc).1 q1
  rw [show ((x.1, x.2) : Int × Int) = x from rfl, h] at u1 u2
  rw [show ((y.1, y.2) : Int × Int) = y from rfl] at v1 v2
  refine Prod.ext (K_inj hx.1 hy.1 ?_) (K_inj hx.2 hy.2 ?_)
  · have := u1.symm.trans v1; grind -lia
  · have := u2.symm.trans v2; grind -lia

theorem gridT_all {m : Nat} (b : Int × Int) : b ∈ gridL tt2 m m ↔ (0 ≤ b.1 ∧ b.1 < (m : Int)) ∧ 0 ≤ b.2 ∧ b.2 < (m : Int) := by
  constructor
  · intro h
    have := grid_mem h
    omega
  · intro h
    rw [gridL, List.mem_flatMap]
    refine ⟨b.1.toNat, List.mem_range.2 (by omega), ?_⟩
    rw [rowL, List.mem_map]
    refine ⟨b.2.toNat, List.mem_filter.2 ⟨List.mem_range.2 (by omega), rfl⟩, ?_⟩
    exact Prod.ext (by show ((b.1.toNat : Nat) : Int) = b.1; omega) (by show ((b.2.toNat : Nat) : Int) = b.2; omega)
theorem allM_mem {p c z : Int} {m : T6} : m ∈ allM p c z ↔ ∃ x y : Int, ((0 ≤ x ∧ x < p) ∧ 0 ≤ y ∧ y < p) ∧ alF p c z x y = true ∧ m = alM p c z (x, y) := by
  rw [allM, srtM_mem, alL, List.mem_map]
  constructor
  · rintro ⟨v, hv, rfl⟩
    rw [grid_filter] at hv
    obtain ⟨h1, h2⟩ := List.mem_filter.1 hv
    have h3 := grid_mem h1
    exact ⟨v.1, v.2, by omega, h2, rfl⟩
  · rintro ⟨x, y, hr, h, rfl⟩
    refine ⟨(x, y), ?_, rfl⟩
    rw [grid_filter]
    have hpn : (p.toNat : Int) = p := Int.toNat_of_nonneg (by omega)
    exact List.mem_filter.2 ⟨(gridT_all _).2 (by rw [hpn]; exact hr), h⟩
theorem allM_r {p c : Int} (hp : isP p = true) {z : T6} (h : z ∈ allM p c 1) : (0 ≤ z.1 ∧ z.1 ≤ 31) ∧ (0 ≤ z.2.1 ∧ z.2.1 ≤ 31) ∧ (0 ≤ z.2.2.1 ∧ z.2.2.1 ≤ 31) ∧ (0 ≤ z.2.2.2.1 ∧ z.2.2.2.1 ≤ 31) ∧ z.2.2.2.2.1 = 0 ∧ z.2.2.2.2.2 = 0 := by
  obtain ⟨x, y, hr, _, rfl⟩ := allM_mem.1 h
  have hpr := isP_range hp
  have h1 := modR31 (alQ p c 1 y) hp
  have h2 := modR31 (alR p c 1 x) hp
  exact ⟨by simp only [alM]; omega, h1, by simp only [alM]; omega, h2, rfl, rfl⟩
theorem about_nodup {p c a1 a2 : Int} (hp : isP p = true) : ((allM p c 1).map (aboutM p a1 a2)).Nodup := by
  have hs : (allM p c 1).Pairwise lt6 := srtM_sorted _
  rw [List.Nodup, List.pairwise_map]
  refine hs.imp_of_mem ?_
  intro x y hx hy hlt e
  obtain ⟨_, _, _, _, e5, e6⟩ := allM_r hp hx
  obtain ⟨_, _, _, _, f5, f6⟩ := allM_r hp hy
  obtain ⟨x1, x2, x3, x4, x5, x6⟩ := x
  obtain ⟨y1, y2, y3, y4, y5, y6⟩ := y
  simp only [aboutM, Prod.mk.injEq] at e e5 e6 f5 f6
  obtain ⟨rfl, rfl, rfl, rfl, _, _⟩ := e
  subst e5 e6 f5 f6
  exact lt6_irr _ hlt
theorem about_new {α : Type} {N : List α} {f : α → T6} (h : (N.map f).Nodup) {j : Nat} (hj : j < N.length) : f N[j] ∉ srtM ((N.take j).map f) := by
  intro hm
  rw [srtM_mem] at hm
  have h1 : ((N.take (j + 1)).map f).Nodup := by rw [List.map_take]; exact h.sublist (List.take_sublist _ _)
  rw [List.take_succ_eq_append_getElem hj, List.map_append, List.nodup_append] at h1
  exact h1.2.2 _ hm _ (by simp) rfl
/-- The program's set of turns is the model's. -/
theorem turn_mem {p c a1 a2 b1 b2 : Int} (hp : isP p = true) (hc : colB c = true) (hq : (qdr p c a1 a2 b1 b2 == 0) = false) {ss : List (Int × Int)} (hss : ∀ x, x ∈ ss ↔ x ∈ (gridL tt2 p.toNat p.toNat).filter fun x => qdr p c a1 a2 x.1 x.2 == qdr p c a1 a2 b1 b2) (z : T6) :
    z ∈ ss.map (btM p c a1 a2 b1 b2) ↔ z ∈ tuM p c a1 a2 := by
  have hr := isP_range hp
  have hpn : (p.toNat : Int) = p := Int.toNat_of_nonneg (by omega)
  rw [tuM, srtM_mem, List.mem_map, List.mem_map]
  constructor
  · rintro ⟨x, hx, rfl⟩
    have h1 := (List.mem_filter.1 ((hss x).1 hx)).2
    rw [beq_iff_eq] at h1
    obtain ⟨h2, h3⟩ := bt_turn (b1 := b1) (b2 := b2) hp hc hq h1
    obtain ⟨r1, r2, r3, r4, r5, r6⟩ := btM_r (c := c) (a1 := a1) (a2 := a2) (b1 := b1) (b2 := b2) x hp
    exact ⟨_, allM_mem.2 ⟨_, _, ⟨r1, r3⟩, h2, rfl⟩, h3⟩
  · rintro ⟨m, hm, rfl⟩
    obtain ⟨x, y, hxy, hal, rfl⟩ := allM_mem.1 hm
    obtain ⟨h1, h2⟩ := turn_bt (b1 := b1) (b2 := b2) hp hc hq hxy.1 hxy.2 hal
    refine ⟨_, (hss _).2 (List.mem_filter.2 ⟨(gridT_all _).2 ?_, by rw [beq_iff_eq]; exact h1⟩), h2⟩
    rw [hpn]
    exact ⟨modR _ hp, modR _ hp⟩
theorem turn_nodup {p c a1 a2 b1 b2 : Int} (hp : isP p = true) (hc : colB c = true) (hq : (qdr p c a1 a2 b1 b2 == 0) = false) {ss : List (Int × Int)} (hn : ss.Nodup) (hss : ∀ x, x ∈ ss → (0 ≤ x.1 ∧ x.1 < p) ∧ 0 ≤ x.2 ∧ x.2 < p) : (ss.map (btM p c a1 a2 b1 b2)).Nodup := by
  rw [List.Nodup, List.pairwise_map]
  exact List.Pairwise.imp_of_mem (fun hx hy hne e => hne (bt_inj hp hc hq (hss _ hx) (hss _ hy) e)) hn

end Go.Proofs.Ytibfbdgenamlkaa
