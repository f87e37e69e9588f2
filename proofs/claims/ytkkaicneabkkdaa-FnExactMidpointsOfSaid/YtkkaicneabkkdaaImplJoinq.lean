/-
  The rows of two places: what is answered of them is the join; no program.
  impl.join: the join of two places.
-/
import Derived.Test.YtkkaicneabkkdaaMgq0
import Derived.Test.YtkkaicneabkkdaaRowsPl2q
import Derived.Test.YtkkaicneabkkdaaImplPlMadeq
import Derived.Test.YtkkaicneabkkdaaArr3q
import Derived.Deep.RegionHeld3
import Derived.Deep.DeepCutAuto

namespace Go.Proofs.Ytkkaicneabkkdaa
open Go.RowKit

section
variable {n : Nat} [NeZero n]
theorem vec3 {P : Nat → Prop} (h0 : P 0) (h1 : P 1) (h2 : P 2) : ∀ j, j < 3 → P j := fun j hj => by
  have : j = 0 ∨ j = 1 ∨ j = 2 := by omega
  rcases this with rfl | rfl | rfl
  · exact h0
  · exact h1
  · exact h2
theorem dot_vec {r : Nat → Int} {u v : Nat → Fin n} : ∀ {m : Nat}, (∀ j, j < m → u j = v j) → dot n r u m = dot n r v m
  | 0, _ => rfl
  | m + 1, h => by
    simp only [dot]
    rw [dot_vec (m := m) fun j hj => h j (by omega), h m (by omega)]
/-- All solutions of rows with one free column are multiples of what is answered. -/
theorem only_mult {N m : Nat} {M0 : Nat → Nat → Int} {x : Nat → Int} (h : OnlyBy n N m M0 x) : ∃ f, f < m ∧ x f = 1 ∧ Sol n N m M0 (fun j => K n (x j)) ∧ ∀ v : Nat → Fin n, Sol n N m M0 v → ∀ j, j < m → v j = v f * K n (x j) := by
  obtain ⟨f, r, L, M, hR, hr, hf, hx, hl, hs⟩ := h
  have hk : ∀ k, k < r → K n (x (L k)) = -K n (M k f) := fun k hk => by rw [hl k hk, K_mod, K_neg]
  obtain ⟨v, hv, v1, _, v3⟩ := hR.sol_free hf
  have e : ∀ j, j < m → v j = K n (x j) := fun j hj => by
    by_cases q : j = f
    · rw [q, v1, hx, K_one]
    · obtain ⟨k, h1, rfl⟩ := hR.others hr hf hj q
      rw [v3 k h1, hk k h1]
  refine ⟨f, hf.1, hx, ?_, fun u hu j hj => ?_⟩
  · intro i hi
    have := (hs v).1 hv i hi
    rw [← this]
    exact dot_vec fun j hj => (e j hj).symm
  · by_cases q : j = f
    · rw [q, hx, K_one]; grind
    · obtain ⟨k, h1, rfl⟩ := hR.others hr hf hj q
      rw [hR.sol_only hr hf ((hs u).2 hu) h1, hk k h1]
theorem crv_par2 {a1 a2 a3 b1 b2 b3 : Int} {v : Nat → Fin n} (ha : OnRow n a1 a2 a3 v) (hb : OnRow n b1 b2 b3 v) : ∀ i j, i < 3 → j < 3 → crv n a1 a2 a3 b1 b2 b3 i * v j = crv n a1 a2 a3 b1 b2 b3 j * v i := by
  obtain ⟨p1, p2, p3⟩ := crv_par ha hb
  have c0 : crv n a1 a2 a3 b1 b2 b3 0 = K n (cr1 a1 a2 a3 b1 b2 b3) := rfl
  have c1 : crv n a1 a2 a3 b1 b2 b3 1 = K n (cr2 a1 a2 a3 b1 b2 b3) := rfl
  have c2 : crv n a1 a2 a3 b1 b2 b3 2 = K n (cr3 a1 a2 a3 b1 b2 b3) := rfl
  intro i j hi hj
  clear ha hb
  have hi3 : i = 0 ∨ i = 1 ∨ i = 2 := by omega
  have hj3 : j = 0 ∨ j = 1 ∨ j = 2 := by omega
  clear hi hj
  rcases hi3 with rfl | rfl | rfl <;> rcases hj3 with rfl | rfl | rfl <;> simp only [c0, c1, c2] <;> first | rfl | exact p1 | exact p1.symm | exact p2 | exact p2.symm | exact p3 | exact p3.symm
theorem one_ne (hp : isP (n : Int) = true) : (1 : Fin n) ≠ 0 := by
  have hr := isP_range hp
  have e10 : K n 1 ≠ 0 := K_small ⟨by omega, by omega⟩ (by decide)
  rwa [K_one] at e10
/-- Different places: their rows leave the join alone. -/
theorem join_not {a1 a2 a3 b1 b2 b3 : Int} (hp : isP (n : Int) = true) (ha : plB n a1 a2 a3 = true) (hb : plB n b1 b2 b3 = true) (he : eqPl a1 a2 a3 b1 b2 b3 = false) (h : OnlyNot n 2 3 fun i j => ([a1, a2, -a3 % n, b1, b2, -b3 % n] : List Int).getD (i * 3 + j) 0) : False := by
  obtain ⟨r, L, M, hR, hr, hs⟩ := h
  have hN := hR.rN
  have hiff := fun v => (hs v).trans (sol2_iff (n := n) rfl v)
  obtain ⟨f, g, hfg, hf, hg⟩ := hR.two (by omega)
  obtain ⟨v, hv, v1, v2, _⟩ := hR.sol_free hf
  obtain ⟨u, hu, u1, u2, _⟩ := hR.sol_free hg
  have pv := crv_par2 ((hiff v).1 hv).1 ((hiff v).1 hv).2
  have pu := crv_par2 ((hiff u).1 hu).1 ((hiff u).1 hu).2
  have g0 := v2 g hg (Ne.symm hfg)
  have f0 := u2 f hf hfg
  have q1 := pu f g hf.1 hg.1
  rw [u1, f0] at q1
  have cf : crv n a1 a2 a3 b1 b2 b3 f = 0 := by grind
  obtain ⟨j, hj, hne⟩ := crv_some (cross_ne hp ha hb he)
  have q2 := pv f j hf.1 hj
  rw [v1, cf] at q2
  exact hne (by grind)
/-- Equal places: more than one line has them. -/
theorem join_eq {a1 a2 a3 : Int} {x : Nat → Int} (hp : isP (n : Int) = true) (ha : plB n a1 a2 a3 = true) (h : OnlyBy n 2 3 (fun i j => ([a1, a2, -a3 % n, a1, a2, -a3 % n] : List Int).getD (i * 3 + j) 0) x) : False := by
  obtain ⟨f, hf, hx, _, hm⟩ := only_mult h
  have e1 := one_ne hp
  have key : ∀ v u : Nat → Fin n, OnRow n a1 a2 a3 v → OnRow n a1 a2 a3 u → ∀ i j, i < 3 → j < 3 → v i = 1 → v j = 0 → u i = 0 → u j = 1 → False := by
    intro v u hv hu i j hi hj h1 h2 h3 h4
    have m1 := hm v ((sol2_iff rfl v).2 ⟨hv, hv⟩)
    have m2 := hm u ((sol2_iff rfl u).2 ⟨hu, hu⟩)
    have a1 := m1 i hi
    have a2 := m1 j hj
    have a3 := m2 i hi
    have a4 := m2 j hj
    rw [h1] at a1; rw [h2] at a2; rw [h3] at a3; rw [h4] at a4
    generalize v f = s at *
    generalize u f = t at *
    generalize K n (x i) = y at *
    generalize K n (x j) = z at *
    clear hm m1 m2 hv hu h1 h2 h3 h4
    have q : (s * y) * (t * z) = (s * z) * (t * y) := by grind -lia
    rw [← a1, ← a2, ← a3, ← a4] at q
    exact e1 (by grind -lia)
  have s10 : ¬ ((1 : Nat) = 0) := by decide
  have s20 : ¬ ((2 : Nat) = 0) := by decide
  have s21 : ¬ ((2 : Nat) = 1) := by decide
  rcases pl_ways ha with rfl | ⟨rfl, rfl⟩ | ⟨rfl, rfl, rfl⟩
  · refine key (fun j => if j = 0 then -K n a2 else if j = 1 then 1 else 0) (fun j => if j = 0 then K n a3 else if j = 1 then 0 else 1) ?_ ?_ 1 2 (by decide) (by decide) (by simp) (by simp) (by simp) (by simp) <;> unfold OnRow <;> simp only [if_true, s10, s20, s21, if_false, K_one] <;> clear key hm <;> grind -lia
  · refine key (fun j => if j = 0 then 1 else 0) (fun j => if j = 0 then 0 else if j = 1 then K n a3 else 1) ?_ ?_ 0 2 (by decide) (by decide) (by simp) (by simp) (by simp) (by simp) <;> unfold OnRow <;> simp only [if_true, s10, s20, s21, if_false, K_one, K_zero] <;> clear key hm <;> grind -lia
  · refine key (fun j => if j = 0 then 1 else 0) (fun j => if j = 1 then 1 else 0) ?_ ?_ 0 1 (by decide) (by decide) (by simp) (by simp) (by simp) (by simp) <;> unfold OnRow <;> simp only [if_true, s10, s20, s21, if_false, K_one, K_zero] <;> clear key hm <;> grind -lia
/-- The place that the numbers make is the join. -/
theorem join_is {a1 a2 a3 b1 b2 b3 : Int} {x : Nat → Int} (hp : isP (n : Int) = true) (ha : plB n a1 a2 a3 = true) (hb : plB n b1 b2 b3 = true) (he : eqPl a1 a2 a3 b1 b2 b3 = false) (hr : ∀ j, j < 3 → 0 ≤ x j ∧ x j < (n : Int)) (h : OnlyBy n 2 3 (fun i j => ([a1, a2, -a3 % n, b1, b2, -b3 % n] : List Int).getD (i * 3 + j) 0) x) :
    ck n (x 0) (x 1) (x 2) (x 0) = jn1 n a1 a2 a3 b1 b2 b3 ∧ ck n (x 0) (x 1) (x 2) (x 1) = jn2 n a1 a2 a3 b1 b2 b3 ∧ ck n (x 0) (x 1) (x 2) (x 2) = jn3 n a1 a2 a3 b1 b2 b3 := by
  obtain ⟨f, hf, hx, _, hm⟩ := only_mult h
  have hc := hm _ ((sol2_iff rfl _).2 (crv_on a1 a2 a3 b1 b2 b3))
  obtain ⟨j, hj, hne⟩ := crv_some (cross_ne hp ha hb he)
  have hu : crv n a1 a2 a3 b1 b2 b3 f ≠ 0 := fun e => hne (by rw [hc j hj, e]; grind)
  obtain ⟨y, hy⟩ : ∃ y : Int, crv n a1 a2 a3 b1 b2 b3 f = K n y := by
    refine vec3 (P := fun f => ∃ y : Int, crv n a1 a2 a3 b1 b2 b3 f = K n y) ⟨_, rfl⟩ ⟨_, rfl⟩ ⟨_, rfl⟩ f hf
  rw [hy] at hu
  have hi := K_inv hp hu
  have c0 : K n (cr1 a1 a2 a3 b1 b2 b3 % n) = K n y * K n (x 0) := by rw [K_mod, ← hy]; exact hc 0 (by decide)
  have c1 : K n (cr2 a1 a2 a3 b1 b2 b3 % n) = K n y * K n (x 1) := by rw [K_mod, ← hy]; exact hc 1 (by decide)
  have c2 : K n (cr3 a1 a2 a3 b1 b2 b3 % n) = K n y * K n (x 2) := by rw [K_mod, ← hy]; exact hc 2 (by decide)
  have hi' : K n (inv n y) * K n y = 1 := by rw [← hi]; grind
  have r0 := hr 0 (by decide)
  have r1 := hr 1 (by decide)
  have r2 := hr 2 (by decide)
  have s0 := modR (cr1 a1 a2 a3 b1 b2 b3) hp
  have s1 := modR (cr2 a1 a2 a3 b1 b2 b3) hp
  have s2 := modR (cr3 a1 a2 a3 b1 b2 b3) hp
  exact ⟨(ck_ratio hp hi' r0 r1 r2 s0 s1 s2 c0 c1 c2 c0).symm, (ck_ratio hp hi' r0 r1 r2 s0 s1 s2 c0 c1 c2 c1).symm, (ck_ratio hp hi' r0 r1 r2 s0 s1 s2 c0 c1 c2 c2).symm⟩
end
end Go.Proofs.Ytkkaicneabkkdaa

namespace Go.Proofs.Ytkkaicneabkkdaa
open Go.RowKit

theorem Apart2.frozen {r s : Nat} {a W : World} (h : Apart2 r s a W) {b j : Nat} (hr : b ≠ r) (hs : b ≠ s) (hl : b < a.heap.size) (hf : a.frozen? ⟨b, j, none⟩ = false) : W.frozen? ⟨b, j, none⟩ = false :=
  (frozen_of_block (w := a) (a := ⟨b, j, none⟩) (h.block b hl hr hs)).trans hf
/-- What the program's join answers. -/
def jx1 (p a1 a2 a3 b1 b2 b3 : Int) : Int := if eqPl a1 a2 a3 b1 b2 b3 then 0 else jn1 p a1 a2 a3 b1 b2 b3
def jx2 (p a1 a2 a3 b1 b2 b3 : Int) : Int := if eqPl a1 a2 a3 b1 b2 b3 then 0 else jn2 p a1 a2 a3 b1 b2 b3
def jx3 (p a1 a2 a3 b1 b2 b3 : Int) : Int := if eqPl a1 a2 a3 b1 b2 b3 then 0 else jn3 p a1 a2 a3 b1 b2 b3
def jxC (a1 a2 a3 b1 b2 b3 : Int) : Int := if eqPl a1 a2 a3 b1 b2 b3 then 5 else 0
theorem jx1_r (a1 a2 a3 b1 b2 b3 : Int) {p : Int} (h : isP p = true) : 0 ≤ jx1 p a1 a2 a3 b1 b2 b3 ∧ jx1 p a1 a2 a3 b1 b2 b3 < p := by
  have := isP_range h; have := jn1_r a1 a2 a3 b1 b2 b3 h; unfold jx1; split <;> omega
theorem jx2_r (a1 a2 a3 b1 b2 b3 : Int) {p : Int} (h : isP p = true) : 0 ≤ jx2 p a1 a2 a3 b1 b2 b3 ∧ jx2 p a1 a2 a3 b1 b2 b3 < p := by
  have := isP_range h; have := jn2_r a1 a2 a3 b1 b2 b3 h; unfold jx2; split <;> omega
theorem jx3_r (a1 a2 a3 b1 b2 b3 : Int) {p : Int} (h : isP p = true) : 0 ≤ jx3 p a1 a2 a3 b1 b2 b3 ∧ jx3 p a1 a2 a3 b1 b2 b3 < p := by
  have := isP_range h; have := jn3_r a1 a2 a3 b1 b2 b3 h; unfold jx3; split <;> omega
/-- impl.onlySolution at the rows of two places. -/
theorem onlyPl_any (p a1 a2 a3 b1 b2 b3 : Int) (R B cap : Nat) (w : World) (hp : isP p = true) (ha : plB p a1 a2 a3 = true) (hb : plB p b1 b2 b3 = true) (hcap : 2 ≤ cap)
    (hL : LayM w R B 2 3 (fun i => i * 3) (fun i j => ([a1, a2, -a3 % p, b1, b2, -b3 % p] : List Int).getD (i * 3 + j) 0)) :
    Calls Try.prog 67 #[.int .i64 p, .slice (some ⟨R, 0, none⟩) 2 cap] w fun e w' => Apart2 R B w w' ∧ ((eqPl a1 a2 a3 b1 b2 b3 = true ∧ e = .returned (.tuple #[.slice none 0 0, .bool false])) ∨
      (eqPl a1 a2 a3 b1 b2 b3 = false ∧ ∃ (F : Nat) (x y z : Int), w.heap.size ≤ F ∧ (0 ≤ x ∧ x < p) ∧ (0 ≤ y ∧ y < p) ∧ (0 ≤ z ∧ z < p) ∧ w'.cell? ⟨F, 0, none⟩ = some (.int .i64 x) ∧ w'.cell? ⟨F, 1, none⟩ = some (.int .i64 y) ∧ w'.cell? ⟨F, 2, none⟩ = some (.int .i64 z) ∧
        ck p x y z x = jn1 p a1 a2 a3 b1 b2 b3 ∧ ck p x y z y = jn2 p a1 a2 a3 b1 b2 b3 ∧ ck p x y z z = jn3 p a1 a2 a3 b1 b2 b3 ∧ e = .returned (.tuple #[.slice (some ⟨F, 0, none⟩) 3 3, .bool true]))) := by
  obtain ⟨n, rfl⟩ := Int.eq_ofNat_of_zero_le (by have := isP_range hp; omega : 0 ≤ p)
  haveI := neZero_of hp
  obtain ⟨qa1, qa2, qa3⟩ := pl_num hp ha
  obtain ⟨qb1, qb2, qb3⟩ := pl_num hp hb
  refine Calls.mono (onlySolution_any n 2 3 R B cap _ _ w hp hL (by decide) (by decide) (by decide) (by decide) hcap (fun i j hi hj => ?_)) ?_
  · have h1 : i = 0 ∨ i = 1 := by omega
    have h2 : j = 0 ∨ j = 1 ∨ j = 2 := by omega
    rcases h1 with rfl | rfl <;> rcases h2 with rfl | rfl | rfl <;> first | exact qa1 | exact qa2 | exact qa3 | exact qb1 | exact qb2 | exact qb3
  · rintro e w' ⟨hap, hA⟩
    refine ⟨hap, ?_⟩
    rcases hA with ⟨hn, rfl⟩ | ⟨F, x, hx, hr, hF, hc, rfl⟩
    · refine .inl ⟨?_, rfl⟩
      cases he : eqPl a1 a2 a3 b1 b2 b3
      · exact (join_not hp ha hb he hn).elim
      · rfl
    · refine .inr ?_
      cases he : eqPl a1 a2 a3 b1 b2 b3
      · obtain ⟨j1, j2, j3⟩ := join_is hp ha hb he hr hx
        exact ⟨rfl, F, x 0, x 1, x 2, hF, hr 0 (by decide), hr 1 (by decide), hr 2 (by decide), hc 0 (by decide), hc 1 (by decide), hc 2 (by decide), j1, j2, j3, rfl⟩
      · obtain ⟨rfl, rfl, rfl⟩ := eqPl_iff.1 he
        exact (join_eq hp ha hx).elim

set_option linter.unusedVariables false in
set_option linter.unusedSimpArgs false in
set_option maxRecDepth 20000 in
set_option maxHeartbeats 4000000 in
theorem implJoin_any (p a1 a2 a3 b1 b2 b3 : Int) (w : World) (hp : isP p = true) (ha : plB p a1 a2 a3 = true) (hb : plB p b1 b2 b3 = true) :
    Calls Try.prog 37 #[.int .i64 p, .agg #[.int .i64 a1, .int .i64 a2, .int .i64 a3], .agg #[.int .i64 b1, .int .i64 b2, .int .i64 b3]] w fun e w' => e = .returned (.tuple #[.agg #[.int .i64 (jx1 p a1 a2 a3 b1 b2 b3), .int .i64 (jx2 p a1 a2 a3 b1 b2 b3), .int .i64 (jx3 p a1 a2 a3 b1 b2 b3)], .int .i64 (jxC a1 a2 a3 b1 b2 b3)]) ∧ Below w.heap.size w w' := by
  have hr := isP_range hp
  obtain ⟨ra1, ra2, ra3⟩ := plB_rng ha
  obtain ⟨rb1, rb2, rb3⟩ := plB_rng hb
  go_enter Try.func37, Try.ntmps37
  go_wp2_with fail
  obtain ⟨W3, hW3⟩ : ∃ W3, W3 = ((w.alloc (.cells #[.int .i64 a1, .int .i64 a2, .int .i64 a3] 23)).alloc (.cells #[.int .i64 b1, .int .i64 b2, .int .i64 b3] 23)).alloc (.cells #[.int .i64 0, .int .i64 0, .int .i64 0] 23) := ⟨_, rfl⟩
  have k0 : W3.cell? ⟨w.heap.size + 1 + 1, 0, none⟩ = some (.int .i64 0) := by rw [hW3]; (repeat (first | with_reducible assumption | ((with_reducible refine kfresh ?_ ?_) <;> (first | with_reducible rfl | (simp; done))) | ((with_reducible refine ksameS ?_); focus ((repeat (first | with_reducible exact kis_of (by with_reducible assumption) | with_reducible refine kis_set ?_ | ((with_reducible refine kis_new ?_ ?_) <;> (first | with_reducible rfl | rfl | (simp; done))) | with_reducible refine kis_alloc _ ?_ | with_reducible refine kis_drew ?_ | with_reducible refine kis_call (by with_reducible assumption) ?_ | with_reducible exact kis_of (kcall (by with_reducible assumption) (by with_reducible assumption)))); done)) | with_reducible refine kother (by decide) ?_ | with_reducible refine kset (by first | omega | (simp; done) | (simp; omega)) ?_ | with_reducible refine kalloc _ ?_ | with_reducible refine kdrew ?_ | with_reducible refine kdrewN ?_ | with_reducible refine kcall (by with_reducible assumption) ?_))
  have k1 : W3.cell? ⟨w.heap.size + 1 + 1, 1, none⟩ = some (.int .i64 0) := by rw [hW3]; (repeat (first | with_reducible assumption | ((with_reducible refine kfresh ?_ ?_) <;> (first | with_reducible rfl | (simp; done))) | ((with_reducible refine ksameS ?_); focus ((repeat (first | with_reducible exact kis_of (by with_reducible assumption) | with_reducible refine kis_set ?_ | ((with_reducible refine kis_new ?_ ?_) <;> (first | with_reducible rfl | rfl | (simp; done))) | with_reducible refine kis_alloc _ ?_ | with_reducible refine kis_drew ?_ | with_reducible refine kis_call (by with_reducible assumption) ?_ | with_reducible exact kis_of (kcall (by with_reducible assumption) (by with_reducible assumption)))); done)) | with_reducible refine kother (by decide) ?_ | with_reducible refine kset (by first | omega | (simp; done) | (simp; omega)) ?_ | with_reducible refine kalloc _ ?_ | with_reducible refine kdrew ?_ | with_reducible refine kdrewN ?_ | with_reducible refine kcall (by with_reducible assumption) ?_))
  have k2 : W3.cell? ⟨w.heap.size + 1 + 1, 2, none⟩ = some (.int .i64 0) := by rw [hW3]; (repeat (first | with_reducible assumption | ((with_reducible refine kfresh ?_ ?_) <;> (first | with_reducible rfl | (simp; done))) | ((with_reducible refine ksameS ?_); focus ((repeat (first | with_reducible exact kis_of (by with_reducible assumption) | with_reducible refine kis_set ?_ | ((with_reducible refine kis_new ?_ ?_) <;> (first | with_reducible rfl | rfl | (simp; done))) | with_reducible refine kis_alloc _ ?_ | with_reducible refine kis_drew ?_ | with_reducible refine kis_call (by with_reducible assumption) ?_ | with_reducible exact kis_of (kcall (by with_reducible assumption) (by with_reducible assumption)))); done)) | with_reducible refine kother (by decide) ?_ | with_reducible refine kset (by first | omega | (simp; done) | (simp; omega)) ?_ | with_reducible refine kalloc _ ?_ | with_reducible refine kdrew ?_ | with_reducible refine kdrewN ?_ | with_reducible refine kcall (by with_reducible assumption) ?_))
  have f0 : W3.frozen? ⟨w.heap.size + 1 + 1, 0, none⟩ = false := by rw [hW3]; (repeat (first | with_reducible assumption | with_reducible refine fdrew ?_ | with_reducible refine fdrewN ?_ | with_reducible refine fset ?_ | ((with_reducible refine fallocNew ?_) <;> (first | with_reducible rfl | (simp; done))) | ((with_reducible refine kfro (by with_reducible assumption) ?_ ?_); focus (first | with_reducible assumption | omega | (simp; done) | (simp; omega))) | ((with_reducible refine falloc ?_ ?_); focus (first | with_reducible assumption | omega | (simp; done) | (simp; omega)))))
  have f1 : W3.frozen? ⟨w.heap.size + 1 + 1, 1, none⟩ = false := by rw [hW3]; (repeat (first | with_reducible assumption | with_reducible refine fdrew ?_ | with_reducible refine fdrewN ?_ | with_reducible refine fset ?_ | ((with_reducible refine fallocNew ?_) <;> (first | with_reducible rfl | (simp; done))) | ((with_reducible refine kfro (by with_reducible assumption) ?_ ?_); focus (first | with_reducible assumption | omega | (simp; done) | (simp; omega))) | ((with_reducible refine falloc ?_ ?_); focus (first | with_reducible assumption | omega | (simp; done) | (simp; omega)))))
  have f2 : W3.frozen? ⟨w.heap.size + 1 + 1, 2, none⟩ = false := by rw [hW3]; (repeat (first | with_reducible assumption | with_reducible refine fdrew ?_ | with_reducible refine fdrewN ?_ | with_reducible refine fset ?_ | ((with_reducible refine fallocNew ?_) <;> (first | with_reducible rfl | (simp; done))) | ((with_reducible refine kfro (by with_reducible assumption) ?_ ?_); focus (first | with_reducible assumption | omega | (simp; done) | (simp; omega))) | ((with_reducible refine falloc ?_ ?_); focus (first | with_reducible assumption | omega | (simp; done) | (simp; omega)))))
  have s3 : W3.heap.size = w.heap.size + 1 + 1 + 1 := by rw [hW3]; simp
  have h3 : Below w.heap.size w W3 := by rw [hW3]; exact balloc (balloc (balloc (Below.refl _ _) _) _) _
  rw [← hW3]
  clear hW3
  refine Calls.mono (rowsPl2_any p a1 a2 a3 b1 b2 b3 _ _ s3.symm hp (by omega) (by omega) (by omega) (by omega) (by omega) (by omega)) ?_
  rintro e wa ⟨R, B, cap, rfl, hcap, hR, hB, hLa, hBa⟩
  have HLa := Lib.hid hLa
  have hsa := hBa.size
  have ka0 := (cell_back hBa (by omega) 0).trans k0
  have ka1 := (cell_back hBa (by omega) 1).trans k1
  have ka2 := (cell_back hBa (by omega) 2).trans k2
  have fa0 := kfro hBa (by omega) f0
  have fa1 := kfro hBa (by omega) f1
  have fa2 := kfro hBa (by omega) f2
  have hwa : Below w.heap.size w wa := bthen h3 hBa
  clear hLa hBa h3 k0 k1 k2 f0 f1 f2
  go_wp2_with fail
  refine Calls.mono (onlyPl_any p a1 a2 a3 b1 b2 b3 R B cap wa hp ha hb hcap HLa.out) ?_
  clear HLa
  rintro e wb ⟨hap, hAns⟩
  have hsb := hap.size
  have kb0 := hap.cell (by omega) (by omega) ka0
  have kb1 := hap.cell (by omega) (by omega) ka1
  have kb2 := hap.cell (by omega) (by omega) ka2
  have fb0 := hap.frozen (by omega) (by omega) (by omega) fa0
  have fb1 := hap.frozen (by omega) (by omega) (by omega) fa1
  have fb2 := hap.frozen (by omega) (by omega) (by omega) fa2
  have hwb : Below w.heap.size w wb := Apart2.below hwa (by omega) (by omega) hap
  clear hap hwa ka0 ka1 ka2 fa0 fa1 fa2
  rcases hAns with ⟨he, rfl⟩ | ⟨he, F, x, y, z, hF, rx, ry, rz, c0, c1, c2, j1, j2, j3, rfl⟩
  · have HV := Lib.hid (show jx1 p a1 a2 a3 b1 b2 b3 = 0 ∧ jx2 p a1 a2 a3 b1 b2 b3 = 0 ∧ jx3 p a1 a2 a3 b1 b2 b3 = 0 ∧ jxC a1 a2 a3 b1 b2 b3 = 5 from ⟨by rw [jx1, he]; rfl, by rw [jx2, he]; rfl, by rw [jx3, he]; rfl, by rw [jxC, he]; rfl⟩)
    clear he
    go_wp2
    (refine bodyPost_ret (v := .tuple #[.agg #[.int .i64 (jx1 p a1 a2 a3 b1 b2 b3), .int .i64 (jx2 p a1 a2 a3 b1 b2 b3), .int .i64 (jx3 p a1 a2 a3 b1 b2 b3)], .int .i64 (jxC a1 a2 a3 b1 b2 b3)]) (by simp [results, Try.results37, go_sem, HV.out.1, HV.out.2.1, HV.out.2.2.1, HV.out.2.2.2, *]) rfl ⟨?_, ?_⟩)
    · rfl
    · (repeat (first | with_reducible exact Below.refl _ _ | with_reducible exact hwb | with_reducible refine balloc ?_ _ | with_reducible refine bdrewN ?_ _ | with_reducible refine Below.drew ?_ | with_reducible refine bthen ?_ (by with_reducible assumption) | with_reducible refine Below.setCell ?_ (by first | (simp; done) | (simp; omega)) _))
  · have HV := Lib.hid (show jx1 p a1 a2 a3 b1 b2 b3 = ck p x y z x ∧ jx2 p a1 a2 a3 b1 b2 b3 = ck p x y z y ∧ jx3 p a1 a2 a3 b1 b2 b3 = ck p x y z z ∧ jxC a1 a2 a3 b1 b2 b3 = 0 from ⟨by rw [jx1, he, j1]; rfl, by rw [jx2, he, j2]; rfl, by rw [jx3, he, j3]; rfl, by rw [jxC, he]; rfl⟩)
    clear he j1 j2 j3
    have hat := @arrayAt3 Try.prog 23 2 (by kernel_rfl)
    go_wp2_with fail
    refine Calls.mono (plMade_any p x y z wb hp rx ry rz) ?_
    rintro e wc ⟨rfl, hBc⟩
    have hsc := hBc.size
    have q0 := (cell_back hBc (by omega) 0).trans kb0
    have q1 := (cell_back hBc (by omega) 1).trans kb1
    have q2 := (cell_back hBc (by omega) 2).trans kb2
    have g0 := kfro hBc (by omega) fb0
    have g1 := kfro hBc (by omega) fb1
    have g2 := kfro hBc (by omega) fb2
    have hwc : Below w.heap.size w wc := bthen hwb hBc
    clear hBc hwb kb0 kb1 kb2 fb0 fb1 fb2 c0 c1 c2
    go_wp2
    (refine bodyPost_ret (v := .tuple #[.agg #[.int .i64 (jx1 p a1 a2 a3 b1 b2 b3), .int .i64 (jx2 p a1 a2 a3 b1 b2 b3), .int .i64 (jx3 p a1 a2 a3 b1 b2 b3)], .int .i64 (jxC a1 a2 a3 b1 b2 b3)]) (by simp [results, Try.results37, go_sem, HV.out.1, HV.out.2.1, HV.out.2.2.1, HV.out.2.2.2, *]) rfl ⟨?_, ?_⟩)
    · rfl
    · (repeat (first | with_reducible exact Below.refl _ _ | with_reducible exact hwc | with_reducible refine balloc ?_ _ | with_reducible refine bdrewN ?_ _ | with_reducible refine Below.drew ?_ | with_reducible refine bthen ?_ (by with_reducible assumption) | with_reducible refine Below.setCell ?_ (by first | (simp; done) | (simp; omega)) _))

end Go.Proofs.Ytkkaicneabkkdaa
