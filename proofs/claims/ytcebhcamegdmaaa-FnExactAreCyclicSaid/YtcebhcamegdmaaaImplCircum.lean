/-
  The circumcentre is the only point with equal quadrances to three points; no program.
  impl.circumcentre: the search through all points finds the circumcentre.
-/
import Derived.Test.YtcebhcamegdmaaaTriMath
import Derived.Test.YtcebhcamegdmaaaSeqAll
import Derived.Test.YtcebhcamegdmaaaImplProd
import Derived.TacticsIn
import Derived.RegionIn
import Derived.Shelf.RegionOpen
import Derived.Scope

namespace Go.Proofs.Ytcebhcamegdmaaa
open Go.RowKit

section
variable {n : Nat} [NeZero n]
theorem K_half (hp : isP (n : Int) = true) : 2 * K n (((n : Int) + 1) / 2) = 1 := by
  have h2 := half_two hp
  have k2 := congrArg (K n) h2
  rw [K_mul, K_add, K_self, K_one, K_two] at k2
  rw [k2]; grind
theorem K_mid (hp : isP (n : Int) = true) (a b : Int) : 2 * K n (mid n a b) = K n a + K n b := by
  have h := K_half hp
  rw [mid, K_mod, K_mul, K_mod, K_add]
  obtain ⟨H, hH⟩ : ∃ H, H = K n (((n : Int) + 1) / 2) := ⟨_, rfl⟩
  rw [← hH] at h ⊢
  grind
theorem halve {H x : Fin n} (h : 2 * H = 1) (e : 2 * x = 0) : x = 0 := by
  have : H * (2 * x) = 0 := by rw [e]; grind
  grind
/-- Equal quadrances to two points: on the line between them. -/
theorem K_qdr_cmp (hp : isP (n : Int) = true) {c a1 a2 b1 b2 x1 x2 : Int} (hc : colB c = true) :
    K n (qdr n c x1 x2 b1 b2) = K n (qdr n c x1 x2 a1 a2) ↔ K n (uOf c ((a1 - b1) % n) ((a2 - b2) % n)) * (K n (mid n a1 b1) - K n x1) + K n (vOf n c ((a1 - b1) % n) ((a2 - b2) % n)) * (K n (mid n a2 b2) - K n x2) = 0 := by
  have hH := K_half hp
  have m1 := K_mid hp a1 b1
  have m2 := K_mid hp a2 b2
  obtain ⟨M1, e1⟩ : ∃ M, M = K n (mid n a1 b1) := ⟨_, rfl⟩
  obtain ⟨M2, e2⟩ : ∃ M, M = K n (mid n a2 b2) := ⟨_, rfl⟩
  obtain ⟨H, e3⟩ : ∃ M, M = K n (((n : Int) + 1) / 2) := ⟨_, rfl⟩
  rw [← e1] at m1; rw [← e2] at m2; rw [← e3] at hH; rw [← e1, ← e2]
  unfold qdr
  rcases colB_ways hc with rfl | rfl | rfl
  · rw [show uOf 0 ((a1 - b1) % (n : Int)) ((a2 - b2) % n) = (a1 - b1) % n from rfl, show vOf n 0 ((a1 - b1) % (n : Int)) ((a2 - b2) % n) = (a2 - b2) % n from rfl, prd_0, prd_0]
    simp only [K_mod, K_add, K_mul, K_sub]
    constructor
    · intro h; exact halve hH (by grind)
    · intro h; grind
  · rw [show uOf 1 ((a1 - b1) % (n : Int)) ((a2 - b2) % n) = (a1 - b1) % n from rfl, show vOf n 1 ((a1 - b1) % (n : Int)) ((a2 - b2) % n) = -((a2 - b2) % n) % n from rfl, prd_1, prd_1]
    simp only [K_mod, K_neg, K_mul, K_sub]
    constructor
    · intro h; exact halve hH (by grind)
    · intro h; grind
  · rw [show uOf 2 ((a1 - b1) % (n : Int)) ((a2 - b2) % n) = (a2 - b2) % n from rfl, show vOf n 2 ((a1 - b1) % (n : Int)) ((a2 - b2) % n) = (a1 - b1) % n from rfl, prd_2, prd_2]
    simp only [K_mod, K_add, K_mul, K_sub]
    constructor
    · intro h; exact halve hH (by grind)
    · intro h; grind
theorem meet_ring {l1 l2 l3 m1 m2 m3 I x y : Fin n} (hI : (l1 * m2 - l2 * m1) * I = 1) : (l1 * x + l2 * y + l3 = 0 ∧ m1 * x + m2 * y + m3 = 0) ↔ (x = (l2 * m3 - m2 * l3) * I ∧ y = (m1 * l3 - l1 * m3) * I) := by
  constructor
  · rintro ⟨h1, h2⟩
    constructor <;> grind
  · rintro ⟨rfl, rfl⟩
    constructor <;> grind
theorem line_ring {U V N J m1 m2 x y : Fin n} (hN : N * J = 1) : U * N * x + V * N * y + -(U * m1 + V * m2) * N = 0 ↔ U * (m1 - x) + V * (m2 - y) = 0 := by
  constructor
  · intro h
    have : (U * N * x + V * N * y + -(U * m1 + V * m2) * N) * J = 0 := by rw [h]; grind
    grind
  · intro h; grind
end
theorem cc_iff {p c a1 a2 b1 b2 c1 c2 x1 x2 : Int} (hp : isP p = true) (hc : colB c = true) (hx1 : 0 ≤ x1 ∧ x1 < p) (hx2 : 0 ≤ x2 ∧ x2 < p) (ha1 : 0 ≤ a1 ∧ a1 < p) (ha2 : 0 ≤ a2 ∧ a2 < p) (hb1 : 0 ≤ b1 ∧ b1 < p) (hb2 : 0 ≤ b2 ∧ b2 < p) (hc1 : 0 ≤ c1 ∧ c1 < p) (hc2 : 0 ≤ c2 ∧ c2 < p)
    (ht : (area p a1 a2 b1 b2 c1 c2 == 0) = false) :
    (qdr p c x1 x2 b1 b2 = qdr p c x1 x2 a1 a2 ∧ qdr p c x1 x2 c1 c2 = qdr p c x1 x2 a1 a2) ↔ (x1 = ccX p c a1 a2 b1 b2 c1 c2 ∧ x2 = ccY p c a1 a2 b1 b2 c1 c2) := by
  have hd := tl_det (mid p a1 b1) (mid p a2 b2) (mid p a1 c1) (mid p a2 c2) hp hc (bi_cross hp ht)
  have nd1 := dir_ne hp ha1 ha2 hb1 hb2 (tri_ab ht)
  have nd2 := dir_ne hp ha1 ha2 hc1 hc2 (tri_ac ht)
  have rX := ccX_r p c a1 a2 b1 b2 c1 c2 hp
  have rY := ccY_r p c a1 a2 b1 b2 c1 c2 hp
  have qa := qdr_r c x1 x2 a1 a2 hp
  have qb := qdr_r c x1 x2 b1 b2 hp
  have qc := qdr_r c x1 x2 c1 c2 hp
  obtain ⟨n, rfl⟩ := Int.eq_ofNat_of_zero_le (by have := isP_range hp; omega : 0 ≤ p)
  haveI := neZero_of hp
  have kin : ∀ {x y : Int}, (0 ≤ x ∧ x < (n : Int)) → (0 ≤ y ∧ y < (n : Int)) → (x = y ↔ K n x = K n y) := fun hx hy => ⟨fun e => by rw [e], K_inj hx hy⟩
  rw [kin qb qa, kin qc qa, kin hx1 rX, kin hx2 rY, K_qdr_cmp hp hc, K_qdr_cmp hp hc]
  have n1 : K n (nrm n (uOf c ((a1 - b1) % n) ((a2 - b2) % n)) (vOf n c ((a1 - b1) % n) ((a2 - b2) % n))) ≠ 0 := K_nrm_ne hp fun q => nd1 (by have := uv_zero hc q; exact ⟨K_eq_zero.1 this.1, K_eq_zero.1 this.2⟩)
  have n2 : K n (nrm n (uOf c ((a1 - c1) % n) ((a2 - c2) % n)) (vOf n c ((a1 - c1) % n) ((a2 - c2) % n))) ≠ 0 := K_nrm_ne hp fun q => nd2 (by have := uv_zero hc q; exact ⟨K_eq_zero.1 this.1, K_eq_zero.1 this.2⟩)
  have j1 := K_inv hp n1
  have j2 := K_inv hp n2
  have hI := K_inv hp (fun e => hd (K_eq_zero.1 e))
  unfold ccX ccY meX meY
  rw [show detM (bi1 n c a1 a2 b1 b2) (bi2 n c a1 a2 b1 b2) (bi1 n c a1 a2 c1 c2) (bi2 n c a1 a2 c1 c2) = detM (tl1 n c ((a1 - b1) % n) ((a2 - b2) % n) (mid n a1 b1) (mid n a2 b2)) (tl2 n c ((a1 - b1) % n) ((a2 - b2) % n) (mid n a1 b1) (mid n a2 b2)) (tl1 n c ((a1 - c1) % n) ((a2 - c2) % n) (mid n a1 c1) (mid n a2 c2)) (tl2 n c ((a1 - c1) % n) ((a2 - c2) % n) (mid n a1 c1) (mid n a2 c2)) from rfl]
  generalize inv (n : Int) (detM (tl1 n c ((a1 - b1) % n) ((a2 - b2) % n) (mid n a1 b1) (mid n a2 b2)) (tl2 n c ((a1 - b1) % n) ((a2 - b2) % n) (mid n a1 b1) (mid n a2 b2)) (tl1 n c ((a1 - c1) % n) ((a2 - c2) % n) (mid n a1 c1) (mid n a2 c2)) (tl2 n c ((a1 - c1) % n) ((a2 - c2) % n) (mid n a1 c1) (mid n a2 c2))) = I at hI ⊢
  unfold bi1 bi2 bi3
  unfold detM tl1 tl2 mk1 mk2 at hI
  unfold tl1 tl2 tl3 mk1 mk2 mk3 tw
  simp only [K_mod, K_mul, K_sub, K_add, K_neg] at hI ⊢
  rw [← line_ring j1, ← line_ring j2]
  exact meet_ring hI

end Go.Proofs.Ytcebhcamegdmaaa

namespace Go.Proofs.Ytcebhcamegdmaaa
open Go.RowKit Go.Shelf

attribute [local go_sem] Oper.semAt_some

/-- A point whose quadrances to the three points are equal. -/
def ccB (p c a1 a2 b1 b2 c1 c2 : Int) (x : Int × Int) : Bool := qdr p c x.1 x.2 b1 b2 == qdr p c x.1 x.2 a1 a2 && qdr p c x.1 x.2 c1 c2 == qdr p c x.1 x.2 a1 a2
theorem allF_mem {m : Nat} (hm : m ≤ 32) {x : Pt32} : x ∈ allF m m 0 ↔ x.1.val < m ∧ x.2.val < m := by
  rw [allF, allL_zero, List.mem_map]
  constructor
  · rintro ⟨z, hz, rfl⟩
    rw [gridL, List.mem_flatMap] at hz
    obtain ⟨a, ha, hz⟩ := hz
    rw [rowL, List.mem_map] at hz
    obtain ⟨b, hb, rfl⟩ := hz
    have h1 := List.mem_range.1 ha
    have h2 := List.mem_range.1 (List.mem_filter.1 hb).1
    simp only [toF, Int.toNat_natCast, Fin.ofNat]
    exact ⟨by rw [Nat.mod_eq_of_lt (by omega)]; exact h1, by rw [Nat.mod_eq_of_lt (by omega)]; exact h2⟩
  · rintro ⟨h1, h2⟩
    refine ⟨((x.1.val : Int), (x.2.val : Int)), ?_, ?_⟩
    · rw [gridL, List.mem_flatMap]
      refine ⟨x.1.val, List.mem_range.2 h1, ?_⟩
      rw [rowL, List.mem_map]
      exact ⟨x.2.val, List.mem_filter.2 ⟨List.mem_range.2 h2, rfl⟩, rfl⟩
    · obtain ⟨⟨a, ha⟩, ⟨b, hb⟩⟩ := x
      simp only [toF, Int.toNat_natCast, Fin.ofNat]
      simp only [Nat.mod_eq_of_lt ha, Nat.mod_eq_of_lt hb]
theorem ccB_iff {p c a1 a2 b1 b2 c1 c2 x1 x2 : Int} (hp : isP p = true) (hc : colB c = true) (hx1 : 0 ≤ x1 ∧ x1 < p) (hx2 : 0 ≤ x2 ∧ x2 < p) (ha1 : 0 ≤ a1 ∧ a1 < p) (ha2 : 0 ≤ a2 ∧ a2 < p) (hb1 : 0 ≤ b1 ∧ b1 < p) (hb2 : 0 ≤ b2 ∧ b2 < p) (hc1 : 0 ≤ c1 ∧ c1 < p) (hc2 : 0 ≤ c2 ∧ c2 < p)
    (ht : (area p a1 a2 b1 b2 c1 c2 == 0) = false) : ccB p c a1 a2 b1 b2 c1 c2 (x1, x2) = true ↔ (x1 = ccX p c a1 a2 b1 b2 c1 c2 ∧ x2 = ccY p c a1 a2 b1 b2 c1 c2) := by
  rw [← cc_iff hp hc hx1 hx2 ha1 ha2 hb1 hb2 hc1 hc2 ht, ccB, Bool.and_eq_true, beq_iff_eq, beq_iff_eq]

/-- A scope whose labels nothing jumps to, within the wide fence. -/
theorem wpIn_scope_wide {n : Nat} {P : Program} {c : Code} {Q : Exit → Act → World → Prop} {a : Act} {w : World} (h : c.wpIn Fence.wide n P (Exit.noGoto Q) a w) : (Code.scope c).wpIn Fence.wide n P Q a w := wpIn_wide.2 (wp_scope_straight (wpIn_wide.1 h))

theorem index_pair0 (a b c d : Int) (w : World) : (Instr.index 132 (.agg #[.int .i64 a, .int .i64 b, .int .i64 c, .int .i64 d]) (.int .i64 0)).run Try.prog w = .ok (.agg #[.int .i64 a, .int .i64 b]) w := by
  simp [Instr.index, asIntOf, part, isAgg, sizeOf, run_underlying (by kernel_rfl : Try.prog.underlying 132 = some (.array 2 26)), go_sem]; rfl
theorem index_pair1 (a b c d : Int) (w : World) : (Instr.index 132 (.agg #[.int .i64 a, .int .i64 b, .int .i64 c, .int .i64 d]) (.int .i64 1)).run Try.prog w = .ok (.agg #[.int .i64 c, .int .i64 d]) w := by
  simp [Instr.index, asIntOf, part, isAgg, sizeOf, run_underlying (by kernel_rfl : Try.prog.underlying 132 = some (.array 2 26)), go_sem]; rfl
set_option maxRecDepth 100000 in
set_option maxRecDepth 20000 in
set_option maxHeartbeats 4000000 in
theorem implCircum_any (p c a1 a2 b1 b2 c1 c2 : Int) (w : World) (hp : isP p = true) (hc : colB c = true) (ha1 : 0 ≤ a1 ∧ a1 < p) (ha2 : 0 ≤ a2 ∧ a2 < p) (hb1 : 0 ≤ b1 ∧ b1 < p) (hb2 : 0 ≤ b2 ∧ b2 < p) (hc1 : 0 ≤ c1 ∧ c1 < p) (hc2 : 0 ≤ c2 ∧ c2 < p) (ht : (area p a1 a2 b1 b2 c1 c2 == 0) = false) :
    Calls Try.prog 106 #[.int .i64 p, .int .i64 c, .agg #[.int .i64 a1, .int .i64 a2], .agg #[.int .i64 b1, .int .i64 b2], .agg #[.int .i64 c1, .int .i64 c2]] w fun e w' =>
      e = .returned (.agg #[.int .i64 (ccX p c a1 a2 b1 b2 c1 c2), .int .i64 (ccY p c a1 a2 b1 b2 c1 c2)]) ∧ Below w.heap.size w w' := by
  have hr := isP_range hp
  have hcr := colB_range hc
  have rX := ccX_r p c a1 a2 b1 b2 c1 c2 hp
  have rY := ccY_r p c a1 a2 b1 b2 c1 c2 hp
  have HT := Lib.hid ht
  have hbb1 := hb1
  have hbb2 := hb2
  clear ht
  refine (callsIn_wide (n := 9)).1 ?_
  refine callsIn_of_wp_marks Try.func106 rfl trivial ?_ rfl
  simp only [Try.ntmps106, List.size_toArray, List.length_cons, List.length_nil, Nat.reduceAdd, Nat.reduceSub, Array.replicate_succ, Array.replicate_zero, List.push_toArray, List.append_toArray, List.nil_append, List.cons_append]
  gi_wp2_with (first | refine wpIn_scope_wide ?_ | refine wpIn_label ?_)
  refine ⟨trivial, CallsIn.mono (callsIn_wide.2 (allPoints_any _ _)) ?_⟩
  rintro e w' ⟨rfl, rfl⟩
  gi_wp2_with fail
  have q0 : (((((((w.alloc (.cells #[.int .i64 p] 2)).alloc (.cells #[.int .i64 c] 2)).alloc (.cells #[.int .i64 a1, .int .i64 a2] 26)).alloc (.cells #[.int .i64 b1, .int .i64 b2] 26)).alloc (.cells #[.int .i64 c1, .int .i64 c2] 26)).alloc (.cells #[.int .i64 0, .int .i64 0] 26)).alloc (.cells #[.int .i64 p] 2)).cell? ⟨w.heap.size, 0, none⟩ = some (.int .i64 p) := by (repeat (first | with_reducible assumption | ((with_reducible refine kfresh ?_ ?_) <;> (first | with_reducible rfl | (simp; done))) | ((with_reducible refine ksameS ?_); focus ((repeat (first | with_reducible exact kis_of (by with_reducible assumption) | with_reducible refine kis_set ?_ | ((with_reducible refine kis_new ?_ ?_) <;> (first | with_reducible rfl | rfl | (simp; done))) | with_reducible refine kis_alloc _ ?_ | with_reducible refine kis_drew ?_ | with_reducible refine kis_call (by with_reducible assumption) ?_ | with_reducible exact kis_of (kcall (by with_reducible assumption) (by with_reducible assumption)))); done)) | with_reducible refine kother (by decide) ?_ | with_reducible refine kset (by first | omega | (simp; done) | (simp; omega)) ?_ | with_reducible refine kalloc _ ?_ | with_reducible refine kdrew ?_ | with_reducible refine kcall (by with_reducible assumption) ?_))
  have q1 : (((((((w.alloc (.cells #[.int .i64 p] 2)).alloc (.cells #[.int .i64 c] 2)).alloc (.cells #[.int .i64 a1, .int .i64 a2] 26)).alloc (.cells #[.int .i64 b1, .int .i64 b2] 26)).alloc (.cells #[.int .i64 c1, .int .i64 c2] 26)).alloc (.cells #[.int .i64 0, .int .i64 0] 26)).alloc (.cells #[.int .i64 p] 2)).cell? ⟨w.heap.size + 1, 0, none⟩ = some (.int .i64 c) := by (repeat (first | with_reducible assumption | ((with_reducible refine kfresh ?_ ?_) <;> (first | with_reducible rfl | (simp; done))) | ((with_reducible refine ksameS ?_); focus ((repeat (first | with_reducible exact kis_of (by with_reducible assumption) | with_reducible refine kis_set ?_ | ((with_reducible refine kis_new ?_ ?_) <;> (first | with_reducible rfl | rfl | (simp; done))) | with_reducible refine kis_alloc _ ?_ | with_reducible refine kis_drew ?_ | with_reducible refine kis_call (by with_reducible assumption) ?_ | with_reducible exact kis_of (kcall (by with_reducible assumption) (by with_reducible assumption)))); done)) | with_reducible refine kother (by decide) ?_ | with_reducible refine kset (by first | omega | (simp; done) | (simp; omega)) ?_ | with_reducible refine kalloc _ ?_ | with_reducible refine kdrew ?_ | with_reducible refine kcall (by with_reducible assumption) ?_))
  have q2 : (((((((w.alloc (.cells #[.int .i64 p] 2)).alloc (.cells #[.int .i64 c] 2)).alloc (.cells #[.int .i64 a1, .int .i64 a2] 26)).alloc (.cells #[.int .i64 b1, .int .i64 b2] 26)).alloc (.cells #[.int .i64 c1, .int .i64 c2] 26)).alloc (.cells #[.int .i64 0, .int .i64 0] 26)).alloc (.cells #[.int .i64 p] 2)).cell? ⟨w.heap.size + 1 + 1, 0, none⟩ = some (.int .i64 a1) := by (repeat (first | with_reducible assumption | ((with_reducible refine kfresh ?_ ?_) <;> (first | with_reducible rfl | (simp; done))) | ((with_reducible refine ksameS ?_); focus ((repeat (first | with_reducible exact kis_of (by with_reducible assumption) | with_reducible refine kis_set ?_ | ((with_reducible refine kis_new ?_ ?_) <;> (first | with_reducible rfl | rfl | (simp; done))) | with_reducible refine kis_alloc _ ?_ | with_reducible refine kis_drew ?_ | with_reducible refine kis_call (by with_reducible assumption) ?_ | with_reducible exact kis_of (kcall (by with_reducible assumption) (by with_reducible assumption)))); done)) | with_reducible refine kother (by decide) ?_ | with_reducible refine kset (by first | omega | (simp; done) | (simp; omega)) ?_ | with_reducible refine kalloc _ ?_ | with_reducible refine kdrew ?_ | with_reducible refine kcall (by with_reducible assumption) ?_))
  have q3 : (((((((w.alloc (.cells #[.int .i64 p] 2)).alloc (.cells #[.int .i64 c] 2)).alloc (.cells #[.int .i64 a1, .int .i64 a2] 26)).alloc (.cells #[.int .i64 b1, .int .i64 b2] 26)).alloc (.cells #[.int .i64 c1, .int .i64 c2] 26)).alloc (.cells #[.int .i64 0, .int .i64 0] 26)).alloc (.cells #[.int .i64 p] 2)).cell? ⟨w.heap.size + 1 + 1, 1, none⟩ = some (.int .i64 a2) := by (repeat (first | with_reducible assumption | ((with_reducible refine kfresh ?_ ?_) <;> (first | with_reducible rfl | (simp; done))) | ((with_reducible refine ksameS ?_); focus ((repeat (first | with_reducible exact kis_of (by with_reducible assumption) | with_reducible refine kis_set ?_ | ((with_reducible refine kis_new ?_ ?_) <;> (first | with_reducible rfl | rfl | (simp; done))) | with_reducible refine kis_alloc _ ?_ | with_reducible refine kis_drew ?_ | with_reducible refine kis_call (by with_reducible assumption) ?_ | with_reducible exact kis_of (kcall (by with_reducible assumption) (by with_reducible assumption)))); done)) | with_reducible refine kother (by decide) ?_ | with_reducible refine kset (by first | omega | (simp; done) | (simp; omega)) ?_ | with_reducible refine kalloc _ ?_ | with_reducible refine kdrew ?_ | with_reducible refine kcall (by with_reducible assumption) ?_))
  have q4 : (((((((w.alloc (.cells #[.int .i64 p] 2)).alloc (.cells #[.int .i64 c] 2)).alloc (.cells #[.int .i64 a1, .int .i64 a2] 26)).alloc (.cells #[.int .i64 b1, .int .i64 b2] 26)).alloc (.cells #[.int .i64 c1, .int .i64 c2] 26)).alloc (.cells #[.int .i64 0, .int .i64 0] 26)).alloc (.cells #[.int .i64 p] 2)).cell? ⟨w.heap.size + 1 + 1 + 1, 0, none⟩ = some (.int .i64 b1) := by (repeat (first | with_reducible assumption | ((with_reducible refine kfresh ?_ ?_) <;> (first | with_reducible rfl | (simp; done))) | ((with_reducible refine ksameS ?_); focus ((repeat (first | with_reducible exact kis_of (by with_reducible assumption) | with_reducible refine kis_set ?_ | ((with_reducible refine kis_new ?_ ?_) <;> (first | with_reducible rfl | rfl | (simp; done))) | with_reducible refine kis_alloc _ ?_ | with_reducible refine kis_drew ?_ | with_reducible refine kis_call (by with_reducible assumption) ?_ | with_reducible exact kis_of (kcall (by with_reducible assumption) (by with_reducible assumption)))); done)) | with_reducible refine kother (by decide) ?_ | with_reducible refine kset (by first | omega | (simp; done) | (simp; omega)) ?_ | with_reducible refine kalloc _ ?_ | with_reducible refine kdrew ?_ | with_reducible refine kcall (by with_reducible assumption) ?_))
  have q5 : (((((((w.alloc (.cells #[.int .i64 p] 2)).alloc (.cells #[.int .i64 c] 2)).alloc (.cells #[.int .i64 a1, .int .i64 a2] 26)).alloc (.cells #[.int .i64 b1, .int .i64 b2] 26)).alloc (.cells #[.int .i64 c1, .int .i64 c2] 26)).alloc (.cells #[.int .i64 0, .int .i64 0] 26)).alloc (.cells #[.int .i64 p] 2)).cell? ⟨w.heap.size + 1 + 1 + 1, 1, none⟩ = some (.int .i64 b2) := by (repeat (first | with_reducible assumption | ((with_reducible refine kfresh ?_ ?_) <;> (first | with_reducible rfl | (simp; done))) | ((with_reducible refine ksameS ?_); focus ((repeat (first | with_reducible exact kis_of (by with_reducible assumption) | with_reducible refine kis_set ?_ | ((with_reducible refine kis_new ?_ ?_) <;> (first | with_reducible rfl | rfl | (simp; done))) | with_reducible refine kis_alloc _ ?_ | with_reducible refine kis_drew ?_ | with_reducible refine kis_call (by with_reducible assumption) ?_ | with_reducible exact kis_of (kcall (by with_reducible assumption) (by with_reducible assumption)))); done)) | with_reducible refine kother (by decide) ?_ | with_reducible refine kset (by first | omega | (simp; done) | (simp; omega)) ?_ | with_reducible refine kalloc _ ?_ | with_reducible refine kdrew ?_ | with_reducible refine kcall (by with_reducible assumption) ?_))
  have q6 : (((((((w.alloc (.cells #[.int .i64 p] 2)).alloc (.cells #[.int .i64 c] 2)).alloc (.cells #[.int .i64 a1, .int .i64 a2] 26)).alloc (.cells #[.int .i64 b1, .int .i64 b2] 26)).alloc (.cells #[.int .i64 c1, .int .i64 c2] 26)).alloc (.cells #[.int .i64 0, .int .i64 0] 26)).alloc (.cells #[.int .i64 p] 2)).cell? ⟨w.heap.size + 1 + 1 + 1 + 1, 0, none⟩ = some (.int .i64 c1) := by (repeat (first | with_reducible assumption | ((with_reducible refine kfresh ?_ ?_) <;> (first | with_reducible rfl | (simp; done))) | ((with_reducible refine ksameS ?_); focus ((repeat (first | with_reducible exact kis_of (by with_reducible assumption) | with_reducible refine kis_set ?_ | ((with_reducible refine kis_new ?_ ?_) <;> (first | with_reducible rfl | rfl | (simp; done))) | with_reducible refine kis_alloc _ ?_ | with_reducible refine kis_drew ?_ | with_reducible refine kis_call (by with_reducible assumption) ?_ | with_reducible exact kis_of (kcall (by with_reducible assumption) (by with_reducible assumption)))); done)) | with_reducible refine kother (by decide) ?_ | with_reducible refine kset (by first | omega | (simp; done) | (simp; omega)) ?_ | with_reducible refine kalloc _ ?_ | with_reducible refine kdrew ?_ | with_reducible refine kcall (by with_reducible assumption) ?_))
  have q7 : (((((((w.alloc (.cells #[.int .i64 p] 2)).alloc (.cells #[.int .i64 c] 2)).alloc (.cells #[.int .i64 a1, .int .i64 a2] 26)).alloc (.cells #[.int .i64 b1, .int .i64 b2] 26)).alloc (.cells #[.int .i64 c1, .int .i64 c2] 26)).alloc (.cells #[.int .i64 0, .int .i64 0] 26)).alloc (.cells #[.int .i64 p] 2)).cell? ⟨w.heap.size + 1 + 1 + 1 + 1, 1, none⟩ = some (.int .i64 c2) := by (repeat (first | with_reducible assumption | ((with_reducible refine kfresh ?_ ?_) <;> (first | with_reducible rfl | (simp; done))) | ((with_reducible refine ksameS ?_); focus ((repeat (first | with_reducible exact kis_of (by with_reducible assumption) | with_reducible refine kis_set ?_ | ((with_reducible refine kis_new ?_ ?_) <;> (first | with_reducible rfl | rfl | (simp; done))) | with_reducible refine kis_alloc _ ?_ | with_reducible refine kis_drew ?_ | with_reducible refine kis_call (by with_reducible assumption) ?_ | with_reducible exact kis_of (kcall (by with_reducible assumption) (by with_reducible assumption)))); done)) | with_reducible refine kother (by decide) ?_ | with_reducible refine kset (by first | omega | (simp; done) | (simp; omega)) ?_ | with_reducible refine kalloc _ ?_ | with_reducible refine kdrew ?_ | with_reducible refine kcall (by with_reducible assumption) ?_))
  have q8 : (((((((w.alloc (.cells #[.int .i64 p] 2)).alloc (.cells #[.int .i64 c] 2)).alloc (.cells #[.int .i64 a1, .int .i64 a2] 26)).alloc (.cells #[.int .i64 b1, .int .i64 b2] 26)).alloc (.cells #[.int .i64 c1, .int .i64 c2] 26)).alloc (.cells #[.int .i64 0, .int .i64 0] 26)).alloc (.cells #[.int .i64 p] 2)).cell? ⟨w.heap.size + 1 + 1 + 1 + 1 + 1, 0, none⟩ = some (.int .i64 0) := by (repeat (first | with_reducible assumption | ((with_reducible refine kfresh ?_ ?_) <;> (first | with_reducible rfl | (simp; done))) | ((with_reducible refine ksameS ?_); focus ((repeat (first | with_reducible exact kis_of (by with_reducible assumption) | with_reducible refine kis_set ?_ | ((with_reducible refine kis_new ?_ ?_) <;> (first | with_reducible rfl | rfl | (simp; done))) | with_reducible refine kis_alloc _ ?_ | with_reducible refine kis_drew ?_ | with_reducible refine kis_call (by with_reducible assumption) ?_ | with_reducible exact kis_of (kcall (by with_reducible assumption) (by with_reducible assumption)))); done)) | with_reducible refine kother (by decide) ?_ | with_reducible refine kset (by first | omega | (simp; done) | (simp; omega)) ?_ | with_reducible refine kalloc _ ?_ | with_reducible refine kdrew ?_ | with_reducible refine kcall (by with_reducible assumption) ?_))
  have q9 : (((((((w.alloc (.cells #[.int .i64 p] 2)).alloc (.cells #[.int .i64 c] 2)).alloc (.cells #[.int .i64 a1, .int .i64 a2] 26)).alloc (.cells #[.int .i64 b1, .int .i64 b2] 26)).alloc (.cells #[.int .i64 c1, .int .i64 c2] 26)).alloc (.cells #[.int .i64 0, .int .i64 0] 26)).alloc (.cells #[.int .i64 p] 2)).cell? ⟨w.heap.size + 1 + 1 + 1 + 1 + 1, 1, none⟩ = some (.int .i64 0) := by (repeat (first | with_reducible assumption | ((with_reducible refine kfresh ?_ ?_) <;> (first | with_reducible rfl | (simp; done))) | ((with_reducible refine ksameS ?_); focus ((repeat (first | with_reducible exact kis_of (by with_reducible assumption) | with_reducible refine kis_set ?_ | ((with_reducible refine kis_new ?_ ?_) <;> (first | with_reducible rfl | rfl | (simp; done))) | with_reducible refine kis_alloc _ ?_ | with_reducible refine kis_drew ?_ | with_reducible refine kis_call (by with_reducible assumption) ?_ | with_reducible exact kis_of (kcall (by with_reducible assumption) (by with_reducible assumption)))); done)) | with_reducible refine kother (by decide) ?_ | with_reducible refine kset (by first | omega | (simp; done) | (simp; omega)) ?_ | with_reducible refine kalloc _ ?_ | with_reducible refine kdrew ?_ | with_reducible refine kcall (by with_reducible assumption) ?_))
  have q10 : (((((((w.alloc (.cells #[.int .i64 p] 2)).alloc (.cells #[.int .i64 c] 2)).alloc (.cells #[.int .i64 a1, .int .i64 a2] 26)).alloc (.cells #[.int .i64 b1, .int .i64 b2] 26)).alloc (.cells #[.int .i64 c1, .int .i64 c2] 26)).alloc (.cells #[.int .i64 0, .int .i64 0] 26)).alloc (.cells #[.int .i64 p] 2)).cell? ⟨w.heap.size + 1 + 1 + 1 + 1 + 1 + 1, 0, none⟩ = some (.int .i64 p) := by (repeat (first | with_reducible assumption | ((with_reducible refine kfresh ?_ ?_) <;> (first | with_reducible rfl | (simp; done))) | ((with_reducible refine ksameS ?_); focus ((repeat (first | with_reducible exact kis_of (by with_reducible assumption) | with_reducible refine kis_set ?_ | ((with_reducible refine kis_new ?_ ?_) <;> (first | with_reducible rfl | rfl | (simp; done))) | with_reducible refine kis_alloc _ ?_ | with_reducible refine kis_drew ?_ | with_reducible refine kis_call (by with_reducible assumption) ?_ | with_reducible exact kis_of (kcall (by with_reducible assumption) (by with_reducible assumption)))); done)) | with_reducible refine kother (by decide) ?_ | with_reducible refine kset (by first | omega | (simp; done) | (simp; omega)) ?_ | with_reducible refine kalloc _ ?_ | with_reducible refine kdrew ?_ | with_reducible refine kcall (by with_reducible assumption) ?_))
  have fr0 : (((((((w.alloc (.cells #[.int .i64 p] 2)).alloc (.cells #[.int .i64 c] 2)).alloc (.cells #[.int .i64 a1, .int .i64 a2] 26)).alloc (.cells #[.int .i64 b1, .int .i64 b2] 26)).alloc (.cells #[.int .i64 c1, .int .i64 c2] 26)).alloc (.cells #[.int .i64 0, .int .i64 0] 26)).alloc (.cells #[.int .i64 p] 2)).frozen? ⟨w.heap.size + 1 + 1 + 1 + 1 + 1, 0, none⟩ = false := by (repeat (first | with_reducible assumption | with_reducible refine fdrew ?_ | with_reducible refine fset ?_ | ((with_reducible refine fallocNew ?_) <;> (first | with_reducible rfl | (simp; done))) | ((with_reducible refine kfro (by with_reducible assumption) ?_ ?_); focus (first | with_reducible assumption | (simp; done) | (simp; omega))) | ((with_reducible refine falloc ?_ ?_); focus (first | with_reducible assumption | (simp; done) | (simp; omega)))))
  have fr1 : (((((((w.alloc (.cells #[.int .i64 p] 2)).alloc (.cells #[.int .i64 c] 2)).alloc (.cells #[.int .i64 a1, .int .i64 a2] 26)).alloc (.cells #[.int .i64 b1, .int .i64 b2] 26)).alloc (.cells #[.int .i64 c1, .int .i64 c2] 26)).alloc (.cells #[.int .i64 0, .int .i64 0] 26)).alloc (.cells #[.int .i64 p] 2)).frozen? ⟨w.heap.size + 1 + 1 + 1 + 1 + 1, 1, none⟩ = false := by (repeat (first | with_reducible assumption | with_reducible refine fdrew ?_ | with_reducible refine fset ?_ | ((with_reducible refine fallocNew ?_) <;> (first | with_reducible rfl | (simp; done))) | ((with_reducible refine kfro (by with_reducible assumption) ?_ ?_); focus (first | with_reducible assumption | (simp; done) | (simp; omega))) | ((with_reducible refine falloc ?_ ?_); focus (first | with_reducible assumption | (simp; done) | (simp; omega)))))
  have hB0 : Below w.heap.size w (((((((w.alloc (.cells #[.int .i64 p] 2)).alloc (.cells #[.int .i64 c] 2)).alloc (.cells #[.int .i64 a1, .int .i64 a2] 26)).alloc (.cells #[.int .i64 b1, .int .i64 b2] 26)).alloc (.cells #[.int .i64 c1, .int .i64 c2] 26)).alloc (.cells #[.int .i64 0, .int .i64 0] 26)).alloc (.cells #[.int .i64 p] 2)) := by (repeat (first | with_reducible exact Below.refl _ _ | with_reducible refine balloc ?_ _ | with_reducible refine bdrewN ?_ _ | with_reducible refine Below.drew ?_ | with_reducible refine bthen ?_ (by with_reducible assumption) | with_reducible refine Below.setCell ?_ (by first | (simp; done) | (simp; omega)) _))
  have hsz : (((((((w.alloc (.cells #[.int .i64 p] 2)).alloc (.cells #[.int .i64 c] 2)).alloc (.cells #[.int .i64 a1, .int .i64 a2] 26)).alloc (.cells #[.int .i64 b1, .int .i64 b2] 26)).alloc (.cells #[.int .i64 c1, .int .i64 c2] 26)).alloc (.cells #[.int .i64 0, .int .i64 0] 26)).alloc (.cells #[.int .i64 p] 2)).heap.size = w.heap.size + 1 + 1 + 1 + 1 + 1 + 1 + 1 := by simp
  obtain ⟨W0, hW0⟩ : ∃ W0, W0 = ((((((w.alloc (.cells #[.int .i64 p] 2)).alloc (.cells #[.int .i64 c] 2)).alloc (.cells #[.int .i64 a1, .int .i64 a2] 26)).alloc (.cells #[.int .i64 b1, .int .i64 b2] 26)).alloc (.cells #[.int .i64 c1, .int .i64 c2] 26)).alloc (.cells #[.int .i64 0, .int .i64 0] 26)).alloc (.cells #[.int .i64 p] 2) := ⟨_, rfl⟩
  rw [← hW0] at q0 q1 q2 q3 q4 q5 q6 q7 q8 q9 q10 fr0 fr1 hB0 hsz ⊢
  clear hW0
  refine wpIn_rangeFunc_ownH rfl (by decide) (gf := 129) (lb := #[.pointer (some ⟨w.heap.size + 1 + 1 + 1 + 1 + 1 + 1, 0, none⟩)]) rfl trivial (enters_of Try.func129 (by kernel_rfl) rfl)
    (seqAll_stops 8 (w.heap.size + 1 + 1 + 1 + 1 + 1 + 1) 0 (w.heap.size + 1 + 1 + 1 + 1 + 1 + 1 + 1) p (by decide) hp W0 q10 ⟨Nat.zero_le _, Nat.lt_succ_self _⟩ (by omega)) btw_trans (btw_putObj (by omega)) (Below.refl _ _) (fun _ => rfl)
    (fun pre W => (∀ x ∈ pre, ccB p c a1 a2 b1 b2 c1 c2 (toP x) = false) ∧ Btw 0 (w.heap.size + 1 + 1 + 1 + 1 + 1 + 1 + 1) W0 W ∧ Below w.heap.size w W)
    (fun cd pre W => cd = .ret ∧ (∃ x ∈ pre, ccB p c a1 a2 b1 b2 c1 c2 (toP x) = true ∧ W.cell? ⟨w.heap.size + 1 + 1 + 1 + 1 + 1, 0, none⟩ = some (.int .i64 (x.1.val : Int)) ∧ W.cell? ⟨w.heap.size + 1 + 1 + 1 + 1 + 1, 1, none⟩ = some (.int .i64 (x.2.val : Int))) ∧ Below w.heap.size w W)
    (OwnFrom.and (ownFrom_pure _ _) (OwnFrom.and (btw_own (by omega)) (ownFrom_below (Nat.le_refl _) (by omega))))
    (fun cd s X Y row hs hg hr => by
      obtain ⟨h1, ⟨x, hx, hgd, hc1, hc2⟩, hB⟩ := hs
      have hl := World.block_lt_of_cell? X _ hc1
      have hk : Y.heap[w.heap.size + 1 + 1 + 1 + 1 + 1]? = X.heap[w.heap.size + 1 + 1 + 1 + 1 + 1]? := hg.block _ hl (fun e => by have := (hr _ e.symm).1; omega)
      exact ⟨h1, ⟨x, hx, hgd, (World.cell?_of_block (a := ⟨w.heap.size + 1 + 1 + 1 + 1 + 1, 0, none⟩) hk).trans hc1, (World.cell?_of_block (a := ⟨w.heap.size + 1 + 1 + 1 + 1 + 1, 1, none⟩) hk).trans hc2⟩, ownFrom_below (β := List Pt32) (Nat.le_refl _) (by omega) s X Y row hB hg hr⟩)
    ⟨fun x hx => absurd hx (by simp), btw_refl _ _ _, hB0⟩
    (fun x a' W => ∃ Bx, W0.heap.size ≤ Bx ∧ Box2 W Bx 26 (toP x) ∧ a' = { tmps := #[.int .i64 p, .int .i64 c, .agg #[.int .i64 a1, .int .i64 a2], .agg #[.int .i64 b1, .int .i64 b2], .agg #[.int .i64 c1, .int .i64 c2], .pointer (some ⟨w.heap.size, 0, none⟩), .pointer (some ⟨w.heap.size + 1, 0, none⟩), .pointer (some ⟨w.heap.size + 1 + 1, 0, none⟩), .pointer (some ⟨w.heap.size + 1 + 1 + 1, 0, none⟩), .pointer (some ⟨w.heap.size + 1 + 1 + 1 + 1, 0, none⟩), .pointer (some ⟨w.heap.size + 1 + 1 + 1 + 1 + 1, 0, none⟩), .pointer (some ⟨Bx, 0, none⟩), undef, undef, undef, .int .i64 p, .func (.func 129) #[] #[.pointer (some ⟨w.heap.size + 1 + 1 + 1 + 1 + 1 + 1, 0, none⟩)], .agg #[.int .i64 (x.1.val : Int), .int .i64 (x.2.val : Int)], undef, undef, undef, undef, undef, undef, undef, undef, undef, undef, undef, undef, undef, undef, undef, undef, undef, undef, undef, undef, undef], defers := [] })
    (fun x a' _ X Y row hs hg hr => by obtain ⟨Bx, h1, h2, h3⟩ := hs; exact ⟨Bx, h1, box2_own Bx W0.heap.size 26 (toP x) () X Y row h2 hg hr, h3⟩)
    ?assign ?body ?done ?stop
  case assign =>
    rintro l pre x W K ⟨hg, hb1, hB⟩ hK
    simp only [ptV, toP]
    gi_wp2
    have hs0 := hb1.1
    exact hK _ _ ((KeepsOthers.alloc _ _).from _) (btw_alloc _ _ (by omega)) ⟨hg, btw_trans hb1 (btw_alloc _ _ (by omega)), hB.alloc hB.size _⟩ ⟨W.heap.size, hs0, box2_new W _ (toP x), rfl⟩
  case body =>
    rintro l pre x a' W hl ⟨r, hr⟩ ⟨hg, hb1, hB⟩ ⟨Bx, hBx, hX, rfl⟩ hlt
    have hX1 := box2_cell1 hX
    have hX2 := box2_cell2 hX
    have hXl := World.block_lt_of_cell? W ⟨Bx, 0, none⟩ hX1
    have hs0 := hb1.1
    have k0 := (btw_cell hb1 (Nat.zero_le _) (by omega) 0).trans q0
    have k1 := (btw_cell hb1 (Nat.zero_le _) (by omega) 0).trans q1
    have k2 := (btw_cell hb1 (Nat.zero_le _) (by omega) 0).trans q2
    have k3 := (btw_cell hb1 (Nat.zero_le _) (by omega) 1).trans q3
    have k4 := (btw_cell hb1 (Nat.zero_le _) (by omega) 0).trans q4
    have k5 := (btw_cell hb1 (Nat.zero_le _) (by omega) 1).trans q5
    have k6 := (btw_cell hb1 (Nat.zero_le _) (by omega) 0).trans q6
    have k7 := (btw_cell hb1 (Nat.zero_le _) (by omega) 1).trans q7
    have k8 := (btw_cell hb1 (Nat.zero_le _) (by omega) 0).trans q8
    have k9 := (btw_cell hb1 (Nat.zero_le _) (by omega) 1).trans q9
    have kf0 : W.frozen? ⟨w.heap.size + 1 + 1 + 1 + 1 + 1, 0, none⟩ = false := (World.frozen?_of_block (a := ⟨w.heap.size + 1 + 1 + 1 + 1 + 1, 0, none⟩) (hb1.2 (w.heap.size + 1 + 1 + 1 + 1 + 1) (Nat.zero_le _) (by omega))).trans fr0
    have kf1 : W.frozen? ⟨w.heap.size + 1 + 1 + 1 + 1 + 1, 1, none⟩ = false := (World.frozen?_of_block (a := ⟨w.heap.size + 1 + 1 + 1 + 1 + 1, 1, none⟩) (hb1.2 (w.heap.size + 1 + 1 + 1 + 1 + 1) (Nat.zero_le _) (by omega))).trans fr1
    have hS0 : w.heap.size < W.heap.size := by omega
    have hS1 : w.heap.size + 1 < W.heap.size := by omega
    have hS2 : w.heap.size + 1 + 1 < W.heap.size := by omega
    have hS3 : w.heap.size + 1 + 1 + 1 < W.heap.size := by omega
    have hS4 : w.heap.size + 1 + 1 + 1 + 1 < W.heap.size := by omega
    have hS5 : w.heap.size + 1 + 1 + 1 + 1 + 1 < W.heap.size := by omega
    obtain ⟨⟨x1, hx1⟩, ⟨x2, hx2⟩⟩ := x
    simp only [toP] at hX1 hX2
    have hmx : Try.prog.follows .mixedOrders = true := by kernel_rfl
    have hd1 : 1 ≤ 9 - 1 - 1 := by decide
    have hix0 : ∀ w', (Instr.index 132 (.agg #[.int .i64 b1, .int .i64 b2, .int .i64 c1, .int .i64 c2]) (.int .i64 0)).run Try.prog w' = .ok (.agg #[.int .i64 b1, .int .i64 b2]) w' := fun w' => index_pair0 _ _ _ _ w'
    have hix1 : ∀ w', (Instr.index 132 (.agg #[.int .i64 b1, .int .i64 b2, .int .i64 c1, .int .i64 c2]) (.int .i64 1)).run Try.prog w' = .ok (.agg #[.int .i64 c1, .int .i64 c2]) w' := fun w' => index_pair1 _ _ _ _ w'
    have hcr31 : (0 ≤ (x1 : Int) ∧ (x1 : Int) ≤ 31) ∧ (0 ≤ (x2 : Int) ∧ (x2 : Int) ≤ 31) := by omega
    have hq0a := fun w' => implQuad_any p c (x1 : Int) (x2 : Int) a1 a2 w' hp hc hcr31.1 hcr31.2 (by omega) (by omega)
    obtain ⟨v0, hv0⟩ : ∃ v, v = qdr p c (x1 : Int) (x2 : Int) a1 a2 := ⟨_, rfl⟩
    rw [← hv0] at hq0a
    have HV0 := Lib.hid hv0
    clear hv0
    have HQ0 := Lib.hid hq0a
    clear hq0a
    have hq1a := fun w' => implQuad_any p c (x1 : Int) (x2 : Int) b1 b2 w' hp hc hcr31.1 hcr31.2 (by omega) (by omega)
    obtain ⟨v1, hv1⟩ : ∃ v, v = qdr p c (x1 : Int) (x2 : Int) b1 b2 := ⟨_, rfl⟩
    rw [← hv1] at hq1a
    have HV1 := Lib.hid hv1
    clear hv1
    have HQ1 := Lib.hid hq1a
    clear hq1a
    have hq2a := fun w' => implQuad_any p c (x1 : Int) (x2 : Int) c1 c2 w' hp hc hcr31.1 hcr31.2 (by omega) (by omega)
    obtain ⟨v2, hv2⟩ : ∃ v, v = qdr p c (x1 : Int) (x2 : Int) c1 c2 := ⟨_, rfl⟩
    rw [← hv2] at hq2a
    have HV2 := Lib.hid hv2
    clear hv2
    have HQ2 := Lib.hid hq2a
    clear hq2a
    have HG : ∀ {b : Bool}, ccB p c a1 a2 b1 b2 c1 c2 (toP ((⟨x1, hx1⟩, ⟨x2, hx2⟩) : Pt32)) = b → (∀ y ∈ pre ++ [((⟨x1, hx1⟩, ⟨x2, hx2⟩) : Pt32)], b = false → ccB p c a1 a2 b1 b2 c1 c2 (toP y) = false) := by
      intro b hb y hy hbf
      rcases List.mem_append.1 hy with h | h
      · exact hg y h
      · rw [List.mem_singleton.1 h, hb, hbf]
    gi_wp2_with fail
    refine ⟨trivial, (CallsIn.inRound l (callsIn_wide.2 (HQ0.out _))).mono ?_⟩
    rintro e w1 ⟨rfl, hB1⟩
    have m1_0 := (cell_back hB1 (by first | exact hS0 | exact hS0_0 | (simp; omega)) 0).trans (k0)
    have m1_1 := (cell_back hB1 (by first | exact hS1 | exact hS0_1 | (simp; omega)) 0).trans (k1)
    have m1_2 := (cell_back hB1 (by first | exact hS2 | exact hS0_2 | (simp; omega)) 0).trans (k2)
    have m1_3 := (cell_back hB1 (by first | exact hS2 | exact hS0_2 | (simp; omega)) 1).trans (k3)
    have m1_4 := (cell_back hB1 (by first | exact hS3 | exact hS0_3 | (simp; omega)) 0).trans (k4)
    have m1_5 := (cell_back hB1 (by first | exact hS3 | exact hS0_3 | (simp; omega)) 1).trans (k5)
    have m1_6 := (cell_back hB1 (by first | exact hS4 | exact hS0_4 | (simp; omega)) 0).trans (k6)
    have m1_7 := (cell_back hB1 (by first | exact hS4 | exact hS0_4 | (simp; omega)) 1).trans (k7)
    have m1_8 := (cell_back hB1 (by first | exact hS5 | exact hS0_5 | (simp; omega)) 0).trans (k8)
    have m1_9 := (cell_back hB1 (by first | exact hS5 | exact hS0_5 | (simp; omega)) 1).trans (k9)
    have x1_0 := (cell_back hB1 (by first | exact hXl | exact hXl0 | (simp; omega)) 0).trans (hX1)
    have x1_1 := (cell_back hB1 (by first | exact hXl | exact hXl0 | (simp; omega)) 1).trans (hX2)
    have f1_0 : w1.frozen? ⟨w.heap.size + 1 + 1 + 1 + 1 + 1, 0, none⟩ = false := ((bcellB hB1).2 (w.heap.size + 1 + 1 + 1 + 1 + 1) 0 (by first | exact hS5 | (simp; omega))).trans (kf0)
    have f1_1 : w1.frozen? ⟨w.heap.size + 1 + 1 + 1 + 1 + 1, 1, none⟩ = false := ((bcellB hB1).2 (w.heap.size + 1 + 1 + 1 + 1 + 1) 1 (by first | exact hS5 | (simp; omega))).trans (kf1)
    have hs1 := hB1.size
    have hS1_0 : w.heap.size < w1.heap.size := by omega
    have hS1_1 : w.heap.size + 1 < w1.heap.size := by omega
    have hS1_2 : w.heap.size + 1 + 1 < w1.heap.size := by omega
    have hS1_3 : w.heap.size + 1 + 1 + 1 < w1.heap.size := by omega
    have hS1_4 : w.heap.size + 1 + 1 + 1 + 1 < w1.heap.size := by omega
    have hS1_5 : w.heap.size + 1 + 1 + 1 + 1 + 1 < w1.heap.size := by omega
    have hXl1 : Bx < w1.heap.size := by omega
    have hW1 : Below W.heap.size W w1 := hB1
    gi_wp2_with fail
    refine wpIn_loop_rounds 3 ?_
    rw [roundsIn_succ]
    gi_wp2_with fail
    refine ⟨trivial, (CallsIn.inRound l (callsIn_wide.2 (HQ1.out _))).mono ?_⟩
    rintro e w2 ⟨rfl, hB2⟩
    have m2_0 := (cell_back hB2 (by first | exact hS0 | exact hS1_0 | (simp; omega)) 0).trans (kalloc _ m1_0)
    have m2_1 := (cell_back hB2 (by first | exact hS1 | exact hS1_1 | (simp; omega)) 0).trans (kalloc _ m1_1)
    have m2_2 := (cell_back hB2 (by first | exact hS2 | exact hS1_2 | (simp; omega)) 0).trans (kalloc _ m1_2)
    have m2_3 := (cell_back hB2 (by first | exact hS2 | exact hS1_2 | (simp; omega)) 1).trans (kalloc _ m1_3)
    have m2_4 := (cell_back hB2 (by first | exact hS3 | exact hS1_3 | (simp; omega)) 0).trans (kalloc _ m1_4)
    have m2_5 := (cell_back hB2 (by first | exact hS3 | exact hS1_3 | (simp; omega)) 1).trans (kalloc _ m1_5)
    have m2_6 := (cell_back hB2 (by first | exact hS4 | exact hS1_4 | (simp; omega)) 0).trans (kalloc _ m1_6)
    have m2_7 := (cell_back hB2 (by first | exact hS4 | exact hS1_4 | (simp; omega)) 1).trans (kalloc _ m1_7)
    have m2_8 := (cell_back hB2 (by first | exact hS5 | exact hS1_5 | (simp; omega)) 0).trans (kalloc _ m1_8)
    have m2_9 := (cell_back hB2 (by first | exact hS5 | exact hS1_5 | (simp; omega)) 1).trans (kalloc _ m1_9)
    have x2_0 := (cell_back hB2 (by first | exact hXl | exact hXl1 | (simp; omega)) 0).trans (kalloc _ x1_0)
    have x2_1 := (cell_back hB2 (by first | exact hXl | exact hXl1 | (simp; omega)) 1).trans (kalloc _ x1_1)
    have f2_0 : w2.frozen? ⟨w.heap.size + 1 + 1 + 1 + 1 + 1, 0, none⟩ = false := ((bcellB hB2).2 (w.heap.size + 1 + 1 + 1 + 1 + 1) 0 (by first | exact hS5 | (simp; omega))).trans (falloc (by omega) f1_0)
    have f2_1 : w2.frozen? ⟨w.heap.size + 1 + 1 + 1 + 1 + 1, 1, none⟩ = false := ((bcellB hB2).2 (w.heap.size + 1 + 1 + 1 + 1 + 1) 1 (by first | exact hS5 | (simp; omega))).trans (falloc (by omega) f1_1)
    have hs2 := hB2.size
    (try simp at hs2)
    have hS2_0 : w.heap.size < w2.heap.size := by omega
    have hS2_1 : w.heap.size + 1 < w2.heap.size := by omega
    have hS2_2 : w.heap.size + 1 + 1 < w2.heap.size := by omega
    have hS2_3 : w.heap.size + 1 + 1 + 1 < w2.heap.size := by omega
    have hS2_4 : w.heap.size + 1 + 1 + 1 + 1 < w2.heap.size := by omega
    have hS2_5 : w.heap.size + 1 + 1 + 1 + 1 + 1 < w2.heap.size := by omega
    have hXl2 : Bx < w2.heap.size := by omega
    have hW2 : Below W.heap.size W w2 := bthen (balloc hW1 _) hB2
    rcases bool_ways (v1 == v0) with t1 | t1
    · have t1n : (v1 != v0) = true := by rw [bne, t1]; rfl
      have HN := Lib.hid (show ccB p c a1 a2 b1 b2 c1 c2 (toP ((⟨x1, hx1⟩, ⟨x2, hx2⟩) : Pt32)) = false from by rw [ccB, toP, ← HV0.out, ← HV1.out, ← HV2.out, t1, Bool.false_and])
      gi_wp2
      exact ⟨(KeepsOthers.of_grownBy (row := none) (below_grown hW2) (fun j o e => by cases e)).from _, btw_below hW2 (by omega), fun y hy => HG HN.out y hy rfl, btw_trans hb1 (btw_below hW2 (by omega)), bthen hB hW2⟩
    · have t1n : (v1 != v0) = false := by rw [bne, t1]; rfl
      gi_wp2_with fail
      rw [roundsIn_succ]
      gi_wp2_with fail
      refine ⟨trivial, (CallsIn.inRound l (callsIn_wide.2 (HQ2.out _))).mono ?_⟩
      rintro e w3 ⟨rfl, hB3⟩
      have m3_0 := (cell_back hB3 (by first | exact hS0 | exact hS2_0 | (simp; omega)) 0).trans (kalloc _ m2_0)
      have m3_1 := (cell_back hB3 (by first | exact hS1 | exact hS2_1 | (simp; omega)) 0).trans (kalloc _ m2_1)
      have m3_2 := (cell_back hB3 (by first | exact hS2 | exact hS2_2 | (simp; omega)) 0).trans (kalloc _ m2_2)
      have m3_3 := (cell_back hB3 (by first | exact hS2 | exact hS2_2 | (simp; omega)) 1).trans (kalloc _ m2_3)
      have m3_4 := (cell_back hB3 (by first | exact hS3 | exact hS2_3 | (simp; omega)) 0).trans (kalloc _ m2_4)
      have m3_5 := (cell_back hB3 (by first | exact hS3 | exact hS2_3 | (simp; omega)) 1).trans (kalloc _ m2_5)
      have m3_6 := (cell_back hB3 (by first | exact hS4 | exact hS2_4 | (simp; omega)) 0).trans (kalloc _ m2_6)
      have m3_7 := (cell_back hB3 (by first | exact hS4 | exact hS2_4 | (simp; omega)) 1).trans (kalloc _ m2_7)
      have m3_8 := (cell_back hB3 (by first | exact hS5 | exact hS2_5 | (simp; omega)) 0).trans (kalloc _ m2_8)
      have m3_9 := (cell_back hB3 (by first | exact hS5 | exact hS2_5 | (simp; omega)) 1).trans (kalloc _ m2_9)
      have x3_0 := (cell_back hB3 (by first | exact hXl | exact hXl2 | (simp; omega)) 0).trans (kalloc _ x2_0)
      have x3_1 := (cell_back hB3 (by first | exact hXl | exact hXl2 | (simp; omega)) 1).trans (kalloc _ x2_1)
      have f3_0 : w3.frozen? ⟨w.heap.size + 1 + 1 + 1 + 1 + 1, 0, none⟩ = false := ((bcellB hB3).2 (w.heap.size + 1 + 1 + 1 + 1 + 1) 0 (by first | exact hS5 | (simp; omega))).trans (falloc (by omega) f2_0)
      have f3_1 : w3.frozen? ⟨w.heap.size + 1 + 1 + 1 + 1 + 1, 1, none⟩ = false := ((bcellB hB3).2 (w.heap.size + 1 + 1 + 1 + 1 + 1) 1 (by first | exact hS5 | (simp; omega))).trans (falloc (by omega) f2_1)
      have hs3 := hB3.size
      (try simp at hs3)
      have hS3_0 : w.heap.size < w3.heap.size := by omega
      have hS3_1 : w.heap.size + 1 < w3.heap.size := by omega
      have hS3_2 : w.heap.size + 1 + 1 < w3.heap.size := by omega
      have hS3_3 : w.heap.size + 1 + 1 + 1 < w3.heap.size := by omega
      have hS3_4 : w.heap.size + 1 + 1 + 1 + 1 < w3.heap.size := by omega
      have hS3_5 : w.heap.size + 1 + 1 + 1 + 1 + 1 < w3.heap.size := by omega
      have hXl3 : Bx < w3.heap.size := by omega
      have hW3 : Below W.heap.size W w3 := bthen (balloc hW2 _) hB3
      rcases bool_ways (v2 == v0) with t2 | t2
      · have t2n : (v2 != v0) = true := by rw [bne, t2]; rfl
        have HN := Lib.hid (show ccB p c a1 a2 b1 b2 c1 c2 (toP ((⟨x1, hx1⟩, ⟨x2, hx2⟩) : Pt32)) = false from by rw [ccB, toP, ← HV0.out, ← HV1.out, ← HV2.out, t1, t2, Bool.true_and])
        gi_wp2
        exact ⟨(KeepsOthers.of_grownBy (row := none) (below_grown hW3) (fun j o e => by cases e)).from _, btw_below hW3 (by omega), fun y hy => HG HN.out y hy rfl, btw_trans hb1 (btw_below hW3 (by omega)), bthen hB hW3⟩
      · have t2n : (v2 != v0) = false := by rw [bne, t2]; rfl
        have HN := Lib.hid (show ccB p c a1 a2 b1 b2 c1 c2 (toP ((⟨x1, hx1⟩, ⟨x2, hx2⟩) : Pt32)) = true from by rw [ccB, toP, ← HV0.out, ← HV1.out, ← HV2.out, t1, t2, Bool.true_and])
        gi_wp2_with fail
        rw [roundsIn_succ]
        gi_wp2
        refine ⟨((KeepsOthers.of_grownBy (row := none) (below_grown hW3) (fun j o e => by cases e)).trans ((KeepsOthers.setCell _ _ _).trans (KeepsOthers.setCell _ _ _))).from _, rfl, ⟨((⟨x1, hx1⟩, ⟨x2, hx2⟩) : Pt32), by simp, HN.out, ?_, ?_⟩, ?_⟩
        · (repeat (first | with_reducible assumption | ((with_reducible refine kfresh ?_ ?_) <;> (first | with_reducible rfl | (simp; done))) | ((with_reducible refine ksameS ?_); focus ((repeat (first | with_reducible exact kis_of (by with_reducible assumption) | with_reducible refine kis_set ?_ | ((with_reducible refine kis_new ?_ ?_) <;> (first | with_reducible rfl | rfl | (simp; done))) | with_reducible refine kis_alloc _ ?_ | with_reducible refine kis_drew ?_ | with_reducible refine kis_call (by with_reducible assumption) ?_ | with_reducible exact kis_of (kcall (by with_reducible assumption) (by with_reducible assumption)))); done)) | with_reducible refine kother (by decide) ?_ | with_reducible refine kset (by first | omega | (simp; done) | (simp; omega)) ?_ | with_reducible refine kalloc _ ?_ | with_reducible refine kdrew ?_ | with_reducible refine kcall (by with_reducible assumption) ?_))
        · (repeat (first | with_reducible assumption | ((with_reducible refine kfresh ?_ ?_) <;> (first | with_reducible rfl | (simp; done))) | ((with_reducible refine ksameS ?_); focus ((repeat (first | with_reducible exact kis_of (by with_reducible assumption) | with_reducible refine kis_set ?_ | ((with_reducible refine kis_new ?_ ?_) <;> (first | with_reducible rfl | rfl | (simp; done))) | with_reducible refine kis_alloc _ ?_ | with_reducible refine kis_drew ?_ | with_reducible refine kis_call (by with_reducible assumption) ?_ | with_reducible exact kis_of (kcall (by with_reducible assumption) (by with_reducible assumption)))); done)) | with_reducible refine kother (by decide) ?_ | with_reducible refine kset (by first | omega | (simp; done) | (simp; omega)) ?_ | with_reducible refine kalloc _ ?_ | with_reducible refine kdrew ?_ | with_reducible refine kcall (by with_reducible assumption) ?_))
        · exact ((bthen hB hW3).setCell (by simp; omega) _).setCell (by simp; omega) _
  case done =>
    rintro D ys W hD rfl ⟨hg, hb1, hB⟩ hK
    exfalso
    have h32 : p.toNat ≤ 32 := by omega
    have hX : ((ccX p c a1 a2 b1 b2 c1 c2).toNat : Int) = ccX p c a1 a2 b1 b2 c1 c2 := Int.toNat_of_nonneg rX.1
    have hY : ((ccY p c a1 a2 b1 b2 c1 c2).toNat : Int) = ccY p c a1 a2 b1 b2 c1 c2 := Int.toNat_of_nonneg rY.1
    have h := hg (⟨(ccX p c a1 a2 b1 b2 c1 c2).toNat, by omega⟩, ⟨(ccY p c a1 a2 b1 b2 c1 c2).toNat, by omega⟩) ((allF_mem h32).2 ⟨by show (ccX p c a1 a2 b1 b2 c1 c2).toNat < p.toNat; omega, by show (ccY p c a1 a2 b1 b2 c1 c2).toNat < p.toNat; omega⟩)
    rw [toP, hX, hY] at h
    rw [(ccB_iff hp hc rX rY ha1 ha2 hbb1 hbb2 hc1 hc2 HT.out).2 ⟨rfl, rfl⟩] at h
    cases h
  case stop =>
    rintro D cd pre W hD hpre ⟨rfl, ⟨x, hx, hgd, hc1', hc2'⟩, hB⟩ hK
    have h32 : p.toNat ≤ 32 := by omega
    have hmem := (allF_mem h32).1 (hpre.subset hx)
    obtain ⟨⟨x1, hx1⟩, ⟨x2, hx2⟩⟩ := x
    simp only at hmem hc1' hc2'
    have hxx := (ccB_iff (x1 := (x1 : Int)) (x2 := (x2 : Int)) hp hc (by omega) (by omega) ha1 ha2 hbb1 hbb2 hc1 hc2 HT.out).1 hgd
    rw [hxx.1] at hc1'
    rw [hxx.2] at hc2'
    gi_wp2
    simp only [Exit.noGoto]
    refine ⟨by simp, .inl ⟨_, _, rfl, run_takeDeferred hK, ?_⟩⟩
    have hp5 : (W.putObj D (.deferred none)).heap[w.heap.size + 1 + 1 + 1 + 1 + 1]? = W.heap[w.heap.size + 1 + 1 + 1 + 1 + 1]? := (grownBy_putObj' W D (.deferred none)).block _ (World.block_lt_of_cell? W _ hc1') (fun e => by simp at e; omega)
    have kc1 := (World.cell?_of_block (a := ⟨w.heap.size + 1 + 1 + 1 + 1 + 1, 0, none⟩) hp5).trans hc1'
    have kc2 := (World.cell?_of_block (a := ⟨w.heap.size + 1 + 1 + 1 + 1 + 1, 1, none⟩) hp5).trans hc2'
    exact ⟨.agg #[.int .i64 (ccX p c a1 a2 b1 b2 c1 c2), .int .i64 (ccY p c a1 a2 b1 b2 c1 c2)], by simp [results, Try.results106, go_sem, kc1, kc2], rfl, hB.trans (belowK_b (w := w) (Nat.le_refl _) W D _ _ (by omega) hK rfl rfl)⟩

end Go.Proofs.Ytcebhcamegdmaaa
