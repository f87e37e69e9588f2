/-
  impl.pointApart: a point at a quadrance other than 0.
-/
import Derived.Test.YtibfbdgenamlkaaMgq0
import Derived.Test.YtibfbdgenamlkaaImplProdq
import Derived.TacticsIn
import Derived.RegionIn
import Derived.Shelf.RegionOpen

namespace Go.Proofs.Ytibfbdgenamlkaa
open Go.RowKit Go.Shelf

attribute [local go_sem] Oper.semAt_some

theorem allF_in {m : Nat} (hm : m ≤ 32) {x : Pt32} : x ∈ allF m m 0 ↔ x.1.val < m ∧ x.2.val < m := by
  rw [allF, allL_zero, List.mem_map]
  constructor
  · rintro ⟨z, hz, rfl⟩
    rw [gridL, List.mem_flatMap] at hz
    obtain ⟨a, ha, hz⟩ := hz
    rw [rowL, List.mem_map] at hz
    obtain ⟨b, hb, rfl⟩ := hz
    have h1 := List.mem_range.1 ha
    have h2 := List.mem_range.1 (List.mem_filter.1 hb).1
    simp only [toF, Int.toNat_natCast, Fin.ofNat]
    exact ⟨by rw [Nat.mod_eq_of_lt (by omega)]; exact h1, by rw [Nat.mod_eq_of_lt (by omega)]; exact h2⟩
  · rintro ⟨h1, h2⟩
    refine ⟨((x.1.val : Int), (x.2.val : Int)), ?_, ?_⟩
    · rw [gridL, List.mem_flatMap]
      refine ⟨x.1.val, List.mem_range.2 h1, ?_⟩
      rw [rowL, List.mem_map]
      exact ⟨x.2.val, List.mem_filter.2 ⟨List.mem_range.2 h2, rfl⟩, rfl⟩
    · obtain ⟨⟨a, ha⟩, ⟨b, hb⟩⟩ := x
      simp only [toF, Int.toNat_natCast, Fin.ofNat]
      simp only [Nat.mod_eq_of_lt ha, Nat.mod_eq_of_lt hb]

theorem sq_10 {R : Type} [Lean.Grind.CommRing R] : (1 * 1 + 0 * 0 : R) = 1 := by grind
theorem sq_1m {R : Type} [Lean.Grind.CommRing R] : (1 * 1 - 0 * 0 : R) = 1 := by grind
theorem sq_11 {R : Type} [Lean.Grind.CommRing R] : (1 * 1 + 1 * 1 : R) = 2 := by grind
theorem apart_ex {p c a1 a2 : Int} (hp : isP p = true) (hc : colB c = true) : ∃ x y : Nat, (x : Int) < p ∧ (y : Int) < p ∧ ¬ qdr p c a1 a2 (x : Int) (y : Int) = 0 := by
  have hr := isP_range hp
  obtain ⟨n, rfl⟩ := Int.eq_ofNat_of_zero_le (by omega : 0 ≤ p)
  haveI := neZero_of hp
  have key : ∀ u v : Int, K n (qdr n c a1 a2 ((a1 + u) % n) ((a2 + v) % n)) = (if c = 0 then K n u * K n u + K n v * K n v else if c = 1 then K n u * K n u - K n v * K n v else K n u * K n v + K n v * K n u) := fun u v => by
    rw [qdr_K]; simp only [K_mod, K_add]
    rcases colB_ways hc with rfl | rfl | rfl <;> simp [show ¬ ((1 : Int) = 0) by decide, show ¬ ((2 : Int) = 0) by decide, show ¬ ((2 : Int) = 1) by decide] <;> grind -lia
  have h1 := K_one_ne (n := n) hp
  have h2 : K n 2 ≠ 0 := K_small ⟨by decide, by omega⟩ (by decide)
  have mk : ∀ u v : Int, ¬ K n (qdr n c a1 a2 ((a1 + u) % n) ((a2 + v) % n)) = 0 → ∃ x y : Nat, (x : Int) < (n : Int) ∧ (y : Int) < (n : Int) ∧ ¬ qdr n c a1 a2 (x : Int) (y : Int) = 0 := fun u v h => by
    have r1 := modR (a1 + u) hp
    have r2 := modR (a2 + v) hp
    refine ⟨((a1 + u) % n).toNat, ((a2 + v) % n).toNat, by omega, by omega, ?_⟩
    rw [Int.toNat_of_nonneg r1.1, Int.toNat_of_nonneg r2.1]
    intro e
    rw [e, K_zero] at h
    exact h rfl
  rcases colB_ways hc with rfl | rfl | rfl
  · refine mk 1 0 ?_
    rw [key]; simp only [if_true, K_one, K_zero] at h1 ⊢
    intro e; exact h1 (sq_10.symm.trans e)
  · refine mk 1 0 ?_
    rw [key]; simp only [show ¬ ((1 : Int) = 0) by decide, if_false, if_true, K_one, K_zero] at h1 ⊢
    intro e; exact h1 (sq_1m.symm.trans e)
  · refine mk 1 1 ?_
    rw [key]; simp only [show ¬ ((2 : Int) = 0) by decide, show ¬ ((2 : Int) = 1) by decide, if_false, K_one, K_two] at h2 ⊢
    intro e; exact h2 (sq_11.symm.trans e)

set_option linter.unusedSimpArgs false in
set_option linter.unusedVariables false in
set_option maxRecDepth 100000 in
set_option maxRecDepth 20000 in
set_option maxHeartbeats 4000000 in
theorem implApart_any (p c a1 a2 : Int) (w : World) (hp : isP p = true) (hc : colB c = true) (ha1 : 0 ≤ a1 ∧ a1 ≤ 31) (ha2 : 0 ≤ a2 ∧ a2 ≤ 31) :
    Calls Try.prog 61 #[.int .i64 p, .int .i64 c, .agg #[.int .i64 a1, .int .i64 a2]] w fun e w' => ∃ b1 b2 : Int,
      e = .returned (.agg #[.int .i64 b1, .int .i64 b2]) ∧ (0 ≤ b1 ∧ b1 < p) ∧ (0 ≤ b2 ∧ b2 < p) ∧ (qdr p c a1 a2 b1 b2 == 0) = false ∧ Below w.heap.size w w' := by
  have hr := isP_range hp
  have hcr := colB_range hc
  refine (callsIn_wide (n := 9)).1 ?_
  refine callsIn_of_wp_marks Try.func61 rfl trivial ?_ rfl
  simp only [Try.ntmps61, List.size_toArray, List.length_cons, List.length_nil, Nat.reduceAdd, Nat.reduceSub, Array.replicate_succ, Array.replicate_zero, List.push_toArray, List.append_toArray, List.nil_append, List.cons_append]
  gi_wp2_with fail
  refine ⟨trivial, CallsIn.mono (callsIn_wide.2 (allPoints_any _ _)) ?_⟩
  rintro e w' ⟨rfl, rfl⟩
  gi_wp2_with fail
  have q0 : (((((w.alloc (.cells #[.int .i64 p] 2)).alloc (.cells #[.int .i64 c] 2)).alloc (.cells #[.int .i64 a1, .int .i64 a2] 26)).alloc (.cells #[.int .i64 0, .int .i64 0] 26)).alloc (.cells #[.int .i64 p] 2)).cell? ⟨w.heap.size, 0, none⟩ = some (.int .i64 p) := kalloc _ (kalloc _ (kalloc _ (kalloc _ (kfresh (by first | rfl | (simp; done)) rfl))))
  have q1 : (((((w.alloc (.cells #[.int .i64 p] 2)).alloc (.cells #[.int .i64 c] 2)).alloc (.cells #[.int .i64 a1, .int .i64 a2] 26)).alloc (.cells #[.int .i64 0, .int .i64 0] 26)).alloc (.cells #[.int .i64 p] 2)).cell? ⟨w.heap.size + 1, 0, none⟩ = some (.int .i64 c) := kalloc _ (kalloc _ (kalloc _ (kfresh (by first | rfl | (simp; done)) rfl)))
  have q2 : (((((w.alloc (.cells #[.int .i64 p] 2)).alloc (.cells #[.int .i64 c] 2)).alloc (.cells #[.int .i64 a1, .int .i64 a2] 26)).alloc (.cells #[.int .i64 0, .int .i64 0] 26)).alloc (.cells #[.int .i64 p] 2)).cell? ⟨w.heap.size + 1 + 1, 0, none⟩ = some (.int .i64 a1) := kalloc _ (kalloc _ (kfresh (by first | rfl | (simp; done)) rfl))
  have q3 : (((((w.alloc (.cells #[.int .i64 p] 2)).alloc (.cells #[.int .i64 c] 2)).alloc (.cells #[.int .i64 a1, .int .i64 a2] 26)).alloc (.cells #[.int .i64 0, .int .i64 0] 26)).alloc (.cells #[.int .i64 p] 2)).cell? ⟨w.heap.size + 1 + 1, 1, none⟩ = some (.int .i64 a2) := kalloc _ (kalloc _ (kfresh (by first | rfl | (simp; done)) rfl))
  have q4 : (((((w.alloc (.cells #[.int .i64 p] 2)).alloc (.cells #[.int .i64 c] 2)).alloc (.cells #[.int .i64 a1, .int .i64 a2] 26)).alloc (.cells #[.int .i64 0, .int .i64 0] 26)).alloc (.cells #[.int .i64 p] 2)).cell? ⟨w.heap.size + 1 + 1 + 1, 0, none⟩ = some (.int .i64 0) := kalloc _ (kfresh (by first | rfl | (simp; done)) rfl)
  have q5 : (((((w.alloc (.cells #[.int .i64 p] 2)).alloc (.cells #[.int .i64 c] 2)).alloc (.cells #[.int .i64 a1, .int .i64 a2] 26)).alloc (.cells #[.int .i64 0, .int .i64 0] 26)).alloc (.cells #[.int .i64 p] 2)).cell? ⟨w.heap.size + 1 + 1 + 1, 1, none⟩ = some (.int .i64 0) := kalloc _ (kfresh (by first | rfl | (simp; done)) rfl)
  have q6 : (((((w.alloc (.cells #[.int .i64 p] 2)).alloc (.cells #[.int .i64 c] 2)).alloc (.cells #[.int .i64 a1, .int .i64 a2] 26)).alloc (.cells #[.int .i64 0, .int .i64 0] 26)).alloc (.cells #[.int .i64 p] 2)).cell? ⟨w.heap.size + 1 + 1 + 1 + 1, 0, none⟩ = some (.int .i64 p) := kfresh (by first | rfl | (simp; done)) rfl
  have fr0 : (((((w.alloc (.cells #[.int .i64 p] 2)).alloc (.cells #[.int .i64 c] 2)).alloc (.cells #[.int .i64 a1, .int .i64 a2] 26)).alloc (.cells #[.int .i64 0, .int .i64 0] 26)).alloc (.cells #[.int .i64 p] 2)).frozen? ⟨w.heap.size + 1 + 1 + 1, 0, none⟩ = false := by (repeat (first | with_reducible assumption | with_reducible refine fdrew ?_ | with_reducible refine fdrewN ?_ | with_reducible refine fset ?_ | ((with_reducible refine fallocNew ?_) <;> (first | with_reducible rfl | (simp; done))) | ((with_reducible refine kfro (by with_reducible assumption) ?_ ?_); focus (first | with_reducible assumption | omega | (simp; done) | (simp; omega))) | ((with_reducible refine falloc ?_ ?_); focus (first | with_reducible assumption | omega | (simp; done) | (simp; omega)))))
  have fr1 : (((((w.alloc (.cells #[.int .i64 p] 2)).alloc (.cells #[.int .i64 c] 2)).alloc (.cells #[.int .i64 a1, .int .i64 a2] 26)).alloc (.cells #[.int .i64 0, .int .i64 0] 26)).alloc (.cells #[.int .i64 p] 2)).frozen? ⟨w.heap.size + 1 + 1 + 1, 1, none⟩ = false := by (repeat (first | with_reducible assumption | with_reducible refine fdrew ?_ | with_reducible refine fdrewN ?_ | with_reducible refine fset ?_ | ((with_reducible refine fallocNew ?_) <;> (first | with_reducible rfl | (simp; done))) | ((with_reducible refine kfro (by with_reducible assumption) ?_ ?_); focus (first | with_reducible assumption | omega | (simp; done) | (simp; omega))) | ((with_reducible refine falloc ?_ ?_); focus (first | with_reducible assumption | omega | (simp; done) | (simp; omega)))))
  have hB0 : Below w.heap.size w (((((w.alloc (.cells #[.int .i64 p] 2)).alloc (.cells #[.int .i64 c] 2)).alloc (.cells #[.int .i64 a1, .int .i64 a2] 26)).alloc (.cells #[.int .i64 0, .int .i64 0] 26)).alloc (.cells #[.int .i64 p] 2)) := by (repeat (first | with_reducible exact Below.refl _ _ | with_reducible refine balloc ?_ _ | with_reducible refine bdrewN ?_ _ | with_reducible refine Below.drew ?_ | with_reducible refine bthen ?_ (by with_reducible assumption) | with_reducible refine Below.setCell ?_ (by first | (simp; done) | (simp; omega)) _))
  have hsz : (((((w.alloc (.cells #[.int .i64 p] 2)).alloc (.cells #[.int .i64 c] 2)).alloc (.cells #[.int .i64 a1, .int .i64 a2] 26)).alloc (.cells #[.int .i64 0, .int .i64 0] 26)).alloc (.cells #[.int .i64 p] 2)).heap.size = w.heap.size + 1 + 1 + 1 + 1 + 1 := by simp
  obtain ⟨W0, hW0⟩ : ∃ W0, W0 = (((((w.alloc (.cells #[.int .i64 p] 2)).alloc (.cells #[.int .i64 c] 2)).alloc (.cells #[.int .i64 a1, .int .i64 a2] 26)).alloc (.cells #[.int .i64 0, .int .i64 0] 26)).alloc (.cells #[.int .i64 p] 2)) := ⟨_, rfl⟩
  rw [← hW0] at q0 q1 q2 q3 q4 q5 q6 fr0 fr1 hB0 hsz ⊢
  clear hW0
  refine wpIn_rangeFunc_ownH rfl (by decide) (gf := 95) (lb := #[.pointer (some ⟨w.heap.size + 1 + 1 + 1 + 1, 0, none⟩)]) rfl trivial (enters_of Try.func95 (by kernel_rfl) rfl)
    (seqAll_stops 8 (w.heap.size + 1 + 1 + 1 + 1) 0 (w.heap.size + 1 + 1 + 1 + 1 + 1) p (by decide) hp W0 q6 ⟨Nat.zero_le _, Nat.lt_succ_self _⟩ (by omega)) btw_trans (btw_putObj (by omega)) (Below.refl _ _) (fun _ => rfl)
    (fun pre W => (∀ x ∈ pre, qdr p c a1 a2 (toP x).1 (toP x).2 = 0) ∧ Btw 0 (w.heap.size + 1 + 1 + 1 + 1) W0 W ∧ Below w.heap.size w W)
    (fun cd pre W => cd = .ret ∧ (∃ x ∈ pre, (qdr p c a1 a2 (toP x).1 (toP x).2 == 0) = false ∧ W.cell? ⟨w.heap.size + 1 + 1 + 1, 0, none⟩ = some (.int .i64 (x.1.val : Int)) ∧ W.cell? ⟨w.heap.size + 1 + 1 + 1, 1, none⟩ = some (.int .i64 (x.2.val : Int))) ∧ Below w.heap.size w W)
    (OwnFrom.and (ownFrom_pure _ _) (OwnFrom.and (btw_own (by omega)) (ownFrom_below (Nat.le_refl _) (by omega))))
    (fun cd s X Y row hs hg hr => by
      obtain ⟨h1, ⟨x, hx, hgd, hc1, hc2⟩, hB⟩ := hs
      have hl := World.block_lt_of_cell? X _ hc1
      have hk : Y.heap[w.heap.size + 1 + 1 + 1]? = X.heap[w.heap.size + 1 + 1 + 1]? := hg.block _ hl (fun e => by have := (hr _ e.symm).1; omega)
      exact ⟨h1, ⟨x, hx, hgd, (World.cell?_of_block (a := ⟨w.heap.size + 1 + 1 + 1, 0, none⟩) hk).trans hc1, (World.cell?_of_block (a := ⟨w.heap.size + 1 + 1 + 1, 1, none⟩) hk).trans hc2⟩, ownFrom_below (β := List Pt32) (Nat.le_refl _) (by omega) s X Y row hB hg hr⟩)
    ⟨fun x hx => absurd hx (by simp), btw_refl _ _ _, hB0⟩
    (fun x a' W => ∃ Bx, W0.heap.size ≤ Bx ∧ Box2 W Bx 26 (toP x) ∧ a' = { tmps := #[.int .i64 p, .int .i64 c, .agg #[.int .i64 a1, .int .i64 a2], .pointer (some ⟨w.heap.size, 0, none⟩), .pointer (some ⟨w.heap.size + 1, 0, none⟩), .pointer (some ⟨w.heap.size + 1 + 1, 0, none⟩), .pointer (some ⟨w.heap.size + 1 + 1 + 1, 0, none⟩), .pointer (some ⟨Bx, 0, none⟩), .int .i64 p, .func (.func 95) #[] #[.pointer (some ⟨w.heap.size + 1 + 1 + 1 + 1, 0, none⟩)], .agg #[.int .i64 (x.1.val : Int), .int .i64 (x.2.val : Int)], undef, undef, undef, undef, undef, undef, undef, undef], defers := [] })
    (fun x a' _ X Y row hs hg hr => by obtain ⟨Bx, h1, h2, h3⟩ := hs; exact ⟨Bx, h1, box2_own Bx W0.heap.size 26 (toP x) () X Y row h2 hg hr, h3⟩)
    ?assign ?body ?done ?stop
  case assign =>
    rintro l pre x W K ⟨hg, hb1, hB⟩ hK
    simp only [ptV, toP]
    gi_wp2
    have hs0 := hb1.1
    exact hK _ _ ((KeepsOthers.alloc _ _).from _) (btw_alloc _ _ (by omega)) ⟨hg, btw_trans hb1 (btw_alloc _ _ (by omega)), hB.alloc hB.size _⟩ ⟨W.heap.size, hs0, box2_new W _ (toP x), rfl⟩
  case body =>
    rintro l pre x a' W hl ⟨r, hr⟩ ⟨hg, hb1, hB⟩ ⟨Bx, hBx, hX, rfl⟩ hlt
    have hX1 := box2_cell1 hX
    have hX2 := box2_cell2 hX
    have hXl := World.block_lt_of_cell? W ⟨Bx, 0, none⟩ hX1
    have hs0 := hb1.1
    have k0 := (btw_cell hb1 (Nat.zero_le _) (by omega) 0).trans q0
    have k1 := (btw_cell hb1 (Nat.zero_le _) (by omega) 0).trans q1
    have k2 := (btw_cell hb1 (Nat.zero_le _) (by omega) 0).trans q2
    have k3 := (btw_cell hb1 (Nat.zero_le _) (by omega) 1).trans q3
    have k4 := (btw_cell hb1 (Nat.zero_le _) (by omega) 0).trans q4
    have k5 := (btw_cell hb1 (Nat.zero_le _) (by omega) 1).trans q5
    have kf0 : W.frozen? ⟨w.heap.size + 1 + 1 + 1, 0, none⟩ = false := (World.frozen?_of_block (a := ⟨w.heap.size + 1 + 1 + 1, 0, none⟩) (hb1.2 (w.heap.size + 1 + 1 + 1) (Nat.zero_le _) (by omega))).trans fr0
    have kf1 : W.frozen? ⟨w.heap.size + 1 + 1 + 1, 1, none⟩ = false := (World.frozen?_of_block (a := ⟨w.heap.size + 1 + 1 + 1, 1, none⟩) (hb1.2 (w.heap.size + 1 + 1 + 1) (Nat.zero_le _) (by omega))).trans fr1
    obtain ⟨⟨x1, hx1⟩, ⟨x2, hx2⟩⟩ := x
    simp only [toP] at hX1 hX2
    have hmx : Try.prog.follows .mixedOrders = true := by kernel_rfl
    have hd1 : 1 ≤ 9 - 1 - 1 := by decide
    have hq := fun w' => implQuad_any p c a1 a2 (x1 : Int) (x2 : Int) w' hp hc ha1 ha2 (by omega) (by omega)
    obtain ⟨v, hv⟩ : ∃ v, v = qdr p c a1 a2 (x1 : Int) (x2 : Int) := ⟨_, rfl⟩
    rw [← hv] at hq
    have HV := Lib.hid hv
    clear hv
    have HQ := Lib.hid hq
    clear hq
    gi_wp2_with fail
    refine ⟨trivial, (CallsIn.inRound l (callsIn_wide.2 (HQ.out _))).mono ?_⟩
    rintro e w1 ⟨rfl, hB1⟩
    have hBs := hB1.size
    have x1_0 := (cell_back hB1 hXl 0).trans hX1
    have x1_1 := (cell_back hB1 hXl 1).trans hX2
    have r1_0 := (cell_back hB1 (by omega) 0).trans k4
    have r1_1 := (cell_back hB1 (by omega) 1).trans k5
    have f1_0 : w1.frozen? ⟨w.heap.size + 1 + 1 + 1, 0, none⟩ = false := ((bcellB hB1).2 (w.heap.size + 1 + 1 + 1) 0 (by omega)).trans kf0
    have f1_1 : w1.frozen? ⟨w.heap.size + 1 + 1 + 1, 1, none⟩ = false := ((bcellB hB1).2 (w.heap.size + 1 + 1 + 1) 1 (by omega)).trans kf1
    rcases bool_ways (v == 0) with t | t
    · have tn : (v != 0) = true := by rw [bne, t]; rfl
      have HN := Lib.hid (show (qdr p c a1 a2 (toP ((⟨x1, hx1⟩, ⟨x2, hx2⟩) : Pt32)).1 (toP ((⟨x1, hx1⟩, ⟨x2, hx2⟩) : Pt32)).2 == 0) = false from by simp only [toP]; rw [← HV.out]; exact t)
      gi_wp2
      refine ⟨((KeepsOthers.of_grownBy (row := none) (below_grown hB1) (fun j o e => by cases e)).trans ((KeepsOthers.setCell _ _ _).trans (KeepsOthers.setCell _ _ _))).from _, rfl, ⟨((⟨x1, hx1⟩, ⟨x2, hx2⟩) : Pt32), by simp, HN.out, ?_, ?_⟩, ?_⟩
      · (repeat (first | with_reducible assumption | ((with_reducible refine kfresh ?_ ?_) <;> (first | with_reducible rfl | (simp; done))) | ((with_reducible refine ksameS ?_); focus ((repeat (first | with_reducible exact kis_of (by with_reducible assumption) | with_reducible refine kis_set ?_ | ((with_reducible refine kis_new ?_ ?_) <;> (first | with_reducible rfl | rfl | (simp; done))) | with_reducible refine kis_alloc _ ?_ | with_reducible refine kis_drew ?_ | with_reducible refine kis_call (by with_reducible assumption) ?_ | with_reducible exact kis_of (kcall (by with_reducible assumption) (by with_reducible assumption)))); done)) | with_reducible refine kother (by decide) ?_ | with_reducible refine kset (by first | omega | (simp; done) | (simp; omega)) ?_ | with_reducible refine kalloc _ ?_ | with_reducible refine kdrew ?_ | with_reducible refine kdrewN ?_ | with_reducible refine kcall (by with_reducible assumption) ?_))
      · (repeat (first | with_reducible assumption | ((with_reducible refine kfresh ?_ ?_) <;> (first | with_reducible rfl | (simp; done))) | ((with_reducible refine ksameS ?_); focus ((repeat (first | with_reducible exact kis_of (by with_reducible assumption) | with_reducible refine kis_set ?_ | ((with_reducible refine kis_new ?_ ?_) <;> (first | with_reducible rfl | rfl | (simp; done))) | with_reducible refine kis_alloc _ ?_ | with_reducible refine kis_drew ?_ | with_reducible refine kis_call (by with_reducible assumption) ?_ | with_reducible exact kis_of (kcall (by with_reducible assumption) (by with_reducible assumption)))); done)) | with_reducible refine kother (by decide) ?_ | with_reducible refine kset (by first | omega | (simp; done) | (simp; omega)) ?_ | with_reducible refine kalloc _ ?_ | with_reducible refine kdrew ?_ | with_reducible refine kdrewN ?_ | with_reducible refine kcall (by with_reducible assumption) ?_))
      · exact ((bthen hB hB1).setCell (by simp; omega) _).setCell (by simp; omega) _
    · have tn : (v != 0) = false := by rw [bne, t]; rfl
      have HN := Lib.hid (show qdr p c a1 a2 (toP ((⟨x1, hx1⟩, ⟨x2, hx2⟩) : Pt32)).1 (toP ((⟨x1, hx1⟩, ⟨x2, hx2⟩) : Pt32)).2 = 0 from by simp only [toP]; rw [← HV.out]; simpa using t)
      gi_wp2
      refine ⟨(KeepsOthers.of_grownBy (row := none) (below_grown hB1) (fun j o e => by cases e)).from _, btw_below hB1 (by omega), fun y hy => ?_, btw_trans hb1 (btw_below hB1 (by omega)), bthen hB hB1⟩
      rcases List.mem_append.1 hy with h | h
      · exact hg y h
      · rw [List.mem_singleton.1 h]; exact HN.out
  case done =>
    rintro D ys W hD rfl ⟨hg, hb1, hB⟩ hK
    exfalso
    have h32 : p.toNat ≤ 32 := by omega
    obtain ⟨x, y, hx, hy, hne⟩ := apart_ex (a1 := a1) (a2 := a2) hp hc
    exact hne (hg (⟨x, by omega⟩, ⟨y, by omega⟩) ((allF_in h32).2 ⟨by show x < p.toNat; omega, by show y < p.toNat; omega⟩))
  case stop =>
    rintro D cd pre W hD hpre ⟨rfl, ⟨x, hx, hgd, hc1', hc2'⟩, hB⟩ hK
    have h32 : p.toNat ≤ 32 := by omega
    have hmem := (allF_in h32).1 (hpre.subset hx)
    obtain ⟨⟨x1, hx1⟩, ⟨x2, hx2⟩⟩ := x
    simp only [toP] at hmem hc1' hc2' hgd
    gi_wp2
    refine ⟨by simp, .inl ⟨_, _, rfl, run_takeDeferred hK, ?_⟩⟩
    have hp5 : (W.putObj D (.deferred none)).heap[w.heap.size + 1 + 1 + 1]? = W.heap[w.heap.size + 1 + 1 + 1]? := (grownBy_putObj' W D (.deferred none)).block _ (World.block_lt_of_cell? W _ hc1') (fun e => by simp at e; omega)
    have kc1 := (World.cell?_of_block (a := ⟨w.heap.size + 1 + 1 + 1, 0, none⟩) hp5).trans hc1'
    have kc2 := (World.cell?_of_block (a := ⟨w.heap.size + 1 + 1 + 1, 1, none⟩) hp5).trans hc2'
    exact ⟨.agg #[.int .i64 (x1 : Int), .int .i64 (x2 : Int)], by simp [results, Try.results61, go_sem, kc1, kc2], _, _, rfl, by omega, by omega, hgd, hB.trans (belowK_b (w := w) (Nat.le_refl _) W D _ _ (by omega) hK rfl rfl)⟩

end Go.Proofs.Ytibfbdgenamlkaa
