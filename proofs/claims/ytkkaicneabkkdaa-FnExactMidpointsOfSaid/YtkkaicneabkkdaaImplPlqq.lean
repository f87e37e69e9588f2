/-
  impl.placeQuadrance.
-/
import Derived.Test.YtkkaicneabkkdaaImplPpdq
import Derived.Test.YtkkaicneabkkdaaImplQuotq
import Derived.Test.YtkkaicneabkkdaaMgq0
import Derived.Deep.RegionHeld3
import Derived.Deep.DeepCutAuto

namespace Go.Proofs.Ytkkaicneabkkdaa
open Go.RowKit

set_option linter.unusedVariables false in
set_option linter.unusedSimpArgs false in
set_option maxRecDepth 20000 in
set_option maxHeartbeats 4000000 in
theorem implPlq_any (p a1 a2 a3 b1 b2 b3 : Int)  (w : World) (hp : isP p = true) (ha1 : 0 ≤ a1 ∧ a1 ≤ 31) (ha2 : 0 ≤ a2 ∧ a2 ≤ 31) (ha3 : 0 ≤ a3 ∧ a3 ≤ 31) (hb1 : 0 ≤ b1 ∧ b1 ≤ 31) (hb2 : 0 ≤ b2 ∧ b2 ≤ 31) (hb3 : 0 ≤ b3 ∧ b3 ≤ 31) :
    Calls Try.prog 43 #[.int .i64 p, .agg #[.int .i64 a1, .int .i64 a2, .int .i64 a3], .agg #[.int .i64 b1, .int .i64 b2, .int .i64 b3]] w fun e w' =>
      e = .returned (.tuple #[.int .i64 (quV p a1 a2 a3 b1 b2 b3), .int .i64 (quC p a1 a2 a3 b1 b2 b3)]) ∧ Below w.heap.size w w' := by
  have hr := isP_range hp
  obtain ⟨v1, hv1⟩ : ∃ v : Int, v = ppd p a1 a2 a3 a1 a2 a3 := ⟨_, rfl⟩
  have rv1 := ppd_r a1 a2 a3 a1 a2 a3 hp
  rw [← hv1] at rv1
  have Hv1 := Lib.hid hv1
  clear hv1
  obtain ⟨v2, hv2⟩ : ∃ v : Int, v = ppd p b1 b2 b3 b1 b2 b3 := ⟨_, rfl⟩
  have rv2 := ppd_r b1 b2 b3 b1 b2 b3 hp
  rw [← hv2] at rv2
  have Hv2 := Lib.hid hv2
  clear hv2
  have mu_1 := mulNN 30 30 900 (by decide) (a := v1) (b := v2) (by omega) (by omega)
  have e_1 : IntKind.i64.wrap (v1 * v2) = v1 * v2 := wrapI _ (by omega)
  have d_2 := modR (v1 * v2) hp
  have t_2 : (v1 * v2).tmod p = (v1 * v2) % p := Int.tmod_eq_emod_of_nonneg (by omega)
  have hpos : p ≠ 0 := by omega
  go_enter Try.func43, Try.ntmps43
  go_upto_region 1 with fail
  go_cut [8] (fun s8 wx => s8 = .int .i64 ((v1 * v2) % p) ∧ (wx.cell? ⟨w.heap.size, 0, none⟩ = some (.int .i64 a1) ∧ wx.cell? ⟨w.heap.size, 1, none⟩ = some (.int .i64 a2) ∧ wx.cell? ⟨w.heap.size, 2, none⟩ = some (.int .i64 a3) ∧ wx.cell? ⟨w.heap.size + 1, 0, none⟩ = some (.int .i64 b1) ∧ wx.cell? ⟨w.heap.size + 1, 1, none⟩ = some (.int .i64 b2) ∧ wx.cell? ⟨w.heap.size + 1, 2, none⟩ = some (.int .i64 b3)) ∧ Below w.heap.size w wx)
  case first =>
    go_region_held3 (fun W => W.cell? ⟨w.heap.size, 0, none⟩ = some (.int .i64 a1) ∧ W.cell? ⟨w.heap.size, 1, none⟩ = some (.int .i64 a2) ∧ W.cell? ⟨w.heap.size, 2, none⟩ = some (.int .i64 a3) ∧ W.cell? ⟨w.heap.size + 1, 0, none⟩ = some (.int .i64 b1) ∧ W.cell? ⟨w.heap.size + 1, 1, none⟩ = some (.int .i64 b2) ∧ W.cell? ⟨w.heap.size + 1, 2, none⟩ = some (.int .i64 b3)) ((first | with_reducible assumption | with_reducible exact (And.imp (kcall hB) (And.imp (kcall hB) (And.imp (kcall hB) (And.imp (kcall hB) (And.imp (kcall hB) ((kcall hB))))))) (by with_reducible assumption) | with_reducible exact (And.imp (kalloc _) (And.imp (kalloc _) (And.imp (kalloc _) (And.imp (kalloc _) (And.imp (kalloc _) ((kalloc _))))))) (by with_reducible assumption) | with_reducible exact (And.imp (krealloc (by first | omega | (simp; done) | (simp; omega))) (And.imp (krealloc (by first | omega | (simp; done) | (simp; omega))) (And.imp (krealloc (by first | omega | (simp; done) | (simp; omega))) (And.imp (krealloc (by first | omega | (simp; done) | (simp; omega))) (And.imp (krealloc (by first | omega | (simp; done) | (simp; omega))) ((krealloc (by first | omega | (simp; done) | (simp; omega))))))))) (by with_reducible assumption) | with_reducible exact (And.imp (fun h => kdrew (kalloc _ (kundrew h))) (And.imp (fun h => kdrew (kalloc _ (kundrew h))) (And.imp (fun h => kdrew (kalloc _ (kundrew h))) (And.imp (fun h => kdrew (kalloc _ (kundrew h))) (And.imp (fun h => kdrew (kalloc _ (kundrew h))) ((fun h => kdrew (kalloc _ (kundrew h))))))))) (by with_reducible assumption) | with_reducible exact (And.imp (fun h => kdrew (krealloc (by first | omega | (simp; done) | (simp; omega)) (kundrew h))) (And.imp (fun h => kdrew (krealloc (by first | omega | (simp; done) | (simp; omega)) (kundrew h))) (And.imp (fun h => kdrew (krealloc (by first | omega | (simp; done) | (simp; omega)) (kundrew h))) (And.imp (fun h => kdrew (krealloc (by first | omega | (simp; done) | (simp; omega)) (kundrew h))) (And.imp (fun h => kdrew (krealloc (by first | omega | (simp; done) | (simp; omega)) (kundrew h))) ((fun h => kdrew (krealloc (by first | omega | (simp; done) | (simp; omega)) (kundrew h))))))))) (by with_reducible assumption) | with_reducible exact (And.imp (fun h => kset (by first | omega | (simp; done) | (simp; omega)) (kset (by first | omega | (simp; done) | (simp; omega)) (kset (by first | omega | (simp; done) | (simp; omega)) h))) (And.imp (fun h => kset (by first | omega | (simp; done) | (simp; omega)) (kset (by first | omega | (simp; done) | (simp; omega)) (kset (by first | omega | (simp; done) | (simp; omega)) h))) (And.imp (fun h => kset (by first | omega | (simp; done) | (simp; omega)) (kset (by first | omega | (simp; done) | (simp; omega)) (kset (by first | omega | (simp; done) | (simp; omega)) h))) (And.imp (fun h => kset (by first | omega | (simp; done) | (simp; omega)) (kset (by first | omega | (simp; done) | (simp; omega)) (kset (by first | omega | (simp; done) | (simp; omega)) h))) (And.imp (fun h => kset (by first | omega | (simp; done) | (simp; omega)) (kset (by first | omega | (simp; done) | (simp; omega)) (kset (by first | omega | (simp; done) | (simp; omega)) h))) ((fun h => kset (by first | omega | (simp; done) | (simp; omega)) (kset (by first | omega | (simp; done) | (simp; omega)) (kset (by first | omega | (simp; done) | (simp; omega)) h))))))))) (by with_reducible assumption) | with_reducible exact (And.imp (fun h => kset (by first | omega | (simp; done) | (simp; omega)) (kset (by first | omega | (simp; done) | (simp; omega)) h)) (And.imp (fun h => kset (by first | omega | (simp; done) | (simp; omega)) (kset (by first | omega | (simp; done) | (simp; omega)) h)) (And.imp (fun h => kset (by first | omega | (simp; done) | (simp; omega)) (kset (by first | omega | (simp; done) | (simp; omega)) h)) (And.imp (fun h => kset (by first | omega | (simp; done) | (simp; omega)) (kset (by first | omega | (simp; done) | (simp; omega)) h)) (And.imp (fun h => kset (by first | omega | (simp; done) | (simp; omega)) (kset (by first | omega | (simp; done) | (simp; omega)) h)) ((fun h => kset (by first | omega | (simp; done) | (simp; omega)) (kset (by first | omega | (simp; done) | (simp; omega)) h)))))))) (by with_reducible assumption) | with_reducible exact (And.imp (fun h => kset (by first | omega | (simp; done) | (simp; omega)) h) (And.imp (fun h => kset (by first | omega | (simp; done) | (simp; omega)) h) (And.imp (fun h => kset (by first | omega | (simp; done) | (simp; omega)) h) (And.imp (fun h => kset (by first | omega | (simp; done) | (simp; omega)) h) (And.imp (fun h => kset (by first | omega | (simp; done) | (simp; omega)) h) ((fun h => kset (by first | omega | (simp; done) | (simp; omega)) h))))))) (by with_reducible assumption) | with_reducible exact (And.imp (fun h => kalloc _ (kset (by first | omega | (simp; done) | (simp; omega)) (kset (by first | omega | (simp; done) | (simp; omega)) (kback (by first | omega | (simp; done) | (simp; omega)) h)))) (And.imp (fun h => kalloc _ (kset (by first | omega | (simp; done) | (simp; omega)) (kset (by first | omega | (simp; done) | (simp; omega)) (kback (by first | omega | (simp; done) | (simp; omega)) h)))) (And.imp (fun h => kalloc _ (kset (by first | omega | (simp; done) | (simp; omega)) (kset (by first | omega | (simp; done) | (simp; omega)) (kback (by first | omega | (simp; done) | (simp; omega)) h)))) (And.imp (fun h => kalloc _ (kset (by first | omega | (simp; done) | (simp; omega)) (kset (by first | omega | (simp; done) | (simp; omega)) (kback (by first | omega | (simp; done) | (simp; omega)) h)))) (And.imp (fun h => kalloc _ (kset (by first | omega | (simp; done) | (simp; omega)) (kset (by first | omega | (simp; done) | (simp; omega)) (kback (by first | omega | (simp; done) | (simp; omega)) h)))) ((fun h => kalloc _ (kset (by first | omega | (simp; done) | (simp; omega)) (kset (by first | omega | (simp; done) | (simp; omega)) (kback (by first | omega | (simp; done) | (simp; omega)) h)))))))))) (by with_reducible assumption) | with_reducible exact (And.imp (fun h => kalloc _ (kset (by first | omega | (simp; done) | (simp; omega)) (kset (by first | omega | (simp; done) | (simp; omega)) (kset (by first | omega | (simp; done) | (simp; omega)) (kback (by first | omega | (simp; done) | (simp; omega)) h))))) (And.imp (fun h => kalloc _ (kset (by first | omega | (simp; done) | (simp; omega)) (kset (by first | omega | (simp; done) | (simp; omega)) (kset (by first | omega | (simp; done) | (simp; omega)) (kback (by first | omega | (simp; done) | (simp; omega)) h))))) (And.imp (fun h => kalloc _ (kset (by first | omega | (simp; done) | (simp; omega)) (kset (by first | omega | (simp; done) | (simp; omega)) (kset (by first | omega | (simp; done) | (simp; omega)) (kback (by first | omega | (simp; done) | (simp; omega)) h))))) (And.imp (fun h => kalloc _ (kset (by first | omega | (simp; done) | (simp; omega)) (kset (by first | omega | (simp; done) | (simp; omega)) (kset (by first | omega | (simp; done) | (simp; omega)) (kback (by first | omega | (simp; done) | (simp; omega)) h))))) (And.imp (fun h => kalloc _ (kset (by first | omega | (simp; done) | (simp; omega)) (kset (by first | omega | (simp; done) | (simp; omega)) (kset (by first | omega | (simp; done) | (simp; omega)) (kback (by first | omega | (simp; done) | (simp; omega)) h))))) ((fun h => kalloc _ (kset (by first | omega | (simp; done) | (simp; omega)) (kset (by first | omega | (simp; done) | (simp; omega)) (kset (by first | omega | (simp; done) | (simp; omega)) (kback (by first | omega | (simp; done) | (simp; omega)) h))))))))))) (by with_reducible assumption) | with_reducible exact (And.imp (fun h => kalloc _ (kalloc _ (kback (by first | omega | (simp; done) | (simp; omega)) (kback (by first | omega | (simp; done) | (simp; omega)) h)))) (And.imp (fun h => kalloc _ (kalloc _ (kback (by first | omega | (simp; done) | (simp; omega)) (kback (by first | omega | (simp; done) | (simp; omega)) h)))) (And.imp (fun h => kalloc _ (kalloc _ (kback (by first | omega | (simp; done) | (simp; omega)) (kback (by first | omega | (simp; done) | (simp; omega)) h)))) (And.imp (fun h => kalloc _ (kalloc _ (kback (by first | omega | (simp; done) | (simp; omega)) (kback (by first | omega | (simp; done) | (simp; omega)) h)))) (And.imp (fun h => kalloc _ (kalloc _ (kback (by first | omega | (simp; done) | (simp; omega)) (kback (by first | omega | (simp; done) | (simp; omega)) h)))) ((fun h => kalloc _ (kalloc _ (kback (by first | omega | (simp; done) | (simp; omega)) (kback (by first | omega | (simp; done) | (simp; omega)) h)))))))))) (by with_reducible assumption) | with_reducible exact (And.imp (fun h => kdrew (kalloc _ (kalloc _ (kback (by first | omega | (simp; done) | (simp; omega)) (kback (by first | omega | (simp; done) | (simp; omega)) (kundrew h)))))) (And.imp (fun h => kdrew (kalloc _ (kalloc _ (kback (by first | omega | (simp; done) | (simp; omega)) (kback (by first | omega | (simp; done) | (simp; omega)) (kundrew h)))))) (And.imp (fun h => kdrew (kalloc _ (kalloc _ (kback (by first | omega | (simp; done) | (simp; omega)) (kback (by first | omega | (simp; done) | (simp; omega)) (kundrew h)))))) (And.imp (fun h => kdrew (kalloc _ (kalloc _ (kback (by first | omega | (simp; done) | (simp; omega)) (kback (by first | omega | (simp; done) | (simp; omega)) (kundrew h)))))) (And.imp (fun h => kdrew (kalloc _ (kalloc _ (kback (by first | omega | (simp; done) | (simp; omega)) (kback (by first | omega | (simp; done) | (simp; omega)) (kundrew h)))))) ((fun h => kdrew (kalloc _ (kalloc _ (kback (by first | omega | (simp; done) | (simp; omega)) (kback (by first | omega | (simp; done) | (simp; omega)) (kundrew h)))))))))))) (by with_reducible assumption) | (simp; done) | (refine ⟨?_, ?_, ?_, ?_, ?_, ?_⟩ <;> (refine kdrew ?_; repeat (first | exact kfresh (by first | rfl | (simp; done)) (by rfl) | refine kalloc _ ?_)); done))) (first | (go_at_call 82; refine Calls.mono (implPpd_any _ _ _ _ _ _ _ _ hp (by omega) (by omega) (by omega) (by omega) (by omega) (by omega)) ?_; (first | rw [← Hv1.out] | rw [← Hv2.out]); rintro e wq ⟨rfl, hB⟩; (obtain ⟨hBc, hBf⟩ := bcell hB; have hBs := hB.size; (try simp at hBs); (try have hBq1 := Nat.lt_of_succ_le hBs); (try have hBq2 := Nat.lt_of_succ_lt hBq1); (try have hBq3 := Nat.lt_of_succ_lt hBq2); (try have hBzw0 : w.heap.size < wq.heap.size := (by omega)); (try have hBzw1 : w.heap.size + 1 < wq.heap.size := (by omega)); (try have hBzw2 : w.heap.size + 1 + 1 < wq.heap.size := (by omega)); (try have hBzw3 : w.heap.size + 1 + 1 + 1 < wq.heap.size := (by omega)); (try have hBzw4 : w.heap.size + 1 + 1 + 1 + 1 < wq.heap.size := (by omega)))))
    all_goals
      go_wp2_with fail
      go_meet
      refine ⟨rfl, by with_reducible assumption, ?_⟩
      · (repeat (first | with_reducible exact Below.refl _ _ | with_reducible refine balloc ?_ _ | with_reducible refine bdrewN ?_ _ | with_reducible refine Below.drew ?_ | with_reducible refine bthen ?_ (by with_reducible assumption) | with_reducible refine Below.setCell ?_ (by first | (simp; done) | (simp; omega)) _))
  case' rest => obtain ⟨rfl, ⟨bA0, bA1, bA2, bA3, bA4, bA5⟩, hxA⟩ := hcut
  obtain ⟨wA, rfl⟩ : ∃ wA : World, wA = wc := ⟨_, rfl⟩
  have lA_1 : w.heap.size < wA.heap.size := World.block_lt_of_cell? wA ⟨w.heap.size, 0, none⟩ bA0
  have lA_2 : w.heap.size + 1 < wA.heap.size := World.block_lt_of_cell? wA ⟨w.heap.size + 1, 0, none⟩ bA3
  rcases bool_ways (((v1 * v2) % p) == 0) with hd1 | hd1
  · have hd1n : (((v1 * v2) % p) != 0) = true := by rw [bne, hd1]; rfl
    have Hhd1p := Lib.hid (beq_eq_false_iff_ne.1 hd1)
    obtain ⟨v3, hv3⟩ : ∃ v : Int, v = ppd p a1 a2 a3 b1 b2 b3 := ⟨_, rfl⟩
    have rv3 := ppd_r a1 a2 a3 b1 b2 b3 hp
    rw [← hv3] at rv3
    have Hv3 := Lib.hid hv3
    clear hv3
    have mu_2 := mulNN 30 30 900 (by decide) (a := v3) (b := v3) (by omega) (by omega)
    obtain ⟨v4, hv4⟩ : ∃ v : Int, v = (v3 * v3) * inv p ((v1 * v2) % p) % p := ⟨_, rfl⟩
    have rv4 := modR ((v3 * v3) * inv p ((v1 * v2) % p)) hp
    rw [← hv4] at rv4
    have Hv4 := Lib.hid hv4
    clear hv4
    obtain ⟨v5, hv5⟩ : ∃ v : Int, v = (1 - v4) % p := ⟨_, rfl⟩
    have rv5 := modR (1 - v4) hp
    rw [← hv5] at rv5
    have Hv5 := Lib.hid hv5
    clear hv5
    go_wp2_with fail
    refine Calls.mono (implPpd_any _ _ _ _ _ _ _ _ hp (by omega) (by omega) (by omega) (by omega) (by omega) (by omega)) ?_
    rw [← Hv3.out]
    rintro e w1 ⟨rfl, hB1⟩
    (obtain ⟨hB1c, hB1f⟩ := bcell hB1; have hB1s := hB1.size; (try simp at hB1s); (try have hB1q1 := Nat.lt_of_succ_le hB1s); (try have hB1q2 := Nat.lt_of_succ_lt hB1q1); (try have hB1q3 := Nat.lt_of_succ_lt hB1q2); (try have hB1zw0 : w.heap.size < w1.heap.size := (by omega)); (try have hB1zw1 : w.heap.size + 1 < w1.heap.size := (by omega)); (try have hB1zw2 : w.heap.size + 1 + 1 < w1.heap.size := (by omega)); (try have hB1zw3 : w.heap.size + 1 + 1 + 1 < w1.heap.size := (by omega)); (try have hB1zw4 : w.heap.size + 1 + 1 + 1 + 1 < w1.heap.size := (by omega)); (try have hB1zwA0 : wA.heap.size < w1.heap.size := (by omega)); (try have hB1zwA1 : wA.heap.size + 1 < w1.heap.size := (by omega)); (try have hB1zwA2 : wA.heap.size + 1 + 1 < w1.heap.size := (by omega)); (try have hB1zwA3 : wA.heap.size + 1 + 1 + 1 < w1.heap.size := (by omega)); (try have hB1zwA4 : wA.heap.size + 1 + 1 + 1 + 1 < w1.heap.size := (by omega)))
    go_wp2_with fail
    refine Calls.mono (quotient_any _ _ _ _ hp (by omega) (by omega)) ?_
    rw [← Hv4.out]
    rintro e w2 ⟨rfl, hB2⟩
    (obtain ⟨hB2c, hB2f⟩ := bcell hB2; have hB2s := hB2.size; (try simp at hB2s); (try have hB2q1 := Nat.lt_of_succ_le hB2s); (try have hB2q2 := Nat.lt_of_succ_lt hB2q1); (try have hB2q3 := Nat.lt_of_succ_lt hB2q2); (try have hB2zw0 : w.heap.size < w2.heap.size := (by omega)); (try have hB2zw1 : w.heap.size + 1 < w2.heap.size := (by omega)); (try have hB2zw2 : w.heap.size + 1 + 1 < w2.heap.size := (by omega)); (try have hB2zw3 : w.heap.size + 1 + 1 + 1 < w2.heap.size := (by omega)); (try have hB2zw4 : w.heap.size + 1 + 1 + 1 + 1 < w2.heap.size := (by omega)); (try have hB2zw10 : w1.heap.size < w2.heap.size := (by omega)); (try have hB2zw11 : w1.heap.size + 1 < w2.heap.size := (by omega)); (try have hB2zw12 : w1.heap.size + 1 + 1 < w2.heap.size := (by omega)); (try have hB2zw13 : w1.heap.size + 1 + 1 + 1 < w2.heap.size := (by omega)); (try have hB2zw14 : w1.heap.size + 1 + 1 + 1 + 1 < w2.heap.size := (by omega)); (try have hB2zwA0 : wA.heap.size < w2.heap.size := (by omega)); (try have hB2zwA1 : wA.heap.size + 1 < w2.heap.size := (by omega)); (try have hB2zwA2 : wA.heap.size + 1 + 1 < w2.heap.size := (by omega)); (try have hB2zwA3 : wA.heap.size + 1 + 1 + 1 < w2.heap.size := (by omega)); (try have hB2zwA4 : wA.heap.size + 1 + 1 + 1 + 1 < w2.heap.size := (by omega)))
    go_wp2_with fail
    refine Calls.mono (rest_any _ _ _ (by omega) (by omega) (by omega) (by omega)) ?_
    rw [← Hv5.out]
    rintro e w' ⟨rfl, rfl⟩
    have hz : quZ p a1 a2 a3 b1 b2 b3 = false := by unfold quZ; rw [← plMul_zero hp (ppd_r a1 a2 a3 a1 a2 a3 hp) (ppd_r b1 b2 b3 b1 b2 b3 hp)]; have q := hd1; simp only [Hv5.out, Hv4.out, Hv3.out, Hv2.out, Hv1.out] at q ⊢; exact q
    have HV := Lib.hid (show quV p a1 a2 a3 b1 b2 b3 = v5 ∧ quC p a1 a2 a3 b1 b2 b3 = 0 from by
      have e := plq_impl hp (ppd p a1 a2 a3 b1 b2 b3) (ppd p a1 a2 a3 a1 a2 a3 * ppd p b1 b2 b3 b1 b2 b3)
      simp only [quV, quC, hz, plq, if_false, Bool.false_eq_true]
      rw [← e]; simp only [Hv5.out, Hv4.out, Hv3.out, Hv2.out, Hv1.out]; simp)
    go_wp2
    (refine bodyPost_ret (v := .tuple #[.int .i64 (quV p a1 a2 a3 b1 b2 b3), .int .i64 (quC p a1 a2 a3 b1 b2 b3)]) (by simp [results, Try.results43, go_sem, HV.out.1, HV.out.2, *]) rfl ⟨?_, ?_⟩)
    · rfl
    · (repeat (first | with_reducible exact Below.refl _ _ | with_reducible exact hxA | with_reducible refine balloc ?_ _ | with_reducible refine bdrewN ?_ _ | with_reducible refine Below.drew ?_ | with_reducible refine bthen ?_ (by with_reducible assumption) | with_reducible refine Below.setCell ?_ (by first | (simp; done) | (simp; omega)) _))
  · have hd1n : (((v1 * v2) % p) != 0) = false := by rw [bne, hd1]; rfl
    have Hhd1p := Lib.hid (beq_iff_eq.1 hd1)
    have hz : quZ p a1 a2 a3 b1 b2 b3 = true := by unfold quZ; rw [← plMul_zero hp (ppd_r a1 a2 a3 a1 a2 a3 hp) (ppd_r b1 b2 b3 b1 b2 b3 hp)]; have q := hd1; simp only [Hv2.out, Hv1.out] at q ⊢; exact q
    have HV := Lib.hid (show quV p a1 a2 a3 b1 b2 b3 = 0 ∧ quC p a1 a2 a3 b1 b2 b3 = 5 from by
      simp [quV, quC, hz])
    go_wp2
    (refine bodyPost_ret (v := .tuple #[.int .i64 (quV p a1 a2 a3 b1 b2 b3), .int .i64 (quC p a1 a2 a3 b1 b2 b3)]) (by simp [results, Try.results43, go_sem, HV.out.1, HV.out.2, *]) rfl ⟨?_, ?_⟩)
    · rfl
    · (repeat (first | with_reducible exact Below.refl _ _ | with_reducible exact hxA | with_reducible refine balloc ?_ _ | with_reducible refine bdrewN ?_ _ | with_reducible refine Below.drew ?_ | with_reducible refine bthen ?_ (by with_reducible assumption) | with_reducible refine Below.setCell ?_ (by first | (simp; done) | (simp; omega)) _))

end Go.Proofs.Ytkkaicneabkkdaa
