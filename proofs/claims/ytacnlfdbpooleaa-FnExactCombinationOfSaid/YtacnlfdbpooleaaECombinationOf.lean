/-
  CombinationOf: the program's and the model's.
-/
import Derived.Test.YtacnlfdbpooleaaCode
import Derived.Test.YtacnlfdbpooleaaSpecPts
import Derived.Test.YtacnlfdbpooleaaImplPts
import Derived.Test.YtacnlfdbpooleaaSpecNums
import Derived.Test.YtacnlfdbpooleaaImplNums
import Derived.Test.YtacnlfdbpooleaaSpecVec
import Derived.Test.YtacnlfdbpooleaaSpecPlus
import Derived.Test.YtacnlfdbpooleaaSpecTimes
import Derived.Test.YtacnlfdbpooleaaImplComb
import Derived.Deep.RegionHeld3
import Derived.Deep.DeepCutAuto
namespace Go.Proofs.Ytacnlfdbpooleaa
open Go.RowKit

def cbC (p a1 a2 b1 b2 t : Int) : Int := codeOf p (numsIn p [a1, a2, b1, b2] && numsIn p [t])
def cbV1 (p a1 a2 b1 b2 t : Int) : Int := if cbC p a1 a2 b1 b2 t = 0 then cmb p a1 b1 t else 0
def cbV2 (p a1 a2 b1 b2 t : Int) : Int := if cbC p a1 a2 b1 b2 t = 0 then cmb p a2 b2 t else 0
abbrev cbR (p a1 a2 b1 b2 t : Int) : Value := .tuple #[.agg #[.int .i64 (cbV1 p a1 a2 b1 b2 t), .int .i64 (cbV2 p a1 a2 b1 b2 t)], .int .i64 (cbC p a1 a2 b1 b2 t)]
theorem cb_err {p a1 a2 b1 b2 t k : Int} (h : codeOf p (numsIn p [a1, a2, b1, b2] && numsIn p [t]) = k) (hk : k ≠ 0) : cbV1 p a1 a2 b1 b2 t = 0 ∧ cbV2 p a1 a2 b1 b2 t = 0 ∧ cbC p a1 a2 b1 b2 t = k := by
  have h' : cbC p a1 a2 b1 b2 t = k := h
  simp [cbV1, cbV2, h', hk]
theorem cb_good {p a1 a2 b1 b2 t : Int} (h : codeOf p (numsIn p [a1, a2, b1, b2] && numsIn p [t]) = 0) : cbV1 p a1 a2 b1 b2 t = cmb p a1 b1 t ∧ cbV2 p a1 a2 b1 b2 t = cmb p a2 b2 t ∧ cbC p a1 a2 b1 b2 t = 0 := by
  have h' : cbC p a1 a2 b1 b2 t = 0 := h
  exact ⟨if_pos h', if_pos h', h'⟩

set_option maxRecDepth 20000 in
set_option maxHeartbeats 2000000 in
theorem specCombinationOf_any (p a1 a2 b1 b2 t : Int) (w : World) :
    Calls Try.prog 21 #[.int .i64 p, .agg #[.int .i64 a1, .int .i64 a2], .agg #[.int .i64 b1, .int .i64 b2], .int .i64 t] w fun e w' => e = .returned (cbR p a1 a2 b1 b2 t) ∧ Below w.heap.size w w' := by
  rcases code_cases p (numsIn p [a1, a2, b1, b2] && numsIn p [t]) with ⟨h0, hp, hn⟩ | h0 | h0
  · have hr := isP_range hp
    obtain ⟨hA, hT⟩ := Bool.and_eq_true_iff.1 hn
    have hq := nums4 hA
    have ht := numsIn_one hT
    have r1 := modR31 (b1 - a1) hp
    have r2 := modR31 (b2 - a2) hp
    have s1 := modR31 (t * ((b1 - a1) % p)) hp
    have s2 := modR31 (t * ((b2 - a2) % p)) hp
    have HP := Lib.hid (show ∀ W : World, Calls Try.prog 52 #[.int .i64 p, .agg #[.int .i64 a1, .int .i64 a2], .agg #[.int .i64 (t * ((b1 - a1) % p) % p), .int .i64 (t * ((b2 - a2) % p) % p)]] W fun e w' => e = .returned (.agg #[.int .i64 (cmb p a1 b1 t), .int .i64 (cmb p a2 b2 t)]) ∧ Below W.heap.size W w' from fun W => by rw [← cmb_spec a1 b1 t hp, ← cmb_spec a2 b2 t hp]; exact specPlus_any _ _ _ _ _ _ hp (by omega) (by omega) (by omega) (by omega))
    have gT : codeOf p true = 0 := codeOf_in hp rfl
    have HV := Lib.hid (cb_good h0)
    clear hn
    go_enter Try.func21, Try.ntmps21
    (go_wp2_with fail; refine Calls.mono (specCode2 _ _ _ _ _ _ _ (by first | rfl | (simp; done))) ?_; rintro e w1 ⟨rfl, hB1⟩; obtain ⟨hB1c, hB1f⟩ := bcell hB1; have hB1s := hB1.size; (try simp at hB1s); (try have hB1q1 := Nat.lt_of_succ_le hB1s); (try have hB1q2 := Nat.lt_of_succ_lt hB1q1); (try have hB1q3 := Nat.lt_of_succ_lt hB1q2); (try have hB1zw0 : w.heap.size < w1.heap.size := (by omega)); (try have hB1zw1 : w.heap.size + 1 < w1.heap.size := (by omega)); (try have hB1zw2 : w.heap.size + 1 + 1 < w1.heap.size := (by omega)); (try have hB1zw3 : w.heap.size + 1 + 1 + 1 < w1.heap.size := (by omega)); (try have hB1zw4 : w.heap.size + 1 + 1 + 1 + 1 < w1.heap.size := (by omega)))
    (go_wp2_with fail; refine Calls.mono (numbers_any _ _ _ _ _ [t] _ rfl (by simp) (by exact cells_at (by simp) [t] _)) ?_; rintro e w' ⟨rfl, rfl⟩)
    go_wp2_with fail
    have kb0 : w1.cell? ⟨w.heap.size, 0, none⟩ = some (.int .i64 a1) := by
      refine kcall hB1 ?_
      repeat (first | exact kfresh (by first | rfl | (simp; done)) (by rfl) | refine kalloc _ ?_)
    have kb1 : w1.cell? ⟨w.heap.size, 1, none⟩ = some (.int .i64 a2) := by
      refine kcall hB1 ?_
      repeat (first | exact kfresh (by first | rfl | (simp; done)) (by rfl) | refine kalloc _ ?_)
    have kb2 : w1.cell? ⟨w.heap.size + 1, 0, none⟩ = some (.int .i64 b1) := by
      refine kcall hB1 ?_
      repeat (first | exact kfresh (by first | rfl | (simp; done)) (by rfl) | refine kalloc _ ?_)
    have kb3 : w1.cell? ⟨w.heap.size + 1, 1, none⟩ = some (.int .i64 b2) := by
      refine kcall hB1 ?_
      repeat (first | exact kfresh (by first | rfl | (simp; done)) (by rfl) | refine kalloc _ ?_)
    have hW : Below w.heap.size w w1 := by (repeat (first | exact Below.refl _ _ | refine balloc ?_ _ | refine bdrewN ?_ _ | refine Below.drew ?_ | refine bthen ?_ hB1 | refine Below.setCell ?_ (by first | (simp; done) | (simp; omega)) _))
    have rb0 : w1.cell? ⟨w.heap.size + 1 + 1, 0, none⟩ = some (.int .i64 0) := by
      refine kcall hB1 ?_
      repeat (first | exact kfresh (by first | rfl | (simp; done)) (by rfl) | refine kalloc _ ?_)
    have rf0 : w1.frozen? ⟨w.heap.size + 1 + 1, 0, none⟩ = false := by
      refine kfro hB1 (by first | with_reducible assumption | (simp; done) | (simp; omega) | (simp; assumption)) ?_
      repeat (first | exact fallocNew (by first | rfl | (simp; done)) | refine falloc (by first | (simp; done) | (simp; omega)) ?_)
    have rb1 : w1.cell? ⟨w.heap.size + 1 + 1, 1, none⟩ = some (.int .i64 0) := by
      refine kcall hB1 ?_
      repeat (first | exact kfresh (by first | rfl | (simp; done)) (by rfl) | refine kalloc _ ?_)
    have rf1 : w1.frozen? ⟨w.heap.size + 1 + 1, 1, none⟩ = false := by
      refine kfro hB1 (by first | with_reducible assumption | (simp; done) | (simp; omega) | (simp; assumption)) ?_
      repeat (first | exact fallocNew (by first | rfl | (simp; done)) | refine falloc (by first | (simp; done) | (simp; omega)) ?_)
    go_region_held3 (fun W => W.cell? ⟨w.heap.size, 0, none⟩ = some (.int .i64 a1) ∧ W.cell? ⟨w.heap.size, 1, none⟩ = some (.int .i64 a2) ∧ W.cell? ⟨w.heap.size + 1, 0, none⟩ = some (.int .i64 b1) ∧ W.cell? ⟨w.heap.size + 1, 1, none⟩ = some (.int .i64 b2)) (first | (refine ⟨?_, ?_, ?_, ?_⟩ <;> ((try with_reducible refine kdrew ?_); (repeat with_reducible refine kalloc _ ?_); with_reducible assumption)) | (first | with_reducible assumption | with_reducible exact (And.imp (kcall hB) (And.imp (kcall hB) (And.imp (kcall hB) ((kcall hB))))) (by with_reducible assumption) | with_reducible exact (And.imp (kalloc _) (And.imp (kalloc _) (And.imp (kalloc _) ((kalloc _))))) (by with_reducible assumption) | with_reducible exact (And.imp (krealloc (by first | omega | (simp; done) | (simp; omega))) (And.imp (krealloc (by first | omega | (simp; done) | (simp; omega))) (And.imp (krealloc (by first | omega | (simp; done) | (simp; omega))) ((krealloc (by first | omega | (simp; done) | (simp; omega))))))) (by with_reducible assumption) | with_reducible exact (And.imp (fun h => kdrew (kalloc _ (kundrew h))) (And.imp (fun h => kdrew (kalloc _ (kundrew h))) (And.imp (fun h => kdrew (kalloc _ (kundrew h))) ((fun h => kdrew (kalloc _ (kundrew h))))))) (by with_reducible assumption) | with_reducible exact (And.imp (fun h => kdrew (krealloc (by first | omega | (simp; done) | (simp; omega)) (kundrew h))) (And.imp (fun h => kdrew (krealloc (by first | omega | (simp; done) | (simp; omega)) (kundrew h))) (And.imp (fun h => kdrew (krealloc (by first | omega | (simp; done) | (simp; omega)) (kundrew h))) ((fun h => kdrew (krealloc (by first | omega | (simp; done) | (simp; omega)) (kundrew h))))))) (by with_reducible assumption) | with_reducible exact (And.imp (fun h => kset (by first | omega | (simp; done) | (simp; omega)) (kset (by first | omega | (simp; done) | (simp; omega)) (kset (by first | omega | (simp; done) | (simp; omega)) h))) (And.imp (fun h => kset (by first | omega | (simp; done) | (simp; omega)) (kset (by first | omega | (simp; done) | (simp; omega)) (kset (by first | omega | (simp; done) | (simp; omega)) h))) (And.imp (fun h => kset (by first | omega | (simp; done) | (simp; omega)) (kset (by first | omega | (simp; done) | (simp; omega)) (kset (by first | omega | (simp; done) | (simp; omega)) h))) ((fun h => kset (by first | omega | (simp; done) | (simp; omega)) (kset (by first | omega | (simp; done) | (simp; omega)) (kset (by first | omega | (simp; done) | (simp; omega)) h))))))) (by with_reducible assumption) | with_reducible exact (And.imp (fun h => kset (by first | omega | (simp; done) | (simp; omega)) (kset (by first | omega | (simp; done) | (simp; omega)) h)) (And.imp (fun h => kset (by first | omega | (simp; done) | (simp; omega)) (kset (by first | omega | (simp; done) | (simp; omega)) h)) (And.imp (fun h => kset (by first | omega | (simp; done) | (simp; omega)) (kset (by first | omega | (simp; done) | (simp; omega)) h)) ((fun h => kset (by first | omega | (simp; done) | (simp; omega)) (kset (by first | omega | (simp; done) | (simp; omega)) h)))))) (by with_reducible assumption) | with_reducible exact (And.imp (fun h => kset (by first | omega | (simp; done) | (simp; omega)) h) (And.imp (fun h => kset (by first | omega | (simp; done) | (simp; omega)) h) (And.imp (fun h => kset (by first | omega | (simp; done) | (simp; omega)) h) ((fun h => kset (by first | omega | (simp; done) | (simp; omega)) h))))) (by with_reducible assumption) | with_reducible exact (And.imp (fun h => kalloc _ (kset (by first | omega | (simp; done) | (simp; omega)) (kset (by first | omega | (simp; done) | (simp; omega)) (kback (by first | omega | (simp; done) | (simp; omega)) h)))) (And.imp (fun h => kalloc _ (kset (by first | omega | (simp; done) | (simp; omega)) (kset (by first | omega | (simp; done) | (simp; omega)) (kback (by first | omega | (simp; done) | (simp; omega)) h)))) (And.imp (fun h => kalloc _ (kset (by first | omega | (simp; done) | (simp; omega)) (kset (by first | omega | (simp; done) | (simp; omega)) (kback (by first | omega | (simp; done) | (simp; omega)) h)))) ((fun h => kalloc _ (kset (by first | omega | (simp; done) | (simp; omega)) (kset (by first | omega | (simp; done) | (simp; omega)) (kback (by first | omega | (simp; done) | (simp; omega)) h)))))))) (by with_reducible assumption) | with_reducible exact (And.imp (fun h => kalloc _ (kset (by first | omega | (simp; done) | (simp; omega)) (kset (by first | omega | (simp; done) | (simp; omega)) (kset (by first | omega | (simp; done) | (simp; omega)) (kback (by first | omega | (simp; done) | (simp; omega)) h))))) (And.imp (fun h => kalloc _ (kset (by first | omega | (simp; done) | (simp; omega)) (kset (by first | omega | (simp; done) | (simp; omega)) (kset (by first | omega | (simp; done) | (simp; omega)) (kback (by first | omega | (simp; done) | (simp; omega)) h))))) (And.imp (fun h => kalloc _ (kset (by first | omega | (simp; done) | (simp; omega)) (kset (by first | omega | (simp; done) | (simp; omega)) (kset (by first | omega | (simp; done) | (simp; omega)) (kback (by first | omega | (simp; done) | (simp; omega)) h))))) ((fun h => kalloc _ (kset (by first | omega | (simp; done) | (simp; omega)) (kset (by first | omega | (simp; done) | (simp; omega)) (kset (by first | omega | (simp; done) | (simp; omega)) (kback (by first | omega | (simp; done) | (simp; omega)) h))))))))) (by with_reducible assumption) | with_reducible exact (And.imp (fun h => kalloc _ (kalloc _ (kback (by first | omega | (simp; done) | (simp; omega)) (kback (by first | omega | (simp; done) | (simp; omega)) h)))) (And.imp (fun h => kalloc _ (kalloc _ (kback (by first | omega | (simp; done) | (simp; omega)) (kback (by first | omega | (simp; done) | (simp; omega)) h)))) (And.imp (fun h => kalloc _ (kalloc _ (kback (by first | omega | (simp; done) | (simp; omega)) (kback (by first | omega | (simp; done) | (simp; omega)) h)))) ((fun h => kalloc _ (kalloc _ (kback (by first | omega | (simp; done) | (simp; omega)) (kback (by first | omega | (simp; done) | (simp; omega)) h)))))))) (by with_reducible assumption) | with_reducible exact (And.imp (fun h => kdrew (kalloc _ (kalloc _ (kback (by first | omega | (simp; done) | (simp; omega)) (kback (by first | omega | (simp; done) | (simp; omega)) (kundrew h)))))) (And.imp (fun h => kdrew (kalloc _ (kalloc _ (kback (by first | omega | (simp; done) | (simp; omega)) (kback (by first | omega | (simp; done) | (simp; omega)) (kundrew h)))))) (And.imp (fun h => kdrew (kalloc _ (kalloc _ (kback (by first | omega | (simp; done) | (simp; omega)) (kback (by first | omega | (simp; done) | (simp; omega)) (kundrew h)))))) ((fun h => kdrew (kalloc _ (kalloc _ (kback (by first | omega | (simp; done) | (simp; omega)) (kback (by first | omega | (simp; done) | (simp; omega)) (kundrew h)))))))))) (by with_reducible assumption) | (simp; done) | (refine ⟨?_, ?_, ?_, ?_⟩ <;> (refine kdrew ?_; repeat (first | exact kfresh (by first | rfl | (simp; done)) (by rfl) | refine kalloc _ ?_)); done))) (first | ((go_at_call 54; refine Calls.mono (specMinus_any _ _ _ _ _ _ hp (by omega) (by omega) (by omega) (by omega)) ?_; rintro e wq ⟨rfl, hB⟩; obtain ⟨hBc, hBf⟩ := bcell hB; have hBs := hB.size; (try simp at hBs); (try have hBq1 := Nat.lt_of_succ_le hBs); (try have hBq2 := Nat.lt_of_succ_lt hBq1); (try have hBq3 := Nat.lt_of_succ_lt hBq2); (try have hBzw0 : w.heap.size < wq.heap.size := (by omega)); (try have hBzw1 : w.heap.size + 1 < wq.heap.size := (by omega)); (try have hBzw2 : w.heap.size + 1 + 1 < wq.heap.size := (by omega)); (try have hBzw3 : w.heap.size + 1 + 1 + 1 < wq.heap.size := (by omega)); (try have hBzw4 : w.heap.size + 1 + 1 + 1 + 1 < wq.heap.size := (by omega))); have rb0 : wq.cell? ⟨w.heap.size + 1 + 1, 0, none⟩ = some (.int .i64 0) := (by repeat (first | with_reducible assumption | with_reducible refine kdrew ?_ | with_reducible refine kcall (by with_reducible assumption) ?_ | exact kfresh (by first | rfl | (simp; done)) (by rfl) | with_reducible refine kalloc _ ?_)); have rf0 : wq.frozen? ⟨w.heap.size + 1 + 1, 0, none⟩ = false := (by repeat (first | with_reducible assumption | with_reducible refine fdrew ?_ | with_reducible refine kfro (by with_reducible assumption) (by first | with_reducible assumption | (simp; done) | (simp; omega) | (simp; assumption)) ?_ | exact fallocNew (by first | rfl | (simp; done)) | with_reducible refine falloc (by first | with_reducible assumption | (simp; done) | (simp; omega) | (simp; assumption)) ?_)); have rb1 : wq.cell? ⟨w.heap.size + 1 + 1, 1, none⟩ = some (.int .i64 0) := (by repeat (first | with_reducible assumption | with_reducible refine kdrew ?_ | with_reducible refine kcall (by with_reducible assumption) ?_ | exact kfresh (by first | rfl | (simp; done)) (by rfl) | with_reducible refine kalloc _ ?_)); have rf1 : wq.frozen? ⟨w.heap.size + 1 + 1, 1, none⟩ = false := (by repeat (first | with_reducible assumption | with_reducible refine fdrew ?_ | with_reducible refine kfro (by with_reducible assumption) (by first | with_reducible assumption | (simp; done) | (simp; omega) | (simp; assumption)) ?_ | exact fallocNew (by first | rfl | (simp; done)) | with_reducible refine falloc (by first | with_reducible assumption | (simp; done) | (simp; omega) | (simp; assumption)) ?_)); clear hBc hBf) | ((go_at_call 53; refine Calls.mono (specTimes_any _ _ _ _ _ hp (by omega) (by omega) (by omega)) ?_; rintro e wq ⟨rfl, hB⟩; obtain ⟨hBc, hBf⟩ := bcell hB; have hBs := hB.size; (try simp at hBs); (try have hBq1 := Nat.lt_of_succ_le hBs); (try have hBq2 := Nat.lt_of_succ_lt hBq1); (try have hBq3 := Nat.lt_of_succ_lt hBq2); (try have hBzw0 : w.heap.size < wq.heap.size := (by omega)); (try have hBzw1 : w.heap.size + 1 < wq.heap.size := (by omega)); (try have hBzw2 : w.heap.size + 1 + 1 < wq.heap.size := (by omega)); (try have hBzw3 : w.heap.size + 1 + 1 + 1 < wq.heap.size := (by omega)); (try have hBzw4 : w.heap.size + 1 + 1 + 1 + 1 < wq.heap.size := (by omega))); have rb0 : wq.cell? ⟨w.heap.size + 1 + 1, 0, none⟩ = some (.int .i64 0) := (by repeat (first | with_reducible assumption | with_reducible refine kdrew ?_ | with_reducible refine kcall (by with_reducible assumption) ?_ | exact kfresh (by first | rfl | (simp; done)) (by rfl) | with_reducible refine kalloc _ ?_)); have rf0 : wq.frozen? ⟨w.heap.size + 1 + 1, 0, none⟩ = false := (by repeat (first | with_reducible assumption | with_reducible refine fdrew ?_ | with_reducible refine kfro (by with_reducible assumption) (by first | with_reducible assumption | (simp; done) | (simp; omega) | (simp; assumption)) ?_ | exact fallocNew (by first | rfl | (simp; done)) | with_reducible refine falloc (by first | with_reducible assumption | (simp; done) | (simp; omega) | (simp; assumption)) ?_)); have rb1 : wq.cell? ⟨w.heap.size + 1 + 1, 1, none⟩ = some (.int .i64 0) := (by repeat (first | with_reducible assumption | with_reducible refine kdrew ?_ | with_reducible refine kcall (by with_reducible assumption) ?_ | exact kfresh (by first | rfl | (simp; done)) (by rfl) | with_reducible refine kalloc _ ?_)); have rf1 : wq.frozen? ⟨w.heap.size + 1 + 1, 1, none⟩ = false := (by repeat (first | with_reducible assumption | with_reducible refine fdrew ?_ | with_reducible refine kfro (by with_reducible assumption) (by first | with_reducible assumption | (simp; done) | (simp; omega) | (simp; assumption)) ?_ | exact fallocNew (by first | rfl | (simp; done)) | with_reducible refine falloc (by first | with_reducible assumption | (simp; done) | (simp; omega) | (simp; assumption)) ?_)); clear hBc hBf) | ((go_at_call 52; refine Calls.mono (HP.out _) ?_; rintro e wq ⟨rfl, hB⟩; obtain ⟨hBc, hBf⟩ := bcell hB; have hBs := hB.size; (try simp at hBs); (try have hBq1 := Nat.lt_of_succ_le hBs); (try have hBq2 := Nat.lt_of_succ_lt hBq1); (try have hBq3 := Nat.lt_of_succ_lt hBq2); (try have hBzw0 : w.heap.size < wq.heap.size := (by omega)); (try have hBzw1 : w.heap.size + 1 < wq.heap.size := (by omega)); (try have hBzw2 : w.heap.size + 1 + 1 < wq.heap.size := (by omega)); (try have hBzw3 : w.heap.size + 1 + 1 + 1 < wq.heap.size := (by omega)); (try have hBzw4 : w.heap.size + 1 + 1 + 1 + 1 < wq.heap.size := (by omega))); have rb0 : wq.cell? ⟨w.heap.size + 1 + 1, 0, none⟩ = some (.int .i64 0) := (by repeat (first | with_reducible assumption | with_reducible refine kdrew ?_ | with_reducible refine kcall (by with_reducible assumption) ?_ | exact kfresh (by first | rfl | (simp; done)) (by rfl) | with_reducible refine kalloc _ ?_)); have rf0 : wq.frozen? ⟨w.heap.size + 1 + 1, 0, none⟩ = false := (by repeat (first | with_reducible assumption | with_reducible refine fdrew ?_ | with_reducible refine kfro (by with_reducible assumption) (by first | with_reducible assumption | (simp; done) | (simp; omega) | (simp; assumption)) ?_ | exact fallocNew (by first | rfl | (simp; done)) | with_reducible refine falloc (by first | with_reducible assumption | (simp; done) | (simp; omega) | (simp; assumption)) ?_)); have rb1 : wq.cell? ⟨w.heap.size + 1 + 1, 1, none⟩ = some (.int .i64 0) := (by repeat (first | with_reducible assumption | with_reducible refine kdrew ?_ | with_reducible refine kcall (by with_reducible assumption) ?_ | exact kfresh (by first | rfl | (simp; done)) (by rfl) | with_reducible refine kalloc _ ?_)); have rf1 : wq.frozen? ⟨w.heap.size + 1 + 1, 1, none⟩ = false := (by repeat (first | with_reducible assumption | with_reducible refine fdrew ?_ | with_reducible refine kfro (by with_reducible assumption) (by first | with_reducible assumption | (simp; done) | (simp; omega) | (simp; assumption)) ?_ | exact fallocNew (by first | rfl | (simp; done)) | with_reducible refine falloc (by first | with_reducible assumption | (simp; done) | (simp; omega) | (simp; assumption)) ?_)); clear hBc hBf))
    all_goals
      go_wp2
      (refine bodyPost_ret (v := cbR p a1 a2 b1 b2 t) (by simp [results, Try.results21, go_sem, HV.out.1, HV.out.2.1, HV.out.2.2, *]) rfl ⟨?_, ?_⟩)
      · rfl
      · (repeat (first | exact Below.refl _ _ | refine balloc ?_ _ | refine bdrewN ?_ _ | refine Below.drew ?_ | exact hW | refine bthen ?_ (by with_reducible assumption) | refine Below.setCell ?_ (by first | (simp; done) | (simp; omega)) _))
  · have HV := Lib.hid (cb_err h0 (by omega))
    have g0 := code_split_1 h0
    go_enter Try.func21, Try.ntmps21
    (go_wp2_with fail; refine Calls.mono (specCode2 _ _ _ _ _ _ _ (by first | rfl | (simp; done))) ?_; rintro e w1 ⟨rfl, hB1⟩; obtain ⟨hB1c, hB1f⟩ := bcell hB1; have hB1s := hB1.size; (try simp at hB1s); (try have hB1q1 := Nat.lt_of_succ_le hB1s); (try have hB1q2 := Nat.lt_of_succ_lt hB1q1); (try have hB1q3 := Nat.lt_of_succ_lt hB1q2); (try have hB1zw0 : w.heap.size < w1.heap.size := (by omega)); (try have hB1zw1 : w.heap.size + 1 < w1.heap.size := (by omega)); (try have hB1zw2 : w.heap.size + 1 + 1 < w1.heap.size := (by omega)); (try have hB1zw3 : w.heap.size + 1 + 1 + 1 < w1.heap.size := (by omega)); (try have hB1zw4 : w.heap.size + 1 + 1 + 1 + 1 < w1.heap.size := (by omega)))
    go_wp2
    (refine bodyPost_ret (v := cbR p a1 a2 b1 b2 t) (by simp [results, Try.results21, go_sem, HV.out.1, HV.out.2.1, HV.out.2.2, *]) rfl ⟨?_, ?_⟩)
    · rfl
    · (repeat (first | exact Below.refl _ _ | refine balloc ?_ _ | refine bdrewN ?_ _ | refine Below.drew ?_ | refine bthen ?_ hB1 | refine Below.setCell ?_ (by first | (simp; done) | (simp; omega)) _))
  · have HV := Lib.hid (cb_err h0 (by omega))
    rcases code_split_2 h0 with ⟨_, g0, -, -, g1⟩ | g0
    · go_enter Try.func21, Try.ntmps21
      (go_wp2_with fail; refine Calls.mono (specCode2 _ _ _ _ _ _ _ (by first | rfl | (simp; done))) ?_; rintro e w1 ⟨rfl, hB1⟩; obtain ⟨hB1c, hB1f⟩ := bcell hB1; have hB1s := hB1.size; (try simp at hB1s); (try have hB1q1 := Nat.lt_of_succ_le hB1s); (try have hB1q2 := Nat.lt_of_succ_lt hB1q1); (try have hB1q3 := Nat.lt_of_succ_lt hB1q2); (try have hB1zw0 : w.heap.size < w1.heap.size := (by omega)); (try have hB1zw1 : w.heap.size + 1 < w1.heap.size := (by omega)); (try have hB1zw2 : w.heap.size + 1 + 1 < w1.heap.size := (by omega)); (try have hB1zw3 : w.heap.size + 1 + 1 + 1 < w1.heap.size := (by omega)); (try have hB1zw4 : w.heap.size + 1 + 1 + 1 + 1 < w1.heap.size := (by omega)))
      (go_wp2_with fail; refine Calls.mono (numbers_any _ _ _ _ _ [t] _ rfl (by simp) (by exact cells_at (by simp) [t] _)) ?_; rintro e w' ⟨rfl, rfl⟩)
      go_wp2
      (refine bodyPost_ret (v := cbR p a1 a2 b1 b2 t) (by simp [results, Try.results21, go_sem, HV.out.1, HV.out.2.1, HV.out.2.2, *]) rfl ⟨?_, ?_⟩)
      · rfl
      · (repeat (first | exact Below.refl _ _ | refine balloc ?_ _ | refine bdrewN ?_ _ | refine Below.drew ?_ | refine bthen ?_ hB1 | refine Below.setCell ?_ (by first | (simp; done) | (simp; omega)) _))
    · go_enter Try.func21, Try.ntmps21
      (go_wp2_with fail; refine Calls.mono (specCode2 _ _ _ _ _ _ _ (by first | rfl | (simp; done))) ?_; rintro e w1 ⟨rfl, hB1⟩; obtain ⟨hB1c, hB1f⟩ := bcell hB1; have hB1s := hB1.size; (try simp at hB1s); (try have hB1q1 := Nat.lt_of_succ_le hB1s); (try have hB1q2 := Nat.lt_of_succ_lt hB1q1); (try have hB1q3 := Nat.lt_of_succ_lt hB1q2); (try have hB1zw0 : w.heap.size < w1.heap.size := (by omega)); (try have hB1zw1 : w.heap.size + 1 < w1.heap.size := (by omega)); (try have hB1zw2 : w.heap.size + 1 + 1 < w1.heap.size := (by omega)); (try have hB1zw3 : w.heap.size + 1 + 1 + 1 < w1.heap.size := (by omega)); (try have hB1zw4 : w.heap.size + 1 + 1 + 1 + 1 < w1.heap.size := (by omega)))
      go_wp2
      (refine bodyPost_ret (v := cbR p a1 a2 b1 b2 t) (by simp [results, Try.results21, go_sem, HV.out.1, HV.out.2.1, HV.out.2.2, *]) rfl ⟨?_, ?_⟩)
      · rfl
      · (repeat (first | exact Below.refl _ _ | refine balloc ?_ _ | refine bdrewN ?_ _ | refine Below.drew ?_ | refine bthen ?_ hB1 | refine Below.setCell ?_ (by first | (simp; done) | (simp; omega)) _))

set_option maxRecDepth 20000 in
set_option maxHeartbeats 2000000 in
theorem implCombinationOf_any (p a1 a2 b1 b2 t : Int) (w : World) :
    Calls Try.prog 22 #[.int .i64 p, .agg #[.int .i64 a1, .int .i64 a2], .agg #[.int .i64 b1, .int .i64 b2], .int .i64 t] w fun e w' => e = .returned (cbR p a1 a2 b1 b2 t) ∧ Below w.heap.size w w' := by
  rcases code_cases p (numsIn p [a1, a2, b1, b2] && numsIn p [t]) with ⟨h0, hp, hn⟩ | h0 | h0
  · have hr := isP_range hp
    obtain ⟨hA, hT⟩ := Bool.and_eq_true_iff.1 hn
    have hq := nums4 hA
    have ht := numsIn_one hT
    have r1 := modR31 (b1 - a1) hp
    have r2 := modR31 (b2 - a2) hp
    have s1 := modR31 (t * ((b1 - a1) % p)) hp
    have s2 := modR31 (t * ((b2 - a2) % p)) hp
    have HP := Lib.hid (show ∀ W : World, Calls Try.prog 52 #[.int .i64 p, .agg #[.int .i64 a1, .int .i64 a2], .agg #[.int .i64 (t * ((b1 - a1) % p) % p), .int .i64 (t * ((b2 - a2) % p) % p)]] W fun e w' => e = .returned (.agg #[.int .i64 (cmb p a1 b1 t), .int .i64 (cmb p a2 b2 t)]) ∧ Below W.heap.size W w' from fun W => by rw [← cmb_spec a1 b1 t hp, ← cmb_spec a2 b2 t hp]; exact specPlus_any _ _ _ _ _ _ hp (by omega) (by omega) (by omega) (by omega))
    have gT : codeOf p true = 0 := codeOf_in hp rfl
    have HV := Lib.hid (cb_good h0)
    clear hn
    go_enter Try.func22, Try.ntmps22
    (go_wp2_with fail; refine Calls.mono (implPoints2 _ _ _ _ _ _ _ (by first | rfl | (simp; done))) ?_; rintro e w1 ⟨rfl, hB1⟩; obtain ⟨hB1c, hB1f⟩ := bcell hB1; have hB1s := hB1.size; (try simp at hB1s); (try have hB1q1 := Nat.lt_of_succ_le hB1s); (try have hB1q2 := Nat.lt_of_succ_lt hB1q1); (try have hB1q3 := Nat.lt_of_succ_lt hB1q2); (try have hB1zw0 : w.heap.size < w1.heap.size := (by omega)); (try have hB1zw1 : w.heap.size + 1 < w1.heap.size := (by omega)); (try have hB1zw2 : w.heap.size + 1 + 1 < w1.heap.size := (by omega)); (try have hB1zw3 : w.heap.size + 1 + 1 + 1 < w1.heap.size := (by omega)); (try have hB1zw4 : w.heap.size + 1 + 1 + 1 + 1 < w1.heap.size := (by omega)))
    (go_wp2_with fail; refine Calls.mono (areNums_any _ _ _ _ _ [t] _ rfl (by simp) (by exact cells_at (by simp) [t] _)) ?_; rintro e w' ⟨rfl, rfl⟩)
    (go_wp2_with fail; refine Calls.mono (codeFor_any _ _ _) ?_; rintro e w' ⟨rfl, rfl⟩)
    (go_wp2_with fail; refine Calls.mono (implComb_any _ _ _ _ _ _ _ hp (by omega) (by omega) (by omega) (by omega) (by omega)) ?_; rintro e w2 ⟨rfl, hB2⟩; obtain ⟨hB2c, hB2f⟩ := bcell hB2; have hB2s := hB2.size; (try simp at hB2s); (try have hB2q1 := Nat.lt_of_succ_le hB2s); (try have hB2q2 := Nat.lt_of_succ_lt hB2q1); (try have hB2q3 := Nat.lt_of_succ_lt hB2q2); (try have hB2zw0 : w.heap.size < w2.heap.size := (by omega)); (try have hB2zw1 : w.heap.size + 1 < w2.heap.size := (by omega)); (try have hB2zw2 : w.heap.size + 1 + 1 < w2.heap.size := (by omega)); (try have hB2zw3 : w.heap.size + 1 + 1 + 1 < w2.heap.size := (by omega)); (try have hB2zw4 : w.heap.size + 1 + 1 + 1 + 1 < w2.heap.size := (by omega)); (try have hB2zw10 : w1.heap.size < w2.heap.size := (by omega)); (try have hB2zw11 : w1.heap.size + 1 < w2.heap.size := (by omega)); (try have hB2zw12 : w1.heap.size + 1 + 1 < w2.heap.size := (by omega)); (try have hB2zw13 : w1.heap.size + 1 + 1 + 1 < w2.heap.size := (by omega)); (try have hB2zw14 : w1.heap.size + 1 + 1 + 1 + 1 < w2.heap.size := (by omega)))
    go_wp2
    (refine bodyPost_ret (v := cbR p a1 a2 b1 b2 t) (by simp [results, Try.results22, go_sem, HV.out.1, HV.out.2.1, HV.out.2.2, *]) rfl ⟨?_, ?_⟩)
    · rfl
    · (repeat (first | exact Below.refl _ _ | refine balloc ?_ _ | refine bdrewN ?_ _ | refine Below.drew ?_ | refine bthen ?_ hB1 | refine bthen ?_ hB2 | refine Below.setCell ?_ (by first | (simp; done) | (simp; omega)) _))
  all_goals
    have HV := Lib.hid (cb_err h0 (by omega))
    cases hA : numsIn p [a1, a2, b1, b2]
    · rw [hA, Bool.false_and] at h0
      go_enter Try.func22, Try.ntmps22
      (go_wp2_with fail; refine Calls.mono (implPoints2 _ _ _ _ _ _ _ (by first | rfl | (simp; done))) ?_; rintro e w1 ⟨rfl, hB1⟩; obtain ⟨hB1c, hB1f⟩ := bcell hB1; have hB1s := hB1.size; (try simp at hB1s); (try have hB1q1 := Nat.lt_of_succ_le hB1s); (try have hB1q2 := Nat.lt_of_succ_lt hB1q1); (try have hB1q3 := Nat.lt_of_succ_lt hB1q2); (try have hB1zw0 : w.heap.size < w1.heap.size := (by omega)); (try have hB1zw1 : w.heap.size + 1 < w1.heap.size := (by omega)); (try have hB1zw2 : w.heap.size + 1 + 1 < w1.heap.size := (by omega)); (try have hB1zw3 : w.heap.size + 1 + 1 + 1 < w1.heap.size := (by omega)); (try have hB1zw4 : w.heap.size + 1 + 1 + 1 + 1 < w1.heap.size := (by omega)))
      (go_wp2_with fail; refine Calls.mono (codeFor_any _ _ _) ?_; rintro e w' ⟨rfl, rfl⟩)
      go_wp2
      (refine bodyPost_ret (v := cbR p a1 a2 b1 b2 t) (by simp [results, Try.results22, go_sem, HV.out.1, HV.out.2.1, HV.out.2.2, *]) rfl ⟨?_, ?_⟩)
      · rfl
      · (repeat (first | exact Below.refl _ _ | refine balloc ?_ _ | refine bdrewN ?_ _ | refine Below.drew ?_ | refine bthen ?_ hB1 | refine Below.setCell ?_ (by first | (simp; done) | (simp; omega)) _))
    · rw [hA, Bool.true_and] at h0
      go_enter Try.func22, Try.ntmps22
      (go_wp2_with fail; refine Calls.mono (implPoints2 _ _ _ _ _ _ _ (by first | rfl | (simp; done))) ?_; rintro e w1 ⟨rfl, hB1⟩; obtain ⟨hB1c, hB1f⟩ := bcell hB1; have hB1s := hB1.size; (try simp at hB1s); (try have hB1q1 := Nat.lt_of_succ_le hB1s); (try have hB1q2 := Nat.lt_of_succ_lt hB1q1); (try have hB1q3 := Nat.lt_of_succ_lt hB1q2); (try have hB1zw0 : w.heap.size < w1.heap.size := (by omega)); (try have hB1zw1 : w.heap.size + 1 < w1.heap.size := (by omega)); (try have hB1zw2 : w.heap.size + 1 + 1 < w1.heap.size := (by omega)); (try have hB1zw3 : w.heap.size + 1 + 1 + 1 < w1.heap.size := (by omega)); (try have hB1zw4 : w.heap.size + 1 + 1 + 1 + 1 < w1.heap.size := (by omega)))
      (go_wp2_with fail; refine Calls.mono (areNums_any _ _ _ _ _ [t] _ rfl (by simp) (by exact cells_at (by simp) [t] _)) ?_; rintro e w' ⟨rfl, rfl⟩)
      (go_wp2_with fail; refine Calls.mono (codeFor_any _ _ _) ?_; rintro e w' ⟨rfl, rfl⟩)
      go_wp2
      (refine bodyPost_ret (v := cbR p a1 a2 b1 b2 t) (by simp [results, Try.results22, go_sem, HV.out.1, HV.out.2.1, HV.out.2.2, *]) rfl ⟨?_, ?_⟩)
      · rfl
      · (repeat (first | exact Below.refl _ _ | refine balloc ?_ _ | refine bdrewN ?_ _ | refine Below.drew ?_ | refine bthen ?_ hB1 | refine Below.setCell ?_ (by first | (simp; done) | (simp; omega)) _))

end Go.Proofs.Ytacnlfdbpooleaa
