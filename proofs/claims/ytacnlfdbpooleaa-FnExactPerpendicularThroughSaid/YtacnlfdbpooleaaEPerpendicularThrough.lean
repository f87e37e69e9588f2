/-
  PerpendicularThrough: the program's and the model's.
-/
import Derived.Test.YtacnlfdbpooleaaCode
import Derived.Test.YtacnlfdbpooleaaSpecBoth
import Derived.Test.YtacnlfdbpooleaaSpecCol
import Derived.Test.YtacnlfdbpooleaaSpecDir
import Derived.Test.YtacnlfdbpooleaaSpecTL
import Derived.Test.YtacnlfdbpooleaaImplPts
import Derived.Test.YtacnlfdbpooleaaImplLins
import Derived.Test.YtacnlfdbpooleaaImplCol
import Derived.Test.YtacnlfdbpooleaaImplTL
import Derived.Deep.RegionHeld3
import Derived.Deep.DeepCutAuto
namespace Go.Proofs.Ytacnlfdbpooleaa
open Go.RowKit

def ptC (p col l1 l2 l3 a1 a2 : Int) : Int := codeOf p (colB col && (numsIn p [a1, a2] && lineB p l1 l2 l3))
def ptV1 (p col l1 l2 l3 a1 a2 : Int) : Int := if ptC p col l1 l2 l3 a1 a2 = 0 then pt1 p col l1 l2 a1 a2 else 0
def ptV2 (p col l1 l2 l3 a1 a2 : Int) : Int := if ptC p col l1 l2 l3 a1 a2 = 0 then pt2 p col l1 l2 a1 a2 else 0
def ptV3 (p col l1 l2 l3 a1 a2 : Int) : Int := if ptC p col l1 l2 l3 a1 a2 = 0 then pt3 p col l1 l2 a1 a2 else 0
abbrev ptR (p col l1 l2 l3 a1 a2 : Int) : Value := .tuple #[.agg #[.int .i64 (ptV1 p col l1 l2 l3 a1 a2), .int .i64 (ptV2 p col l1 l2 l3 a1 a2), .int .i64 (ptV3 p col l1 l2 l3 a1 a2)], .int .i64 (ptC p col l1 l2 l3 a1 a2)]
theorem pt_err {p col l1 l2 l3 a1 a2 k : Int} (h : codeOf p (colB col && (numsIn p [a1, a2] && lineB p l1 l2 l3)) = k) (hk : k ≠ 0) : ptV1 p col l1 l2 l3 a1 a2 = 0 ∧ ptV2 p col l1 l2 l3 a1 a2 = 0 ∧ ptV3 p col l1 l2 l3 a1 a2 = 0 ∧ ptC p col l1 l2 l3 a1 a2 = k := by
  have h' : ptC p col l1 l2 l3 a1 a2 = k := h
  simp [ptV1, ptV2, ptV3, h', hk]
theorem pt_good {p col l1 l2 l3 a1 a2 : Int} (h : codeOf p (colB col && (numsIn p [a1, a2] && lineB p l1 l2 l3)) = 0) : ptV1 p col l1 l2 l3 a1 a2 = pt1 p col l1 l2 a1 a2 ∧ ptV2 p col l1 l2 l3 a1 a2 = pt2 p col l1 l2 a1 a2 ∧ ptV3 p col l1 l2 l3 a1 a2 = pt3 p col l1 l2 a1 a2 ∧ ptC p col l1 l2 l3 a1 a2 = 0 := by
  have h' : ptC p col l1 l2 l3 a1 a2 = 0 := h
  exact ⟨if_pos h', if_pos h', if_pos h', h'⟩

set_option maxRecDepth 20000 in
set_option maxHeartbeats 2000000 in
theorem specPerpendicularThrough_any (p col l1 l2 l3 a1 a2 : Int) (w : World) :
    Calls Try.prog 30 #[.int .i64 p, .int .i64 col, .agg #[.int .i64 l1, .int .i64 l2, .int .i64 l3], .agg #[.int .i64 a1, .int .i64 a2]] w fun e w' => e = .returned (ptR p col l1 l2 l3 a1 a2) ∧ Below w.heap.size w w' := by
  rcases code_cases p (colB col && (numsIn p [a1, a2] && lineB p l1 l2 l3)) with ⟨h0, hp, hn⟩ | h0 | h0
  · have hr := isP_range hp
    obtain ⟨hc, hn⟩ := Bool.and_eq_true_iff.1 hn
    have hcr := colB_range hc
    have hx := Bool.and_eq_true_iff.1 hn
    have hq := nums2 hx.1
    have hl := nums3 (lineB_in hx.2).2
    obtain ⟨hA, hL⟩ := hx
    have hd := modR (-l2) hp
    have g0 := (code_col_T hc).symm.trans h0
    have gT : codeOf p true = 0 := codeOf_in hp rfl
    have HV := Lib.hid (pt_good h0)
    clear hn
    go_enter Try.func30, Try.ntmps30
    (go_wp2_with fail; refine Calls.mono (both_any _ _ _ _ _ _ _) ?_; rintro e w1 ⟨rfl, hB1⟩; obtain ⟨hB1c, hB1f⟩ := bcell hB1; have hB1s := hB1.size; (try simp at hB1s); (try have hB1q1 := Nat.lt_of_succ_le hB1s); (try have hB1q2 := Nat.lt_of_succ_lt hB1q1); (try have hB1q3 := Nat.lt_of_succ_lt hB1q2); (try have hB1zw0 : w.heap.size < w1.heap.size := (by omega)); (try have hB1zw1 : w.heap.size + 1 < w1.heap.size := (by omega)); (try have hB1zw2 : w.heap.size + 1 + 1 < w1.heap.size := (by omega)); (try have hB1zw3 : w.heap.size + 1 + 1 + 1 < w1.heap.size := (by omega)); (try have hB1zw4 : w.heap.size + 1 + 1 + 1 + 1 < w1.heap.size := (by omega)))
    (go_wp2_with fail; refine Calls.mono (specColour_any _ _) ?_; rintro e w' ⟨rfl, rfl⟩)
    go_wp2_with fail
    have kb0 : w1.cell? ⟨w.heap.size, 0, none⟩ = some (.int .i64 l1) := by
      refine kcall hB1 ?_
      repeat (first | exact kfresh (by first | rfl | (simp; done)) (by rfl) | refine kalloc _ ?_)
    have kb1 : w1.cell? ⟨w.heap.size, 1, none⟩ = some (.int .i64 l2) := by
      refine kcall hB1 ?_
      repeat (first | exact kfresh (by first | rfl | (simp; done)) (by rfl) | refine kalloc _ ?_)
    have kb2 : w1.cell? ⟨w.heap.size, 2, none⟩ = some (.int .i64 l3) := by
      refine kcall hB1 ?_
      repeat (first | exact kfresh (by first | rfl | (simp; done)) (by rfl) | refine kalloc _ ?_)
    have kb3 : w1.cell? ⟨w.heap.size + 1, 0, none⟩ = some (.int .i64 a1) := by
      refine kcall hB1 ?_
      repeat (first | exact kfresh (by first | rfl | (simp; done)) (by rfl) | refine kalloc _ ?_)
    have kb4 : w1.cell? ⟨w.heap.size + 1, 1, none⟩ = some (.int .i64 a2) := by
      refine kcall hB1 ?_
      repeat (first | exact kfresh (by first | rfl | (simp; done)) (by rfl) | refine kalloc _ ?_)
    have hW : Below w.heap.size w w1 := by (repeat (first | exact Below.refl _ _ | refine balloc ?_ _ | refine bdrewN ?_ _ | refine Below.drew ?_ | refine bthen ?_ hB1 | refine Below.setCell ?_ (by first | (simp; done) | (simp; omega)) _))
    have rb0 : w1.cell? ⟨w.heap.size + 1 + 1, 0, none⟩ = some (.int .i64 0) := by
      refine kcall hB1 ?_
      repeat (first | exact kfresh (by first | rfl | (simp; done)) (by rfl) | refine kalloc _ ?_)
    have rf0 : w1.frozen? ⟨w.heap.size + 1 + 1, 0, none⟩ = false := by
      refine kfro hB1 (by first | with_reducible assumption | (simp; done) | (simp; omega) | (simp; assumption)) ?_
      repeat (first | exact fallocNew (by first | rfl | (simp; done)) | refine falloc (by first | (simp; done) | (simp; omega)) ?_)
    have rb1 : w1.cell? ⟨w.heap.size + 1 + 1, 1, none⟩ = some (.int .i64 0) := by
      refine kcall hB1 ?_
      repeat (first | exact kfresh (by first | rfl | (simp; done)) (by rfl) | refine kalloc _ ?_)
    have rf1 : w1.frozen? ⟨w.heap.size + 1 + 1, 1, none⟩ = false := by
      refine kfro hB1 (by first | with_reducible assumption | (simp; done) | (simp; omega) | (simp; assumption)) ?_
      repeat (first | exact fallocNew (by first | rfl | (simp; done)) | refine falloc (by first | (simp; done) | (simp; omega)) ?_)
    have rb2 : w1.cell? ⟨w.heap.size + 1 + 1, 2, none⟩ = some (.int .i64 0) := by
      refine kcall hB1 ?_
      repeat (first | exact kfresh (by first | rfl | (simp; done)) (by rfl) | refine kalloc _ ?_)
    have rf2 : w1.frozen? ⟨w.heap.size + 1 + 1, 2, none⟩ = false := by
      refine kfro hB1 (by first | with_reducible assumption | (simp; done) | (simp; omega) | (simp; assumption)) ?_
      repeat (first | exact fallocNew (by first | rfl | (simp; done)) | refine falloc (by first | (simp; done) | (simp; omega)) ?_)
    go_region_held3 (fun W => W.cell? ⟨w.heap.size, 0, none⟩ = some (.int .i64 l1) ∧ W.cell? ⟨w.heap.size, 1, none⟩ = some (.int .i64 l2) ∧ W.cell? ⟨w.heap.size, 2, none⟩ = some (.int .i64 l3) ∧ W.cell? ⟨w.heap.size + 1, 0, none⟩ = some (.int .i64 a1) ∧ W.cell? ⟨w.heap.size + 1, 1, none⟩ = some (.int .i64 a2)) (first | (refine ⟨?_, ?_, ?_, ?_, ?_⟩ <;> ((try with_reducible refine kdrew ?_); (repeat with_reducible refine kalloc _ ?_); with_reducible assumption)) | (first | with_reducible assumption | with_reducible exact (And.imp (kcall hB) (And.imp (kcall hB) (And.imp (kcall hB) (And.imp (kcall hB) ((kcall hB)))))) (by with_reducible assumption) | with_reducible exact (And.imp (kalloc _) (And.imp (kalloc _) (And.imp (kalloc _) (And.imp (kalloc _) ((kalloc _)))))) (by with_reducible assumption) | with_reducible exact (And.imp (krealloc (by first | omega | (simp; done) | (simp; omega))) (And.imp (krealloc (by first | omega | (simp; done) | (simp; omega))) (And.imp (krealloc (by first | omega | (simp; done) | (simp; omega))) (And.imp (krealloc (by first | omega | (simp; done) | (simp; omega))) ((krealloc (by first | omega | (simp; done) | (simp; omega)))))))) (by with_reducible assumption) | with_reducible exact (And.imp (fun h => kdrew (kalloc _ (kundrew h))) (And.imp (fun h => kdrew (kalloc _ (kundrew h))) (And.imp (fun h => kdrew (kalloc _ (kundrew h))) (And.imp (fun h => kdrew (kalloc _ (kundrew h))) ((fun h => kdrew (kalloc _ (kundrew h)))))))) (by with_reducible assumption) | with_reducible exact (And.imp (fun h => kdrew (krealloc (by first | omega | (simp; done) | (simp; omega)) (kundrew h))) (And.imp (fun h => kdrew (krealloc (by first | omega | (simp; done) | (simp; omega)) (kundrew h))) (And.imp (fun h => kdrew (krealloc (by first | omega | (simp; done) | (simp; omega)) (kundrew h))) (And.imp (fun h => kdrew (krealloc (by first | omega | (simp; done) | (simp; omega)) (kundrew h))) ((fun h => kdrew (krealloc (by first | omega | (simp; done) | (simp; omega)) (kundrew h)))))))) (by with_reducible assumption) | with_reducible exact (And.imp (fun h => kset (by first | omega | (simp; done) | (simp; omega)) (kset (by first | omega | (simp; done) | (simp; omega)) (kset (by first | omega | (simp; done) | (simp; omega)) h))) (And.imp (fun h => kset (by first | omega | (simp; done) | (simp; omega)) (kset (by first | omega | (simp; done) | (simp; omega)) (kset (by first | omega | (simp; done) | (simp; omega)) h))) (And.imp (fun h => kset (by first | omega | (simp; done) | (simp; omega)) (kset (by first | omega | (simp; done) | (simp; omega)) (kset (by first | omega | (simp; done) | (simp; omega)) h))) (And.imp (fun h => kset (by first | omega | (simp; done) | (simp; omega)) (kset (by first | omega | (simp; done) | (simp; omega)) (kset (by first | omega | (simp; done) | (simp; omega)) h))) ((fun h => kset (by first | omega | (simp; done) | (simp; omega)) (kset (by first | omega | (simp; done) | (simp; omega)) (kset (by first | omega | (simp; done) | (simp; omega)) h)))))))) (by with_reducible assumption) | with_reducible exact (And.imp (fun h => kset (by first | omega | (simp; done) | (simp; omega)) (kset (by first | omega | (simp; done) | (simp; omega)) h)) (And.imp (fun h => kset (by first | omega | (simp; done) | (simp; omega)) (kset (by first | omega | (simp; done) | (simp; omega)) h)) (And.imp (fun h => kset (by first | omega | (simp; done) | (simp; omega)) (kset (by first | omega | (simp; done) | (simp; omega)) h)) (And.imp (fun h => kset (by first | omega | (simp; done) | (simp; omega)) (kset (by first | omega | (simp; done) | (simp; omega)) h)) ((fun h => kset (by first | omega | (simp; done) | (simp; omega)) (kset (by first | omega | (simp; done) | (simp; omega)) h))))))) (by with_reducible assumption) | with_reducible exact (And.imp (fun h => kset (by first | omega | (simp; done) | (simp; omega)) h) (And.imp (fun h => kset (by first | omega | (simp; done) | (simp; omega)) h) (And.imp (fun h => kset (by first | omega | (simp; done) | (simp; omega)) h) (And.imp (fun h => kset (by first | omega | (simp; done) | (simp; omega)) h) ((fun h => kset (by first | omega | (simp; done) | (simp; omega)) h)))))) (by with_reducible assumption) | with_reducible exact (And.imp (fun h => kalloc _ (kset (by first | omega | (simp; done) | (simp; omega)) (kset (by first | omega | (simp; done) | (simp; omega)) (kback (by first | omega | (simp; done) | (simp; omega)) h)))) (And.imp (fun h => kalloc _ (kset (by first | omega | (simp; done) | (simp; omega)) (kset (by first | omega | (simp; done) | (simp; omega)) (kback (by first | omega | (simp; done) | (simp; omega)) h)))) (And.imp (fun h => kalloc _ (kset (by first | omega | (simp; done) | (simp; omega)) (kset (by first | omega | (simp; done) | (simp; omega)) (kback (by first | omega | (simp; done) | (simp; omega)) h)))) (And.imp (fun h => kalloc _ (kset (by first | omega | (simp; done) | (simp; omega)) (kset (by first | omega | (simp; done) | (simp; omega)) (kback (by first | omega | (simp; done) | (simp; omega)) h)))) ((fun h => kalloc _ (kset (by first | omega | (simp; done) | (simp; omega)) (kset (by first | omega | (simp; done) | (simp; omega)) (kback (by first | omega | (simp; done) | (simp; omega)) h))))))))) (by with_reducible assumption) | with_reducible exact (And.imp (fun h => kalloc _ (kset (by first | omega | (simp; done) | (simp; omega)) (kset (by first | omega | (simp; done) | (simp; omega)) (kset (by first | omega | (simp; done) | (simp; omega)) (kback (by first | omega | (simp; done) | (simp; omega)) h))))) (And.imp (fun h => kalloc _ (kset (by first | omega | (simp; done) | (simp; omega)) (kset (by first | omega | (simp; done) | (simp; omega)) (kset (by first | omega | (simp; done) | (simp; omega)) (kback (by first | omega | (simp; done) | (simp; omega)) h))))) (And.imp (fun h => kalloc _ (kset (by first | omega | (simp; done) | (simp; omega)) (kset (by first | omega | (simp; done) | (simp; omega)) (kset (by first | omega | (simp; done) | (simp; omega)) (kback (by first | omega | (simp; done) | (simp; omega)) h))))) (And.imp (fun h => kalloc _ (kset (by first | omega | (simp; done) | (simp; omega)) (kset (by first | omega | (simp; done) | (simp; omega)) (kset (by first | omega | (simp; done) | (simp; omega)) (kback (by first | omega | (simp; done) | (simp; omega)) h))))) ((fun h => kalloc _ (kset (by first | omega | (simp; done) | (simp; omega)) (kset (by first | omega | (simp; done) | (simp; omega)) (kset (by first | omega | (simp; done) | (simp; omega)) (kback (by first | omega | (simp; done) | (simp; omega)) h)))))))))) (by with_reducible assumption) | with_reducible exact (And.imp (fun h => kalloc _ (kalloc _ (kback (by first | omega | (simp; done) | (simp; omega)) (kback (by first | omega | (simp; done) | (simp; omega)) h)))) (And.imp (fun h => kalloc _ (kalloc _ (kback (by first | omega | (simp; done) | (simp; omega)) (kback (by first | omega | (simp; done) | (simp; omega)) h)))) (And.imp (fun h => kalloc _ (kalloc _ (kback (by first | omega | (simp; done) | (simp; omega)) (kback (by first | omega | (simp; done) | (simp; omega)) h)))) (And.imp (fun h => kalloc _ (kalloc _ (kback (by first | omega | (simp; done) | (simp; omega)) (kback (by first | omega | (simp; done) | (simp; omega)) h)))) ((fun h => kalloc _ (kalloc _ (kback (by first | omega | (simp; done) | (simp; omega)) (kback (by first | omega | (simp; done) | (simp; omega)) h))))))))) (by with_reducible assumption) | with_reducible exact (And.imp (fun h => kdrew (kalloc _ (kalloc _ (kback (by first | omega | (simp; done) | (simp; omega)) (kback (by first | omega | (simp; done) | (simp; omega)) (kundrew h)))))) (And.imp (fun h => kdrew (kalloc _ (kalloc _ (kback (by first | omega | (simp; done) | (simp; omega)) (kback (by first | omega | (simp; done) | (simp; omega)) (kundrew h)))))) (And.imp (fun h => kdrew (kalloc _ (kalloc _ (kback (by first | omega | (simp; done) | (simp; omega)) (kback (by first | omega | (simp; done) | (simp; omega)) (kundrew h)))))) (And.imp (fun h => kdrew (kalloc _ (kalloc _ (kback (by first | omega | (simp; done) | (simp; omega)) (kback (by first | omega | (simp; done) | (simp; omega)) (kundrew h)))))) ((fun h => kdrew (kalloc _ (kalloc _ (kback (by first | omega | (simp; done) | (simp; omega)) (kback (by first | omega | (simp; done) | (simp; omega)) (kundrew h))))))))))) (by with_reducible assumption) | (simp; done) | (refine ⟨?_, ?_, ?_, ?_, ?_⟩ <;> (refine kdrew ?_; repeat (first | exact kfresh (by first | rfl | (simp; done)) (by rfl) | refine kalloc _ ?_)); done))) (first | ((go_at_call 69; refine Calls.mono (specDir_any _ _ _ _ _ hp (by omega)) ?_; rintro e wq ⟨rfl, hB⟩; obtain ⟨hBc, hBf⟩ := bcell hB; have hBs := hB.size; (try simp at hBs); (try have hBq1 := Nat.lt_of_succ_le hBs); (try have hBq2 := Nat.lt_of_succ_lt hBq1); (try have hBq3 := Nat.lt_of_succ_lt hBq2); (try have hBzw0 : w.heap.size < wq.heap.size := (by omega)); (try have hBzw1 : w.heap.size + 1 < wq.heap.size := (by omega)); (try have hBzw2 : w.heap.size + 1 + 1 < wq.heap.size := (by omega)); (try have hBzw3 : w.heap.size + 1 + 1 + 1 < wq.heap.size := (by omega)); (try have hBzw4 : w.heap.size + 1 + 1 + 1 + 1 < wq.heap.size := (by omega))); have rb0 : wq.cell? ⟨w.heap.size + 1 + 1, 0, none⟩ = some (.int .i64 0) := (by repeat (first | with_reducible assumption | with_reducible refine kdrew ?_ | with_reducible refine kcall (by with_reducible assumption) ?_ | exact kfresh (by first | rfl | (simp; done)) (by rfl) | with_reducible refine kalloc _ ?_)); have rf0 : wq.frozen? ⟨w.heap.size + 1 + 1, 0, none⟩ = false := (by repeat (first | with_reducible assumption | with_reducible refine fdrew ?_ | with_reducible refine kfro (by with_reducible assumption) (by first | with_reducible assumption | (simp; done) | (simp; omega) | (simp; assumption)) ?_ | exact fallocNew (by first | rfl | (simp; done)) | with_reducible refine falloc (by first | with_reducible assumption | (simp; done) | (simp; omega) | (simp; assumption)) ?_)); have rb1 : wq.cell? ⟨w.heap.size + 1 + 1, 1, none⟩ = some (.int .i64 0) := (by repeat (first | with_reducible assumption | with_reducible refine kdrew ?_ | with_reducible refine kcall (by with_reducible assumption) ?_ | exact kfresh (by first | rfl | (simp; done)) (by rfl) | with_reducible refine kalloc _ ?_)); have rf1 : wq.frozen? ⟨w.heap.size + 1 + 1, 1, none⟩ = false := (by repeat (first | with_reducible assumption | with_reducible refine fdrew ?_ | with_reducible refine kfro (by with_reducible assumption) (by first | with_reducible assumption | (simp; done) | (simp; omega) | (simp; assumption)) ?_ | exact fallocNew (by first | rfl | (simp; done)) | with_reducible refine falloc (by first | with_reducible assumption | (simp; done) | (simp; omega) | (simp; assumption)) ?_)); have rb2 : wq.cell? ⟨w.heap.size + 1 + 1, 2, none⟩ = some (.int .i64 0) := (by repeat (first | with_reducible assumption | with_reducible refine kdrew ?_ | with_reducible refine kcall (by with_reducible assumption) ?_ | exact kfresh (by first | rfl | (simp; done)) (by rfl) | with_reducible refine kalloc _ ?_)); have rf2 : wq.frozen? ⟨w.heap.size + 1 + 1, 2, none⟩ = false := (by repeat (first | with_reducible assumption | with_reducible refine fdrew ?_ | with_reducible refine kfro (by with_reducible assumption) (by first | with_reducible assumption | (simp; done) | (simp; omega) | (simp; assumption)) ?_ | exact fallocNew (by first | rfl | (simp; done)) | with_reducible refine falloc (by first | with_reducible assumption | (simp; done) | (simp; omega) | (simp; assumption)) ?_)); clear hBc hBf) | ((go_at_call 68; refine Calls.mono (specTL_any _ _ _ _ _ _ _ hp hc (by omega) (by omega) (by omega) (by omega)) ?_; rintro e wq ⟨rfl, hB⟩; obtain ⟨hBc, hBf⟩ := bcell hB; have hBs := hB.size; (try simp at hBs); (try have hBq1 := Nat.lt_of_succ_le hBs); (try have hBq2 := Nat.lt_of_succ_lt hBq1); (try have hBq3 := Nat.lt_of_succ_lt hBq2); (try have hBzw0 : w.heap.size < wq.heap.size := (by omega)); (try have hBzw1 : w.heap.size + 1 < wq.heap.size := (by omega)); (try have hBzw2 : w.heap.size + 1 + 1 < wq.heap.size := (by omega)); (try have hBzw3 : w.heap.size + 1 + 1 + 1 < wq.heap.size := (by omega)); (try have hBzw4 : w.heap.size + 1 + 1 + 1 + 1 < wq.heap.size := (by omega))); have rb0 : wq.cell? ⟨w.heap.size + 1 + 1, 0, none⟩ = some (.int .i64 0) := (by repeat (first | with_reducible assumption | with_reducible refine kdrew ?_ | with_reducible refine kcall (by with_reducible assumption) ?_ | exact kfresh (by first | rfl | (simp; done)) (by rfl) | with_reducible refine kalloc _ ?_)); have rf0 : wq.frozen? ⟨w.heap.size + 1 + 1, 0, none⟩ = false := (by repeat (first | with_reducible assumption | with_reducible refine fdrew ?_ | with_reducible refine kfro (by with_reducible assumption) (by first | with_reducible assumption | (simp; done) | (simp; omega) | (simp; assumption)) ?_ | exact fallocNew (by first | rfl | (simp; done)) | with_reducible refine falloc (by first | with_reducible assumption | (simp; done) | (simp; omega) | (simp; assumption)) ?_)); have rb1 : wq.cell? ⟨w.heap.size + 1 + 1, 1, none⟩ = some (.int .i64 0) := (by repeat (first | with_reducible assumption | with_reducible refine kdrew ?_ | with_reducible refine kcall (by with_reducible assumption) ?_ | exact kfresh (by first | rfl | (simp; done)) (by rfl) | with_reducible refine kalloc _ ?_)); have rf1 : wq.frozen? ⟨w.heap.size + 1 + 1, 1, none⟩ = false := (by repeat (first | with_reducible assumption | with_reducible refine fdrew ?_ | with_reducible refine kfro (by with_reducible assumption) (by first | with_reducible assumption | (simp; done) | (simp; omega) | (simp; assumption)) ?_ | exact fallocNew (by first | rfl | (simp; done)) | with_reducible refine falloc (by first | with_reducible assumption | (simp; done) | (simp; omega) | (simp; assumption)) ?_)); have rb2 : wq.cell? ⟨w.heap.size + 1 + 1, 2, none⟩ = some (.int .i64 0) := (by repeat (first | with_reducible assumption | with_reducible refine kdrew ?_ | with_reducible refine kcall (by with_reducible assumption) ?_ | exact kfresh (by first | rfl | (simp; done)) (by rfl) | with_reducible refine kalloc _ ?_)); have rf2 : wq.frozen? ⟨w.heap.size + 1 + 1, 2, none⟩ = false := (by repeat (first | with_reducible assumption | with_reducible refine fdrew ?_ | with_reducible refine kfro (by with_reducible assumption) (by first | with_reducible assumption | (simp; done) | (simp; omega) | (simp; assumption)) ?_ | exact fallocNew (by first | rfl | (simp; done)) | with_reducible refine falloc (by first | with_reducible assumption | (simp; done) | (simp; omega) | (simp; assumption)) ?_)); clear hBc hBf))
    all_goals
      go_wp2
      (refine bodyPost_ret (v := ptR p col l1 l2 l3 a1 a2) (by simp [results, Try.results30, go_sem, HV.out.1, HV.out.2.1, HV.out.2.2.1, HV.out.2.2.2, pt1, pt2, pt3, *]) rfl ⟨?_, ?_⟩)
      · rfl
      · (repeat (first | exact Below.refl _ _ | refine balloc ?_ _ | refine bdrewN ?_ _ | refine Below.drew ?_ | exact hW | refine bthen ?_ (by with_reducible assumption) | refine Below.setCell ?_ (by first | (simp; done) | (simp; omega)) _))
  · have HV := Lib.hid (pt_err h0 (by omega))
    rw [Bool.and_comm] at h0
    have g0 := code_split_1 h0
    go_enter Try.func30, Try.ntmps30
    (go_wp2_with fail; refine Calls.mono (both_any _ _ _ _ _ _ _) ?_; rintro e w1 ⟨rfl, hB1⟩; obtain ⟨hB1c, hB1f⟩ := bcell hB1; have hB1s := hB1.size; (try simp at hB1s); (try have hB1q1 := Nat.lt_of_succ_le hB1s); (try have hB1q2 := Nat.lt_of_succ_lt hB1q1); (try have hB1q3 := Nat.lt_of_succ_lt hB1q2); (try have hB1zw0 : w.heap.size < w1.heap.size := (by omega)); (try have hB1zw1 : w.heap.size + 1 < w1.heap.size := (by omega)); (try have hB1zw2 : w.heap.size + 1 + 1 < w1.heap.size := (by omega)); (try have hB1zw3 : w.heap.size + 1 + 1 + 1 < w1.heap.size := (by omega)); (try have hB1zw4 : w.heap.size + 1 + 1 + 1 + 1 < w1.heap.size := (by omega)))
    go_wp2
    (refine bodyPost_ret (v := ptR p col l1 l2 l3 a1 a2) (by simp [results, Try.results30, go_sem, HV.out.1, HV.out.2.1, HV.out.2.2.1, HV.out.2.2.2, *]) rfl ⟨?_, ?_⟩)
    · rfl
    · (repeat (first | exact Below.refl _ _ | refine balloc ?_ _ | refine bdrewN ?_ _ | refine Below.drew ?_ | refine bthen ?_ hB1 | refine Below.setCell ?_ (by first | (simp; done) | (simp; omega)) _))
  · have HV := Lib.hid (pt_err h0 (by omega))
    rw [Bool.and_comm] at h0
    rcases code_split_2 h0 with ⟨_, g0, -, hc, -⟩ | g0
    · go_enter Try.func30, Try.ntmps30
      (go_wp2_with fail; refine Calls.mono (both_any _ _ _ _ _ _ _) ?_; rintro e w1 ⟨rfl, hB1⟩; obtain ⟨hB1c, hB1f⟩ := bcell hB1; have hB1s := hB1.size; (try simp at hB1s); (try have hB1q1 := Nat.lt_of_succ_le hB1s); (try have hB1q2 := Nat.lt_of_succ_lt hB1q1); (try have hB1q3 := Nat.lt_of_succ_lt hB1q2); (try have hB1zw0 : w.heap.size < w1.heap.size := (by omega)); (try have hB1zw1 : w.heap.size + 1 < w1.heap.size := (by omega)); (try have hB1zw2 : w.heap.size + 1 + 1 < w1.heap.size := (by omega)); (try have hB1zw3 : w.heap.size + 1 + 1 + 1 < w1.heap.size := (by omega)); (try have hB1zw4 : w.heap.size + 1 + 1 + 1 + 1 < w1.heap.size := (by omega)))
      (go_wp2_with fail; refine Calls.mono (specColour_any _ _) ?_; rintro e w' ⟨rfl, rfl⟩)
      go_wp2
      (refine bodyPost_ret (v := ptR p col l1 l2 l3 a1 a2) (by simp [results, Try.results30, go_sem, HV.out.1, HV.out.2.1, HV.out.2.2.1, HV.out.2.2.2, *]) rfl ⟨?_, ?_⟩)
      · rfl
      · (repeat (first | exact Below.refl _ _ | refine balloc ?_ _ | refine bdrewN ?_ _ | refine Below.drew ?_ | refine bthen ?_ hB1 | refine Below.setCell ?_ (by first | (simp; done) | (simp; omega)) _))
    · go_enter Try.func30, Try.ntmps30
      (go_wp2_with fail; refine Calls.mono (both_any _ _ _ _ _ _ _) ?_; rintro e w1 ⟨rfl, hB1⟩; obtain ⟨hB1c, hB1f⟩ := bcell hB1; have hB1s := hB1.size; (try simp at hB1s); (try have hB1q1 := Nat.lt_of_succ_le hB1s); (try have hB1q2 := Nat.lt_of_succ_lt hB1q1); (try have hB1q3 := Nat.lt_of_succ_lt hB1q2); (try have hB1zw0 : w.heap.size < w1.heap.size := (by omega)); (try have hB1zw1 : w.heap.size + 1 < w1.heap.size := (by omega)); (try have hB1zw2 : w.heap.size + 1 + 1 < w1.heap.size := (by omega)); (try have hB1zw3 : w.heap.size + 1 + 1 + 1 < w1.heap.size := (by omega)); (try have hB1zw4 : w.heap.size + 1 + 1 + 1 + 1 < w1.heap.size := (by omega)))
      go_wp2
      (refine bodyPost_ret (v := ptR p col l1 l2 l3 a1 a2) (by simp [results, Try.results30, go_sem, HV.out.1, HV.out.2.1, HV.out.2.2.1, HV.out.2.2.2, *]) rfl ⟨?_, ?_⟩)
      · rfl
      · (repeat (first | exact Below.refl _ _ | refine balloc ?_ _ | refine bdrewN ?_ _ | refine Below.drew ?_ | refine bthen ?_ hB1 | refine Below.setCell ?_ (by first | (simp; done) | (simp; omega)) _))

set_option maxRecDepth 20000 in
set_option maxHeartbeats 2000000 in
theorem implPerpendicularThrough_any (p col l1 l2 l3 a1 a2 : Int) (w : World) :
    Calls Try.prog 31 #[.int .i64 p, .int .i64 col, .agg #[.int .i64 l1, .int .i64 l2, .int .i64 l3], .agg #[.int .i64 a1, .int .i64 a2]] w fun e w' => e = .returned (ptR p col l1 l2 l3 a1 a2) ∧ Below w.heap.size w w' := by
  rcases code_cases p (colB col && (numsIn p [a1, a2] && lineB p l1 l2 l3)) with ⟨h0, hp, hn⟩ | h0 | h0
  · have hr := isP_range hp
    obtain ⟨hc, hn⟩ := Bool.and_eq_true_iff.1 hn
    have hcr := colB_range hc
    have hx := Bool.and_eq_true_iff.1 hn
    have hq := nums2 hx.1
    have hl := nums3 (lineB_in hx.2).2
    obtain ⟨hA, hL⟩ := hx
    have hd := modR (-l2) hp
    have g0 := (code_col_T hc).symm.trans h0
    have gT : codeOf p true = 0 := codeOf_in hp rfl
    have HV := Lib.hid (pt_good h0)
    clear hn
    go_enter Try.func31, Try.ntmps31
    (go_wp2_with fail; refine Calls.mono (isColour_any _ _) ?_; rintro e w' ⟨rfl, rfl⟩)
    (go_wp2_with fail; refine Calls.mono (implLines1 _ _ _ _ _ _ (by first | rfl | (simp; done))) ?_; rintro e w0 ⟨rfl, hB0⟩; obtain ⟨hB0c, hB0f⟩ := bcell hB0; have hB0s := hB0.size; (try simp at hB0s); (try have hB0q1 := Nat.lt_of_succ_le hB0s); (try have hB0q2 := Nat.lt_of_succ_lt hB0q1); (try have hB0q3 := Nat.lt_of_succ_lt hB0q2); (try have hB0zw0 : w.heap.size < w0.heap.size := (by omega)); (try have hB0zw1 : w.heap.size + 1 < w0.heap.size := (by omega)); (try have hB0zw2 : w.heap.size + 1 + 1 < w0.heap.size := (by omega)); (try have hB0zw3 : w.heap.size + 1 + 1 + 1 < w0.heap.size := (by omega)); (try have hB0zw4 : w.heap.size + 1 + 1 + 1 + 1 < w0.heap.size := (by omega)))
    (go_wp2_with fail; refine Calls.mono (implPoints1 _ _ _ _ _ (by first | rfl | (simp; done))) ?_; rintro e w1 ⟨rfl, hB1⟩; obtain ⟨hB1c, hB1f⟩ := bcell hB1; have hB1s := hB1.size; (try simp at hB1s); (try have hB1q1 := Nat.lt_of_succ_le hB1s); (try have hB1q2 := Nat.lt_of_succ_lt hB1q1); (try have hB1q3 := Nat.lt_of_succ_lt hB1q2); (try have hB1zw0 : w.heap.size < w1.heap.size := (by omega)); (try have hB1zw1 : w.heap.size + 1 < w1.heap.size := (by omega)); (try have hB1zw2 : w.heap.size + 1 + 1 < w1.heap.size := (by omega)); (try have hB1zw3 : w.heap.size + 1 + 1 + 1 < w1.heap.size := (by omega)); (try have hB1zw4 : w.heap.size + 1 + 1 + 1 + 1 < w1.heap.size := (by omega)); (try have hB1zw00 : w0.heap.size < w1.heap.size := (by omega)); (try have hB1zw01 : w0.heap.size + 1 < w1.heap.size := (by omega)); (try have hB1zw02 : w0.heap.size + 1 + 1 < w1.heap.size := (by omega)); (try have hB1zw03 : w0.heap.size + 1 + 1 + 1 < w1.heap.size := (by omega)); (try have hB1zw04 : w0.heap.size + 1 + 1 + 1 + 1 < w1.heap.size := (by omega)))
    (go_wp2_with fail; refine Calls.mono (codeFor_any _ _ _) ?_; rintro e w' ⟨rfl, rfl⟩)
    (go_wp2_with fail; refine Calls.mono (implTL_any _ _ _ _ _ _ _ _ hp hc (by omega) (by omega) (by omega) (by omega)) ?_; rintro e w2 ⟨rfl, hB2⟩; obtain ⟨hB2c, hB2f⟩ := bcell hB2; have hB2s := hB2.size; (try simp at hB2s); (try have hB2q1 := Nat.lt_of_succ_le hB2s); (try have hB2q2 := Nat.lt_of_succ_lt hB2q1); (try have hB2q3 := Nat.lt_of_succ_lt hB2q2); (try have hB2zw0 : w.heap.size < w2.heap.size := (by omega)); (try have hB2zw1 : w.heap.size + 1 < w2.heap.size := (by omega)); (try have hB2zw2 : w.heap.size + 1 + 1 < w2.heap.size := (by omega)); (try have hB2zw3 : w.heap.size + 1 + 1 + 1 < w2.heap.size := (by omega)); (try have hB2zw4 : w.heap.size + 1 + 1 + 1 + 1 < w2.heap.size := (by omega)); (try have hB2zw10 : w1.heap.size < w2.heap.size := (by omega)); (try have hB2zw11 : w1.heap.size + 1 < w2.heap.size := (by omega)); (try have hB2zw12 : w1.heap.size + 1 + 1 < w2.heap.size := (by omega)); (try have hB2zw13 : w1.heap.size + 1 + 1 + 1 < w2.heap.size := (by omega)); (try have hB2zw14 : w1.heap.size + 1 + 1 + 1 + 1 < w2.heap.size := (by omega)); (try have hB2zw00 : w0.heap.size < w2.heap.size := (by omega)); (try have hB2zw01 : w0.heap.size + 1 < w2.heap.size := (by omega)); (try have hB2zw02 : w0.heap.size + 1 + 1 < w2.heap.size := (by omega)); (try have hB2zw03 : w0.heap.size + 1 + 1 + 1 < w2.heap.size := (by omega)); (try have hB2zw04 : w0.heap.size + 1 + 1 + 1 + 1 < w2.heap.size := (by omega)))
    go_wp2
    (refine bodyPost_ret (v := ptR p col l1 l2 l3 a1 a2) (by simp [results, Try.results31, go_sem, HV.out.1, HV.out.2.1, HV.out.2.2.1, HV.out.2.2.2, *]) rfl ⟨?_, ?_⟩)
    · rfl
    · (repeat (first | exact Below.refl _ _ | refine balloc ?_ _ | refine bdrewN ?_ _ | refine Below.drew ?_ | refine bthen ?_ hB0 | refine bthen ?_ hB1 | refine bthen ?_ hB2 | refine Below.setCell ?_ (by first | (simp; done) | (simp; omega)) _))
  all_goals
    have HV := Lib.hid (pt_err h0 (by omega))
    cases hc : colB col
    · rw [code_col_F hc] at h0
      go_enter Try.func31, Try.ntmps31
      (go_wp2_with fail; refine Calls.mono (isColour_any _ _) ?_; rintro e w' ⟨rfl, rfl⟩)
      (go_wp2_with fail; refine Calls.mono (codeFor_any _ _ _) ?_; rintro e w' ⟨rfl, rfl⟩)
      go_wp2
      (refine bodyPost_ret (v := ptR p col l1 l2 l3 a1 a2) (by simp [results, Try.results31, go_sem, HV.out.1, HV.out.2.1, HV.out.2.2.1, HV.out.2.2.2, *]) rfl ⟨?_, ?_⟩)
      · rfl
      · (repeat (first | exact Below.refl _ _ | refine balloc ?_ _ | refine bdrewN ?_ _ | refine Below.drew ?_ | refine Below.setCell ?_ (by first | (simp; done) | (simp; omega)) _))
    · rw [code_col_T hc] at h0
      cases hL : lineB p l1 l2 l3
      · rw [hL, Bool.and_false] at h0
        go_enter Try.func31, Try.ntmps31
        (go_wp2_with fail; refine Calls.mono (isColour_any _ _) ?_; rintro e w' ⟨rfl, rfl⟩)
        (go_wp2_with fail; refine Calls.mono (implLines1 _ _ _ _ _ _ (by first | rfl | (simp; done))) ?_; rintro e w0 ⟨rfl, hB0⟩; obtain ⟨hB0c, hB0f⟩ := bcell hB0; have hB0s := hB0.size; (try simp at hB0s); (try have hB0q1 := Nat.lt_of_succ_le hB0s); (try have hB0q2 := Nat.lt_of_succ_lt hB0q1); (try have hB0q3 := Nat.lt_of_succ_lt hB0q2); (try have hB0zw0 : w.heap.size < w0.heap.size := (by omega)); (try have hB0zw1 : w.heap.size + 1 < w0.heap.size := (by omega)); (try have hB0zw2 : w.heap.size + 1 + 1 < w0.heap.size := (by omega)); (try have hB0zw3 : w.heap.size + 1 + 1 + 1 < w0.heap.size := (by omega)); (try have hB0zw4 : w.heap.size + 1 + 1 + 1 + 1 < w0.heap.size := (by omega)))
        (go_wp2_with fail; refine Calls.mono (codeFor_any _ _ _) ?_; rintro e w' ⟨rfl, rfl⟩)
        go_wp2
        (refine bodyPost_ret (v := ptR p col l1 l2 l3 a1 a2) (by simp [results, Try.results31, go_sem, HV.out.1, HV.out.2.1, HV.out.2.2.1, HV.out.2.2.2, *]) rfl ⟨?_, ?_⟩)
        · rfl
        · (repeat (first | exact Below.refl _ _ | refine balloc ?_ _ | refine bdrewN ?_ _ | refine Below.drew ?_ | refine bthen ?_ hB0 | refine Below.setCell ?_ (by first | (simp; done) | (simp; omega)) _))
      · rw [hL, Bool.and_true] at h0
        go_enter Try.func31, Try.ntmps31
        (go_wp2_with fail; refine Calls.mono (isColour_any _ _) ?_; rintro e w' ⟨rfl, rfl⟩)
        (go_wp2_with fail; refine Calls.mono (implLines1 _ _ _ _ _ _ (by first | rfl | (simp; done))) ?_; rintro e w0 ⟨rfl, hB0⟩; obtain ⟨hB0c, hB0f⟩ := bcell hB0; have hB0s := hB0.size; (try simp at hB0s); (try have hB0q1 := Nat.lt_of_succ_le hB0s); (try have hB0q2 := Nat.lt_of_succ_lt hB0q1); (try have hB0q3 := Nat.lt_of_succ_lt hB0q2); (try have hB0zw0 : w.heap.size < w0.heap.size := (by omega)); (try have hB0zw1 : w.heap.size + 1 < w0.heap.size := (by omega)); (try have hB0zw2 : w.heap.size + 1 + 1 < w0.heap.size := (by omega)); (try have hB0zw3 : w.heap.size + 1 + 1 + 1 < w0.heap.size := (by omega)); (try have hB0zw4 : w.heap.size + 1 + 1 + 1 + 1 < w0.heap.size := (by omega)))
        (go_wp2_with fail; refine Calls.mono (implPoints1 _ _ _ _ _ (by first | rfl | (simp; done))) ?_; rintro e w1 ⟨rfl, hB1⟩; obtain ⟨hB1c, hB1f⟩ := bcell hB1; have hB1s := hB1.size; (try simp at hB1s); (try have hB1q1 := Nat.lt_of_succ_le hB1s); (try have hB1q2 := Nat.lt_of_succ_lt hB1q1); (try have hB1q3 := Nat.lt_of_succ_lt hB1q2); (try have hB1zw0 : w.heap.size < w1.heap.size := (by omega)); (try have hB1zw1 : w.heap.size + 1 < w1.heap.size := (by omega)); (try have hB1zw2 : w.heap.size + 1 + 1 < w1.heap.size := (by omega)); (try have hB1zw3 : w.heap.size + 1 + 1 + 1 < w1.heap.size := (by omega)); (try have hB1zw4 : w.heap.size + 1 + 1 + 1 + 1 < w1.heap.size := (by omega)); (try have hB1zw00 : w0.heap.size < w1.heap.size := (by omega)); (try have hB1zw01 : w0.heap.size + 1 < w1.heap.size := (by omega)); (try have hB1zw02 : w0.heap.size + 1 + 1 < w1.heap.size := (by omega)); (try have hB1zw03 : w0.heap.size + 1 + 1 + 1 < w1.heap.size := (by omega)); (try have hB1zw04 : w0.heap.size + 1 + 1 + 1 + 1 < w1.heap.size := (by omega)))
        (go_wp2_with fail; refine Calls.mono (codeFor_any _ _ _) ?_; rintro e w' ⟨rfl, rfl⟩)
        go_wp2
        (refine bodyPost_ret (v := ptR p col l1 l2 l3 a1 a2) (by simp [results, Try.results31, go_sem, HV.out.1, HV.out.2.1, HV.out.2.2.1, HV.out.2.2.2, *]) rfl ⟨?_, ?_⟩)
        · rfl
        · (repeat (first | exact Below.refl _ _ | refine balloc ?_ _ | refine bdrewN ?_ _ | refine Below.drew ?_ | refine bthen ?_ hB0 | refine bthen ?_ hB1 | refine Below.setCell ?_ (by first | (simp; done) | (simp; omega)) _))

end Go.Proofs.Ytacnlfdbpooleaa
