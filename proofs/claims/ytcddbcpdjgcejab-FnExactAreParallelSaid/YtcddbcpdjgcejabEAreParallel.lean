/-
  AreParallel: the program's and the model's.
-/
import Derived.Test.YtcddbcpdjgcejabCode
import Derived.Test.YtcddbcpdjgcejabSpecLins
import Derived.Test.YtcddbcpdjgcejabImplLins
import Derived.Test.YtcddbcpdjgcejabImplSlope
import Derived.Test.YtcddbcpdjgcejabArrEqPair
import Derived.Test.YtcddbcpdjgcejabArrLine
import Derived.Deep.RegionHeld3
import Derived.Deep.DeepCutAuto
namespace Go.Proofs.Ytcddbcpdjgcejab
open Go.RowKit

def apC (p l1 l2 l3 m1 m2 m3 : Int) : Int := codeOf p (lineB p l1 l2 l3 && lineB p m1 m2 m3)
def apB (l1 l2 m1 m2 : Int) : Bool := l1 == m1 && l2 == m2
def apV (p l1 l2 l3 m1 m2 m3 : Int) : Bool := if apC p l1 l2 l3 m1 m2 m3 = 0 then apB l1 l2 m1 m2 else false

set_option maxHeartbeats 1000000 in
theorem specAreParallel_any (p l1 l2 l3 m1 m2 m3 : Int) (w : World) :
    Calls Try.prog 23 #[.int .i64 p, .agg #[.int .i64 l1, .int .i64 l2, .int .i64 l3], .agg #[.int .i64 m1, .int .i64 m2, .int .i64 m3]] w fun e w' => e = .returned (.tuple #[.bool (apV p l1 l2 l3 m1 m2 m3), .int .i64 (apC p l1 l2 l3 m1 m2 m3)]) ∧ Below w.heap.size w w' := by
  rcases code_cases p (lineB p l1 l2 l3 && lineB p m1 m2 m3) with ⟨h0, hp, hn⟩ | h0 | h0
  · clear hn
    have HV := Lib.hid (show apC p l1 l2 l3 m1 m2 m3 = 0 ∧ apV p l1 l2 l3 m1 m2 m3 = (l1 == m1 && l2 == m2) by simp [apC, apV, apB, h0])
    cases h1 : (l1 == m1)
    · rw [h1] at HV
      go_enter Try.func23, Try.ntmps23
      (go_wp2_with fail; refine Calls.mono (specLines2 _ _ _ _ _ _ _ _ _ (by simp)) ?_; rintro e w1 ⟨rfl, hB1⟩; obtain ⟨hB1c, hB1f⟩ := bcell hB1; have hB1s := hB1.size; (try simp at hB1s); (try have hB1q1 := Nat.lt_of_succ_le hB1s); (try have hB1q2 := Nat.lt_of_succ_lt hB1q1); (try have hB1q3 := Nat.lt_of_succ_lt hB1q2); (try have hB1zw0 : w.heap.size < w1.heap.size := (by omega)); (try have hB1zw1 : w.heap.size + 1 < w1.heap.size := (by omega)); (try have hB1zw2 : w.heap.size + 1 + 1 < w1.heap.size := (by omega)))
      go_wp2
      go_ret2
      exact ⟨ret_bi HV.out.2.symm HV.out.1.symm, by (repeat (first | exact Below.refl _ _ | refine balloc ?_ _ | refine bdrewN ?_ _ | refine Below.drew ?_ | refine bthen ?_ hB1 | refine Below.setCell ?_ (by first | (simp; done) | (simp; omega)) _))⟩
    · cases h2 : (l2 == m2)
      all_goals
        rw [h1, h2] at HV
        go_enter Try.func23, Try.ntmps23
        (go_wp2_with fail; refine Calls.mono (specLines2 _ _ _ _ _ _ _ _ _ (by simp)) ?_; rintro e w1 ⟨rfl, hB1⟩; obtain ⟨hB1c, hB1f⟩ := bcell hB1; have hB1s := hB1.size; (try simp at hB1s); (try have hB1q1 := Nat.lt_of_succ_le hB1s); (try have hB1q2 := Nat.lt_of_succ_lt hB1q1); (try have hB1q3 := Nat.lt_of_succ_lt hB1q2); (try have hB1zw0 : w.heap.size < w1.heap.size := (by omega)); (try have hB1zw1 : w.heap.size + 1 < w1.heap.size := (by omega)); (try have hB1zw2 : w.heap.size + 1 + 1 < w1.heap.size := (by omega)))
        go_wp2
        go_ret2
        exact ⟨ret_bi HV.out.2.symm HV.out.1.symm, by (repeat (first | exact Below.refl _ _ | refine balloc ?_ _ | refine bdrewN ?_ _ | refine Below.drew ?_ | refine bthen ?_ hB1 | refine Below.setCell ?_ (by first | (simp; done) | (simp; omega)) _))⟩
  all_goals
    have HV := Lib.hid (show apC p l1 l2 l3 m1 m2 m3 = _ ∧ apV p l1 l2 l3 m1 m2 m3 = false from ⟨h0, by simp [apC, apV, h0]⟩)
    go_enter Try.func23, Try.ntmps23
    (go_wp2_with fail; refine Calls.mono (specLines2 _ _ _ _ _ _ _ _ _ (by simp)) ?_; rintro e w1 ⟨rfl, hB1⟩; obtain ⟨hB1c, hB1f⟩ := bcell hB1; have hB1s := hB1.size; (try simp at hB1s); (try have hB1q1 := Nat.lt_of_succ_le hB1s); (try have hB1q2 := Nat.lt_of_succ_lt hB1q1); (try have hB1q3 := Nat.lt_of_succ_lt hB1q2); (try have hB1zw0 : w.heap.size < w1.heap.size := (by omega)); (try have hB1zw1 : w.heap.size + 1 < w1.heap.size := (by omega)); (try have hB1zw2 : w.heap.size + 1 + 1 < w1.heap.size := (by omega)))
    go_wp2
    go_ret2
    exact ⟨ret_bi HV.out.2.symm HV.out.1.symm, by (repeat (first | exact Below.refl _ _ | refine balloc ?_ _ | refine bdrewN ?_ _ | refine Below.drew ?_ | refine bthen ?_ hB1 | refine Below.setCell ?_ (by first | (simp; done) | (simp; omega)) _))⟩

set_option maxHeartbeats 2000000 in
theorem implAreParallel_any (p l1 l2 l3 m1 m2 m3 : Int) (w : World) :
    Calls Try.prog 24 #[.int .i64 p, .agg #[.int .i64 l1, .int .i64 l2, .int .i64 l3], .agg #[.int .i64 m1, .int .i64 m2, .int .i64 m3]] w fun e w' => e = .returned (.tuple #[.bool (apV p l1 l2 l3 m1 m2 m3), .int .i64 (apC p l1 l2 l3 m1 m2 m3)]) ∧ Below w.heap.size w w' := by
  have heq := equalPair
  rcases code_cases p (lineB p l1 l2 l3 && lineB p m1 m2 m3) with ⟨h0, hp, hn⟩ | h0 | h0
  · clear hn
    have HV := Lib.hid (show apC p l1 l2 l3 m1 m2 m3 = 0 ∧ apV p l1 l2 l3 m1 m2 m3 = (l1 == m1 && l2 == m2) by simp [apC, apV, apB, h0])
    go_enter Try.func24, Try.ntmps24
    (go_wp2_with fail; refine Calls.mono (implLines2 _ _ _ _ _ _ _ _ _ (by simp)) ?_; rintro e w1 ⟨rfl, hB1⟩; obtain ⟨hB1c, hB1f⟩ := bcell hB1; have hB1s := hB1.size; (try simp at hB1s); (try have hB1q1 := Nat.lt_of_succ_le hB1s); (try have hB1q2 := Nat.lt_of_succ_lt hB1q1); (try have hB1q3 := Nat.lt_of_succ_lt hB1q2); (try have hB1zw0 : w.heap.size < w1.heap.size := (by omega)); (try have hB1zw1 : w.heap.size + 1 < w1.heap.size := (by omega)); (try have hB1zw2 : w.heap.size + 1 + 1 < w1.heap.size := (by omega)))
    (go_wp2_with fail; refine Calls.mono (codeFor_any _ _ _) ?_; rintro e w' ⟨rfl, rfl⟩)
    go_wp2_with fail
    have b0 : w1.cell? ⟨w.heap.size, 0, none⟩ = some (.int .i64 l1) := by first | exact kcall hB1 (by simp) | simp [*]
    have b1 : w1.cell? ⟨w.heap.size, 1, none⟩ = some (.int .i64 l2) := by first | exact kcall hB1 (by simp) | simp [*]
    have b2 : w1.cell? ⟨w.heap.size, 2, none⟩ = some (.int .i64 l3) := by first | exact kcall hB1 (by simp) | simp [*]
    have b3 : w1.cell? ⟨w.heap.size + 1, 0, none⟩ = some (.int .i64 m1) := by first | exact kcall hB1 (by simp) | simp [*]
    have b4 : w1.cell? ⟨w.heap.size + 1, 1, none⟩ = some (.int .i64 m2) := by first | exact kcall hB1 (by simp) | simp [*]
    have b5 : w1.cell? ⟨w.heap.size + 1, 2, none⟩ = some (.int .i64 m3) := by first | exact kcall hB1 (by simp) | simp [*]
    have hW : Below w.heap.size w w1 := by (repeat (first | exact Below.refl _ _ | refine balloc ?_ _ | refine bdrewN ?_ _ | refine Below.drew ?_ | refine bthen ?_ hB1 | refine Below.setCell ?_ (by first | (simp; done) | (simp; omega)) _))
    go_region_held3 (fun W => W.cell? ⟨w.heap.size, 0, none⟩ = some (.int .i64 l1) ∧ W.cell? ⟨w.heap.size, 1, none⟩ = some (.int .i64 l2) ∧ W.cell? ⟨w.heap.size, 2, none⟩ = some (.int .i64 l3) ∧ W.cell? ⟨w.heap.size + 1, 0, none⟩ = some (.int .i64 m1) ∧ W.cell? ⟨w.heap.size + 1, 1, none⟩ = some (.int .i64 m2) ∧ W.cell? ⟨w.heap.size + 1, 2, none⟩ = some (.int .i64 m3))
      (first | exact ⟨b0, b1, b2, b3, b4, b5⟩ | (first | with_reducible assumption | with_reducible exact (And.imp (kcall hB) (And.imp (kcall hB) (And.imp (kcall hB) (And.imp (kcall hB) (And.imp (kcall hB) ((kcall hB))))))) (by with_reducible assumption) | with_reducible exact (And.imp (kalloc _) (And.imp (kalloc _) (And.imp (kalloc _) (And.imp (kalloc _) (And.imp (kalloc _) ((kalloc _))))))) (by with_reducible assumption) | with_reducible exact (And.imp (krealloc (by first | omega | (simp; done) | (simp; omega))) (And.imp (krealloc (by first | omega | (simp; done) | (simp; omega))) (And.imp (krealloc (by first | omega | (simp; done) | (simp; omega))) (And.imp (krealloc (by first | omega | (simp; done) | (simp; omega))) (And.imp (krealloc (by first | omega | (simp; done) | (simp; omega))) ((krealloc (by first | omega | (simp; done) | (simp; omega))))))))) (by with_reducible assumption) | with_reducible exact (And.imp (fun h => kdrew (kalloc _ (kundrew h))) (And.imp (fun h => kdrew (kalloc _ (kundrew h))) (And.imp (fun h => kdrew (kalloc _ (kundrew h))) (And.imp (fun h => kdrew (kalloc _ (kundrew h))) (And.imp (fun h => kdrew (kalloc _ (kundrew h))) ((fun h => kdrew (kalloc _ (kundrew h))))))))) (by with_reducible assumption) | with_reducible exact (And.imp (fun h => kdrew (krealloc (by first | omega | (simp; done) | (simp; omega)) (kundrew h))) (And.imp (fun h => kdrew (krealloc (by first | omega | (simp; done) | (simp; omega)) (kundrew h))) (And.imp (fun h => kdrew (krealloc (by first | omega | (simp; done) | (simp; omega)) (kundrew h))) (And.imp (fun h => kdrew (krealloc (by first | omega | (simp; done) | (simp; omega)) (kundrew h))) (And.imp (fun h => kdrew (krealloc (by first | omega | (simp; done) | (simp; omega)) (kundrew h))) ((fun h => kdrew (krealloc (by first | omega | (simp; done) | (simp; omega)) (kundrew h))))))))) (by with_reducible assumption) | with_reducible exact (And.imp (fun h => kset (by first | omega | (simp; done) | (simp; omega)) (kset (by first | omega | (simp; done) | (simp; omega)) (kset (by first | omega | (simp; done) | (simp; omega)) h))) (And.imp (fun h => kset (by first | omega | (simp; done) | (simp; omega)) (kset (by first | omega | (simp; done) | (simp; omega)) (kset (by first | omega | (simp; done) | (simp; omega)) h))) (And.imp (fun h => kset (by first | omega | (simp; done) | (simp; omega)) (kset (by first | omega | (simp; done) | (simp; omega)) (kset (by first | omega | (simp; done) | (simp; omega)) h))) (And.imp (fun h => kset (by first | omega | (simp; done) | (simp; omega)) (kset (by first | omega | (simp; done) | (simp; omega)) (kset (by first | omega | (simp; done) | (simp; omega)) h))) (And.imp (fun h => kset (by first | omega | (simp; done) | (simp; omega)) (kset (by first | omega | (simp; done) | (simp; omega)) (kset (by first | omega | (simp; done) | (simp; omega)) h))) ((fun h => kset (by first | omega | (simp; done) | (simp; omega)) (kset (by first | omega | (simp; done) | (simp; omega)) (kset (by first | omega | (simp; done) | (simp; omega)) h))))))))) (by with_reducible assumption) | with_reducible exact (And.imp (fun h => kset (by first | omega | (simp; done) | (simp; omega)) (kset (by first | omega | (simp; done) | (simp; omega)) h)) (And.imp (fun h => kset (by first | omega | (simp; done) | (simp; omega)) (kset (by first | omega | (simp; done) | (simp; omega)) h)) (And.imp (fun h => kset (by first | omega | (simp; done) | (simp; omega)) (kset (by first | omega | (simp; done) | (simp; omega)) h)) (And.imp (fun h => kset (by first | omega | (simp; done) | (simp; omega)) (kset (by first | omega | (simp; done) | (simp; omega)) h)) (And.imp (fun h => kset (by first | omega | (simp; done) | (simp; omega)) (kset (by first | omega | (simp; done) | (simp; omega)) h)) ((fun h => kset (by first | omega | (simp; done) | (simp; omega)) (kset (by first | omega | (simp; done) | (simp; omega)) h)))))))) (by with_reducible assumption) | with_reducible exact (And.imp (fun h => kset (by first | omega | (simp; done) | (simp; omega)) h) (And.imp (fun h => kset (by first | omega | (simp; done) | (simp; omega)) h) (And.imp (fun h => kset (by first | omega | (simp; done) | (simp; omega)) h) (And.imp (fun h => kset (by first | omega | (simp; done) | (simp; omega)) h) (And.imp (fun h => kset (by first | omega | (simp; done) | (simp; omega)) h) ((fun h => kset (by first | omega | (simp; done) | (simp; omega)) h))))))) (by with_reducible assumption) | (simp; done)))
      (first | (go_at_call 40; refine Calls.mono (slope_any _ _ _ _) ?_; rintro e wq ⟨rfl, hB⟩; obtain ⟨hBc, hBf⟩ := bcell hB; have hBs := hB.size; (try simp at hBs); (try have hBq1 := Nat.lt_of_succ_le hBs); (try have hBq2 := Nat.lt_of_succ_lt hBq1); (try have hBq3 := Nat.lt_of_succ_lt hBq2); (try have hBzw0 : w.heap.size < wq.heap.size := (by omega)); (try have hBzw1 : w.heap.size + 1 < wq.heap.size := (by omega)); (try have hBzw2 : w.heap.size + 1 + 1 < wq.heap.size := (by omega))))
    all_goals
      go_wp2
      go_ret2
      exact ⟨ret_bi HV.out.2.symm HV.out.1.symm, by (repeat (first | exact Below.refl _ _ | refine balloc ?_ _ | refine bdrewN ?_ _ | refine Below.drew ?_ | exact hW | refine bthen ?_ (by with_reducible assumption) | refine Below.setCell ?_ (by first | (simp; done) | (simp; omega)) _))⟩
  all_goals
    have HV := Lib.hid (show apC p l1 l2 l3 m1 m2 m3 = _ ∧ apV p l1 l2 l3 m1 m2 m3 = false from ⟨h0, by simp [apC, apV, h0]⟩)
    go_enter Try.func24, Try.ntmps24
    (go_wp2_with fail; refine Calls.mono (implLines2 _ _ _ _ _ _ _ _ _ (by simp)) ?_; rintro e w1 ⟨rfl, hB1⟩; obtain ⟨hB1c, hB1f⟩ := bcell hB1; have hB1s := hB1.size; (try simp at hB1s); (try have hB1q1 := Nat.lt_of_succ_le hB1s); (try have hB1q2 := Nat.lt_of_succ_lt hB1q1); (try have hB1q3 := Nat.lt_of_succ_lt hB1q2); (try have hB1zw0 : w.heap.size < w1.heap.size := (by omega)); (try have hB1zw1 : w.heap.size + 1 < w1.heap.size := (by omega)); (try have hB1zw2 : w.heap.size + 1 + 1 < w1.heap.size := (by omega)))
    (go_wp2_with fail; refine Calls.mono (codeFor_any _ _ _) ?_; rintro e w' ⟨rfl, rfl⟩)
    go_wp2
    go_ret2
    exact ⟨ret_bi HV.out.2.symm HV.out.1.symm, by (repeat (first | exact Below.refl _ _ | refine balloc ?_ _ | refine bdrewN ?_ _ | refine Below.drew ?_ | refine bthen ?_ hB1 | refine Below.setCell ?_ (by first | (simp; done) | (simp; omega)) _))⟩

end Go.Proofs.Ytcddbcpdjgcejab
