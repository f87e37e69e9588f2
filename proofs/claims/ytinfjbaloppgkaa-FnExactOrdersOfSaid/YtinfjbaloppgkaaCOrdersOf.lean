/-
  impl.OrdersOf's work: it is refused, or it does its work.
-/
import Derived.Test.YtinfjbaloppgkaaImplOrders
import Derived.Test.YtinfjbaloppgkaaDemand
namespace Go.Proofs.Ytinfjbaloppgkaa
open Go.RowKit

set_option linter.unusedSimpArgs false in
set_option linter.unusedVariables false in
set_option maxRecDepth 20000 in
set_option maxHeartbeats 4000000 in
theorem cOrdersOf_no (p c : Int) (b0 : Nat) (w : World) (q0 : w.cell? ⟨b0, 0, none⟩ = some (.int .i64 p)) (h : codeOf p true = c) (hc : c ≠ 0) :
    Calls Try.prog 69 #[.pointer (some ⟨b0, 0, none⟩)] w fun e w' => e = .panicked (refused c) ∧ Below w.heap.size w w' := by
  have q1 : (w.alloc (.cells #[.slice none 0 0, .slice none 0 0] 56)).cell? ⟨b0, 0, none⟩ = some (.int .i64 p) := kalloc _ q0
  go_enter Try.func69, Try.ntmps69
  go_wp2_with fail
  refine Calls.mono (demand_no _ _ c _ h hc) ?_
  rintro e w' ⟨rfl, rfl⟩
  simp only [Exit.then]
  exact ⟨rfl, rfl, by (repeat (first | with_reducible exact Below.refl _ _ | with_reducible refine balloc ?_ _ | with_reducible refine bdrewN ?_ _ | with_reducible refine Below.drew ?_ | with_reducible refine bthen ?_ (by with_reducible assumption) | with_reducible refine Below.setCell ?_ (by first | (simp; done) | (simp; omega)) _))⟩

set_option linter.unusedSimpArgs false in
set_option linter.unusedVariables false in
set_option maxRecDepth 20000 in
set_option maxHeartbeats 4000000 in
theorem cOrdersOf_ok (p : Int) (b0 : Nat) (w : World) (q0 : w.cell? ⟨b0, 0, none⟩ = some (.int .i64 p)) (h : codeOf p true = 0) :
    Calls Try.prog 69 #[.pointer (some ⟨b0, 0, none⟩)] w fun e w' => PairMade (orL p (4 * p.toNat + 4)) (nuL p (orL p (4 * p.toNat + 4))) w e w' := by
  have hp : isP p = true := (code_good h).1
  have q1 : (w.alloc (.cells #[.slice none 0 0, .slice none 0 0] 56)).cell? ⟨b0, 0, none⟩ = some (.int .i64 p) := kalloc _ q0
  go_enter Try.func69, Try.ntmps69
  go_wp2_with fail
  refine Calls.mono (demand_ok _ _ _ h) ?_
  rintro e w' ⟨rfl, rfl⟩
  go_wp2_with fail
  refine Calls.mono (implOrders_any p _ hp) ?_
  rintro e w1 ⟨v, n, u, m, rfl, ho, ho2, hB, hap⟩
  obtain ⟨a1, a2, a3, rfl⟩ := own_form ho
  obtain ⟨b1, b2, b3, rfl⟩ := own_form ho2
  have hz : (w.alloc (.cells #[.slice none 0 0, .slice none 0 0] 56)).heap.size = w.heap.size + 1 := by simp
  have k0 : w1.cell? ⟨w.heap.size, 0, none⟩ = some (.slice none 0 0) := kcall hB (kfresh rfl rfl)
  have k1 : w1.cell? ⟨w.heap.size, 1, none⟩ = some (.slice none 0 0) := kcall hB (kfresh rfl rfl)
  have m0 : w1.frozen? ⟨w.heap.size, 0, none⟩ = false := kfro hB (by first | (simp; done) | (simp; omega)) (fallocNew rfl)
  have m1 : w1.frozen? ⟨w.heap.size, 1, none⟩ = false := kfro hB (by first | (simp; done) | (simp; omega)) (fallocNew rfl)
  have hBw : Below w.heap.size w w1 := by (repeat (first | with_reducible exact Below.refl _ _ | with_reducible exact hB | with_reducible refine balloc ?_ _ | with_reducible refine bdrewN ?_ _ | with_reducible refine Below.drew ?_ | with_reducible refine bthen ?_ (by with_reducible assumption) | with_reducible refine Below.setCell ?_ (by first | (simp; done) | (simp; omega)) _))
  rw [hz] at ho ho2
  have hvl := fun g hg => (ho.lt g hg).1
  have hul := fun g hg => (ho2.lt g hg).1
  have ev := own_setLow (u := .slice b1 b2 b3) (j := 1) (own_setLow (u := .slice a1 a2 a3) (j := 0) (b := w.heap.size) (own_base ho (Nat.le_succ _)) (fun g hg => by have := hvl g hg; omega)) (b := w.heap.size) (fun g hg => by have := hvl g hg; omega)
  have eu := own_setLow (u := .slice b1 b2 b3) (j := 1) (own_setLow (u := .slice a1 a2 a3) (j := 0) (b := w.heap.size) (own_base ho2 (Nat.le_succ _)) (fun g hg => by have := hul g hg; omega)) (b := w.heap.size) (fun g hg => by have := hul g hg; omega)
  have eb : Below w.heap.size w ((w1.setCell ⟨w.heap.size, 0, none⟩ (.slice a1 a2 a3)).setCell ⟨w.heap.size, 1, none⟩ (.slice b1 b2 b3)) := (hBw.setCell (Nat.le_refl _) _).setCell (Nat.le_refl _) _
  have c0 : ((w1.setCell ⟨w.heap.size, 0, none⟩ (.slice a1 a2 a3)).setCell ⟨w.heap.size, 1, none⟩ (.slice b1 b2 b3)).cell? ⟨w.heap.size, 0, none⟩ = some (.slice a1 a2 a3) := (kset2 k0 k1).1
  have c1 : ((w1.setCell ⟨w.heap.size, 0, none⟩ (.slice a1 a2 a3)).setCell ⟨w.heap.size, 1, none⟩ (.slice b1 b2 b3)).cell? ⟨w.heap.size, 1, none⟩ = some (.slice b1 b2 b3) := (kset2 k0 k1).2
  have HE := Lib.hid (And.intro ev (And.intro eu (And.intro eb hap)))
  clear hap ev eu eb ho ho2 hvl hul
  go_wp2
  (refine bodyPost_ret (v := .agg #[.slice a1 a2 a3, .slice b1 b2 b3]) (by simp [results, Try.results69, go_sem, c0, c1]) rfl ⟨_, _, _, _, rfl, HE.out.1, HE.out.2.1, HE.out.2.2⟩)

end Go.Proofs.Ytinfjbaloppgkaa
