/-
  impl.behindDoor at pairs of slices that lie apart.
-/
import Derived.Test.YtinfjbaloppgkaaDoorL
import Derived.Test.YtinfjbaloppgkaaOrdMath
namespace Go.Proofs.Ytinfjbaloppgkaa
open Go.RowKit

/-- As DoorTwo, in two blocks. -/
def DoorTwoA (T : TypeId) (k : Nat) (L M : List Int) (w : World) (e : Ending) (w' : World) : Prop :=
  ∃ v n u m, e = .returned (.tuple #[.agg #[v, u], .int .i64 0]) ∧ w'.ownsRow w.heap.size T k v n (ints L) ∧ w'.ownsRow w.heap.size T k u m (ints M) ∧ Below w.heap.size w w' ∧ Apart v u

set_option maxRecDepth 20000 in
set_option maxHeartbeats 1000000 in
theorem doorM_ok (G : Nat) (cap : Array Value) (L M : List Int) (w : World) (hG : ∀ w, (callFunc G cap).run Try.prog w = .ok (.enter G cap) w)
    (h : ∀ W, Below w.heap.size w W → Calls Try.prog G cap W fun e w' => ∃ v n u m, e = .returned (.agg #[v, u]) ∧ w'.ownsRow W.heap.size 2 1 v n (ints L) ∧ w'.ownsRow W.heap.size 2 1 u m (ints M) ∧ Below W.heap.size W w' ∧ Apart v u) :
    Calls Try.prog 68 #[.func (.func G) #[] cap] w fun e w' => DoorTwoA 2 1 L M w e w' := by
  have hmf : ∀ (fn : Fn) (first cap : Array Value) (w : World), (Instr.makeFunc fn first cap).run Try.prog w = .ok (.func fn first cap) w := fun _ _ _ _ => rfl
  go_enter_defers Try.func68, Try.ntmps68
  go_wp2_with fail
  have hb0 : Below w.heap.size w ((w.alloc (.cells #[.slice none 0 0, .slice none 0 0] 56)).alloc (.cells #[.int .i64 0] 2)) := ((Below.refl _ _).alloc (Nat.le_refl _) _).alloc (by simp) _
  have hc0 : ((w.alloc (.cells #[.slice none 0 0, .slice none 0 0] 56)).alloc (.cells #[.int .i64 0] 2)).cell? ⟨w.heap.size + 1, 0, none⟩ = some (.int .i64 0) := kfresh (by first | rfl | (simp; done)) rfl
  have hf0 : ((w.alloc (.cells #[.slice none 0 0, .slice none 0 0] 56)).alloc (.cells #[.int .i64 0] 2)).frozen? ⟨w.heap.size + 1, 0, none⟩ = false := fallocNew (by first | rfl | (simp; done))
  have hr0 : ((w.alloc (.cells #[.slice none 0 0, .slice none 0 0] 56)).alloc (.cells #[.int .i64 0] 2)).cell? ⟨w.heap.size, 0, none⟩ = some (.slice none 0 0) := kalloc _ (kfresh rfl rfl)
  have hr1 : ((w.alloc (.cells #[.slice none 0 0, .slice none 0 0] 56)).alloc (.cells #[.int .i64 0] 2)).cell? ⟨w.heap.size, 1, none⟩ = some (.slice none 0 0) := kalloc _ (kfresh rfl rfl)
  have hs0 : ((w.alloc (.cells #[.slice none 0 0, .slice none 0 0] 56)).alloc (.cells #[.int .i64 0] 2)).frozen? ⟨w.heap.size, 0, none⟩ = false := falloc (by simp) (fallocNew rfl)
  have hs1 : ((w.alloc (.cells #[.slice none 0 0, .slice none 0 0] 56)).alloc (.cells #[.int .i64 0] 2)).frozen? ⟨w.heap.size, 1, none⟩ = false := falloc (by simp) (fallocNew rfl)
  refine Calls.mono (h _ hb0) ?_
  rintro e w1 ⟨v, n, u, m, rfl, ho, ho2, hB, hap⟩
  have HAP := Lib.hid hap
  clear hap
  obtain ⟨a1, a2, a3, rfl⟩ := own_form ho
  obtain ⟨b1, b2, b3, rfl⟩ := own_form ho2
  have hc1 := kcall hB hc0
  have hf1 := kfro hB (by simp) hf0
  have hq0 := kcall hB hr0
  have hq1 := kcall hB hr1
  have ht0 := kfro hB (by first | (simp; done) | (simp; omega)) hs0
  have ht1 := kfro hB (by first | (simp; done) | (simp; omega)) hs1
  go_wp2_with fail
  refine leaves_cons (f := 91) (args := #[.pointer (some ⟨w.heap.size + 1, 0, none⟩)]) (by simp) (by simp [go_sem]) ?_
  refine (catchL_idle ⟨w.heap.size + 1, 0, none⟩ _).mono ?_
  rintro e u' w'' ⟨rfl, rfl, rfl⟩
  have hc2 : (((w1.setCell ⟨w.heap.size, 0, none⟩ (.slice a1 a2 a3)).setCell ⟨w.heap.size, 1, none⟩ (.slice b1 b2 b3)).setCell ⟨w.heap.size + 1, 0, none⟩ (.int .i64 0)).cell? ⟨w.heap.size + 1, 0, none⟩ = some (.int .i64 0) := ksame (kset (by omega) (kset (by omega) hc1))
  have hc3 : (((w1.setCell ⟨w.heap.size, 0, none⟩ (.slice a1 a2 a3)).setCell ⟨w.heap.size, 1, none⟩ (.slice b1 b2 b3)).setCell ⟨w.heap.size + 1, 0, none⟩ (.int .i64 0)).cell? ⟨w.heap.size, 0, none⟩ = some (.slice a1 a2 a3) := kset (by omega) (kset2 hq0 hq1).1
  have hc4 : (((w1.setCell ⟨w.heap.size, 0, none⟩ (.slice a1 a2 a3)).setCell ⟨w.heap.size, 1, none⟩ (.slice b1 b2 b3)).setCell ⟨w.heap.size + 1, 0, none⟩ (.int .i64 0)).cell? ⟨w.heap.size, 1, none⟩ = some (.slice b1 b2 b3) := kset (by omega) (kset2 hq0 hq1).2
  simp [Leaves, settle, results, Try.results68, go_sem, hc2, hc3, hc4]
  exact ⟨.slice a1 a2 a3, n, .slice b1 b2 b3, m, rfl, own_setLow (own_setLow (own_setLow (own_base ho (by first | (simp; done) | (simp; omega))) (fun g hg => by have := (ho.lt g hg).1; simp at this; omega)) (fun g hg => by have := (ho.lt g hg).1; simp at this; omega)) (fun g hg => by have := (ho.lt g hg).1; simp at this; omega), own_setLow (own_setLow (own_setLow (own_base ho2 (by first | (simp; done) | (simp; omega))) (fun g hg => by have := (ho2.lt g hg).1; simp at this; omega)) (fun g hg => by have := (ho2.lt g hg).1; simp at this; omega)) (fun g hg => by have := (ho2.lt g hg).1; simp at this; omega), (((bthen hb0 hB).setCell (by first | exact Nat.le_refl _ | (simp; done) | (simp; omega)) _).setCell (by first | exact Nat.le_refl _ | (simp; done) | (simp; omega)) _).setCell (by first | exact Nat.le_refl _ | (simp; done) | (simp; omega)) _, HAP.out⟩

end Go.Proofs.Ytinfjbaloppgkaa
