/-
  impl.behindDoor at pairs of slices: what the work returns, or the code with which it was refused.
-/
import Derived.Test.YtinfjbaloppgkaaOwnLow
namespace Go.Proofs.Ytinfjbaloppgkaa
open Go.RowKit

set_option maxRecDepth 20000 in
set_option maxHeartbeats 400000 in
theorem catchL_no (p : Addr) (x c : Int) (w : World) (hc : w.cell? p = some (.int .i64 x)) (hz : w.frozen? p = false) :
    CallsD Try.prog 91 #[.pointer (some p)] (.panicking (refused c)) w fun e u' w' =>
      e = .returned (.tuple #[]) ∧ u' = .panicking [{ v := .iface 72 (.int .i64 c), recovered := true }] ∧ w' = (w.setCell p (.int .i64 5)).setCell p (.int .i64 c) := by
  have hc2 : (w.setCell p (.int .i64 5)).cell? p = some (.int .i64 5) := ksame hc
  have hta : ∀ (v : Value) (w : World), (Instr.typeAssert (.iface 72 v) 20 72 true).run Try.prog w = .ok (.tuple #[v, .bool true]) w := fun _ _ => by kernel_rfl
  refine callsD_of_wpS Try.func91 rfl fun c₀ cs hu => ?_
  apply wpS_seq
  apply wpS_region
  simp [wpOpsS, go_sem, recoverD, hu, refused, Try.ntmps91, Exit.thenS]
  refine wpS_of_wp ?_
  simp only [Array.replicate_succ, Array.replicate_zero, List.push_toArray, List.append_toArray, List.nil_append, List.cons_append, List.setIfInBounds_toArray, List.set_cons_zero, List.set_cons_succ]
  go_wp2
  simp [bodyPostS, results, Try.results91]

set_option maxRecDepth 20000 in
set_option maxHeartbeats 400000 in
theorem catchL_idle (p : Addr) (w : World) :
    CallsD Try.prog 91 #[.pointer (some p)] .returning w fun e u' w' => e = .returned (.tuple #[]) ∧ u' = .returning ∧ w' = w := by
  refine callsD_of_wpS Try.func91 rfl fun c₀ cs hu => ?_
  apply wpS_seq
  apply wpS_region
  simp [wpOpsS, go_sem, recoverD, hu, Try.ntmps91, Exit.thenS]
  refine wpS_of_wp ?_
  simp only [Array.replicate_succ, Array.replicate_zero, List.push_toArray, List.append_toArray, List.nil_append, List.cons_append, List.setIfInBounds_toArray, List.set_cons_zero, List.set_cons_succ]
  go_wp2
  cases c₀
  simp_all [bodyPostS, results, Try.results91]

set_option maxRecDepth 20000 in
set_option maxHeartbeats 1000000 in
theorem doorL_no (G : Nat) (cap : Array Value) (c : Int) (w : World) (hG : ∀ w, (callFunc G cap).run Try.prog w = .ok (.enter G cap) w)
    (h : ∀ W, Below w.heap.size w W → Calls Try.prog G cap W fun e w' => e = .panicked (refused c) ∧ Below W.heap.size W w') :
    Calls Try.prog 68 #[.func (.func G) #[] cap] w fun e w' => e = .returned (.tuple #[.agg #[.slice none 0 0, .slice none 0 0], .int .i64 c]) ∧ Below w.heap.size w w' := by
  have hmf : ∀ (fn : Fn) (first cap : Array Value) (w : World), (Instr.makeFunc fn first cap).run Try.prog w = .ok (.func fn first cap) w := fun _ _ _ _ => rfl
  go_enter_defers Try.func68, Try.ntmps68
  go_wp2_with fail
  have hb0 : Below w.heap.size w ((w.alloc (.cells #[.slice none 0 0, .slice none 0 0] 56)).alloc (.cells #[.int .i64 0] 2)) := ((Below.refl _ _).alloc (Nat.le_refl _) _).alloc (by simp) _
  have hc0 : ((w.alloc (.cells #[.slice none 0 0, .slice none 0 0] 56)).alloc (.cells #[.int .i64 0] 2)).cell? ⟨w.heap.size + 1, 0, none⟩ = some (.int .i64 0) := kfresh (by first | rfl | (simp; done)) rfl
  have hf0 : ((w.alloc (.cells #[.slice none 0 0, .slice none 0 0] 56)).alloc (.cells #[.int .i64 0] 2)).frozen? ⟨w.heap.size + 1, 0, none⟩ = false := fallocNew (by first | rfl | (simp; done))
  have hr0 : ((w.alloc (.cells #[.slice none 0 0, .slice none 0 0] 56)).alloc (.cells #[.int .i64 0] 2)).cell? ⟨w.heap.size, 0, none⟩ = some (.slice none 0 0) := kalloc _ (kfresh rfl rfl)
  have hr1 : ((w.alloc (.cells #[.slice none 0 0, .slice none 0 0] 56)).alloc (.cells #[.int .i64 0] 2)).cell? ⟨w.heap.size, 1, none⟩ = some (.slice none 0 0) := kalloc _ (kfresh rfl rfl)
  have hs0 : ((w.alloc (.cells #[.slice none 0 0, .slice none 0 0] 56)).alloc (.cells #[.int .i64 0] 2)).frozen? ⟨w.heap.size, 0, none⟩ = false := falloc (by simp) (fallocNew rfl)
  have hs1 : ((w.alloc (.cells #[.slice none 0 0, .slice none 0 0] 56)).alloc (.cells #[.int .i64 0] 2)).frozen? ⟨w.heap.size, 1, none⟩ = false := falloc (by simp) (fallocNew rfl)
  refine Calls.mono (h _ hb0) ?_
  rintro e w1 ⟨rfl, hB⟩
  have hc1 := kcall hB hc0
  have hf1 := kfro hB (by simp) hf0
  have hq0 := kcall hB hr0
  have hq1 := kcall hB hr1
  have ht0 := kfro hB (by first | (simp; done) | (simp; omega)) hs0
  have ht1 := kfro hB (by first | (simp; done) | (simp; omega)) hs1
  go_wp2_with fail
  refine leaves_cons (f := 91) (args := #[.pointer (some ⟨w.heap.size + 1, 0, none⟩)]) (by simp) (by simp [go_sem]) ?_
  refine (catchL_no ⟨w.heap.size + 1, 0, none⟩ 0 c w1 hc1 hf1).mono ?_
  rintro e u' w'' ⟨rfl, rfl, rfl⟩
  have hc2 : ((w1.setCell ⟨w.heap.size + 1, 0, none⟩ (.int .i64 5)).setCell ⟨w.heap.size + 1, 0, none⟩ (.int .i64 c)).cell? ⟨w.heap.size + 1, 0, none⟩ = some (.int .i64 c) := ksame (ksame hc1)
  have hc3 : ((w1.setCell ⟨w.heap.size + 1, 0, none⟩ (.int .i64 5)).setCell ⟨w.heap.size + 1, 0, none⟩ (.int .i64 c)).cell? ⟨w.heap.size, 0, none⟩ = some (.slice none 0 0) := kset (by omega) (kset (by omega) hq0)
  have hc4 : ((w1.setCell ⟨w.heap.size + 1, 0, none⟩ (.int .i64 5)).setCell ⟨w.heap.size + 1, 0, none⟩ (.int .i64 c)).cell? ⟨w.heap.size, 1, none⟩ = some (.slice none 0 0) := kset (by omega) (kset (by omega) hq1)
  simp [Leaves, settle, results, Try.results68, go_sem, hc2, hc3, hc4]
  exact ((bthen hb0 hB).setCell (by first | exact Nat.le_refl _ | (simp; done) | (simp; omega)) _).setCell (by first | exact Nat.le_refl _ | (simp; done) | (simp; omega)) _

set_option maxRecDepth 20000 in
set_option maxHeartbeats 1000000 in
theorem doorL_ok (G : Nat) (cap : Array Value) (L M : List Int) (w : World) (hG : ∀ w, (callFunc G cap).run Try.prog w = .ok (.enter G cap) w)
    (h : ∀ W, Below w.heap.size w W → Calls Try.prog G cap W fun e w' => ∃ v n u m, e = .returned (.agg #[v, u]) ∧ w'.ownsRow W.heap.size 2 1 v n (ints L) ∧ w'.ownsRow W.heap.size 2 1 u m (ints M) ∧ Below W.heap.size W w') :
    Calls Try.prog 68 #[.func (.func G) #[] cap] w fun e w' => DoorTwo 2 1 L M w e w' := by
  have hmf : ∀ (fn : Fn) (first cap : Array Value) (w : World), (Instr.makeFunc fn first cap).run Try.prog w = .ok (.func fn first cap) w := fun _ _ _ _ => rfl
  go_enter_defers Try.func68, Try.ntmps68
  go_wp2_with fail
  have hb0 : Below w.heap.size w ((w.alloc (.cells #[.slice none 0 0, .slice none 0 0] 56)).alloc (.cells #[.int .i64 0] 2)) := ((Below.refl _ _).alloc (Nat.le_refl _) _).alloc (by simp) _
  have hc0 : ((w.alloc (.cells #[.slice none 0 0, .slice none 0 0] 56)).alloc (.cells #[.int .i64 0] 2)).cell? ⟨w.heap.size + 1, 0, none⟩ = some (.int .i64 0) := kfresh (by first | rfl | (simp; done)) rfl
  have hf0 : ((w.alloc (.cells #[.slice none 0 0, .slice none 0 0] 56)).alloc (.cells #[.int .i64 0] 2)).frozen? ⟨w.heap.size + 1, 0, none⟩ = false := fallocNew (by first | rfl | (simp; done))
  have hr0 : ((w.alloc (.cells #[.slice none 0 0, .slice none 0 0] 56)).alloc (.cells #[.int .i64 0] 2)).cell? ⟨w.heap.size, 0, none⟩ = some (.slice none 0 0) := kalloc _ (kfresh rfl rfl)
  have hr1 : ((w.alloc (.cells #[.slice none 0 0, .slice none 0 0] 56)).alloc (.cells #[.int .i64 0] 2)).cell? ⟨w.heap.size, 1, none⟩ = some (.slice none 0 0) := kalloc _ (kfresh rfl rfl)
  have hs0 : ((w.alloc (.cells #[.slice none 0 0, .slice none 0 0] 56)).alloc (.cells #[.int .i64 0] 2)).frozen? ⟨w.heap.size, 0, none⟩ = false := falloc (by simp) (fallocNew rfl)
  have hs1 : ((w.alloc (.cells #[.slice none 0 0, .slice none 0 0] 56)).alloc (.cells #[.int .i64 0] 2)).frozen? ⟨w.heap.size, 1, none⟩ = false := falloc (by simp) (fallocNew rfl)
  refine Calls.mono (h _ hb0) ?_
  rintro e w1 ⟨v, n, u, m, rfl, ho, ho2, hB⟩
  obtain ⟨a1, a2, a3, rfl⟩ := own_form ho
  obtain ⟨b1, b2, b3, rfl⟩ := own_form ho2
  have hc1 := kcall hB hc0
  have hf1 := kfro hB (by simp) hf0
  have hq0 := kcall hB hr0
  have hq1 := kcall hB hr1
  have ht0 := kfro hB (by first | (simp; done) | (simp; omega)) hs0
  have ht1 := kfro hB (by first | (simp; done) | (simp; omega)) hs1
  go_wp2_with fail
  refine leaves_cons (f := 91) (args := #[.pointer (some ⟨w.heap.size + 1, 0, none⟩)]) (by simp) (by simp [go_sem]) ?_
  refine (catchL_idle ⟨w.heap.size + 1, 0, none⟩ _).mono ?_
  rintro e u' w'' ⟨rfl, rfl, rfl⟩
  have hc2 : (((w1.setCell ⟨w.heap.size, 0, none⟩ (.slice a1 a2 a3)).setCell ⟨w.heap.size, 1, none⟩ (.slice b1 b2 b3)).setCell ⟨w.heap.size + 1, 0, none⟩ (.int .i64 0)).cell? ⟨w.heap.size + 1, 0, none⟩ = some (.int .i64 0) := ksame (kset (by omega) (kset (by omega) hc1))
  have hc3 : (((w1.setCell ⟨w.heap.size, 0, none⟩ (.slice a1 a2 a3)).setCell ⟨w.heap.size, 1, none⟩ (.slice b1 b2 b3)).setCell ⟨w.heap.size + 1, 0, none⟩ (.int .i64 0)).cell? ⟨w.heap.size, 0, none⟩ = some (.slice a1 a2 a3) := kset (by omega) (kset2 hq0 hq1).1
  have hc4 : (((w1.setCell ⟨w.heap.size, 0, none⟩ (.slice a1 a2 a3)).setCell ⟨w.heap.size, 1, none⟩ (.slice b1 b2 b3)).setCell ⟨w.heap.size + 1, 0, none⟩ (.int .i64 0)).cell? ⟨w.heap.size, 1, none⟩ = some (.slice b1 b2 b3) := kset (by omega) (kset2 hq0 hq1).2
  simp [Leaves, settle, results, Try.results68, go_sem, hc2, hc3, hc4]
  exact ⟨.slice a1 a2 a3, n, .slice b1 b2 b3, m, rfl, own_setLow (own_setLow (own_setLow (own_base ho (by first | (simp; done) | (simp; omega))) (fun g hg => by have := (ho.lt g hg).1; simp at this; omega)) (fun g hg => by have := (ho.lt g hg).1; simp at this; omega)) (fun g hg => by have := (ho.lt g hg).1; simp at this; omega), own_setLow (own_setLow (own_setLow (own_base ho2 (by first | (simp; done) | (simp; omega))) (fun g hg => by have := (ho2.lt g hg).1; simp at this; omega)) (fun g hg => by have := (ho2.lt g hg).1; simp at this; omega)) (fun g hg => by have := (ho2.lt g hg).1; simp at this; omega), (((bthen hb0 hB).setCell (by first | exact Nat.le_refl _ | (simp; done) | (simp; omega)) _).setCell (by first | exact Nat.le_refl _ | (simp; done) | (simp; omega)) _).setCell (by first | exact Nat.le_refl _ | (simp; done) | (simp; omega)) _⟩

end Go.Proofs.Ytinfjbaloppgkaa
