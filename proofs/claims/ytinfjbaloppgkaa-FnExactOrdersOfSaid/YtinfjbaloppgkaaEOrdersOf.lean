/-
  OrdersOf: the program's and the model's.
-/
import Derived.Test.YtinfjbaloppgkaaSpecCode5
import Derived.Test.YtinfjbaloppgkaaSpecOrders
import Derived.Test.YtinfjbaloppgkaaDoorM
import Derived.Test.YtinfjbaloppgkaaCOrdersOf
import Derived.OwnWalk
namespace Go.Proofs.Ytinfjbaloppgkaa
open Go.RowKit

def yOOC (p : Int) : Int := codeOf p true
def yOOL (p : Int) : List Int := if codeOf p true = 0 then orL p (4 * p.toNat + 4) else []
def yOON (p : Int) : List Int := nuL p (yOOL p)
theorem yOO_good {p : Int} (h : codeOf p true = 0) : yOOL p = orL p (4 * p.toNat + 4) ∧ yOON p = nuL p (orL p (4 * p.toNat + 4)) ∧ yOOC p = 0 := by
  have h1 : yOOL p = orL p (4 * p.toNat + 4) := if_pos h
  exact ⟨h1, by unfold yOON; rw [h1], h⟩
theorem yOO_bad {p c : Int} (h : codeOf p true = c) (hc : c ≠ 0) : yOOL p = [] ∧ yOON p = [] ∧ yOOC p = c := by
  have h1 : yOOL p = [] := if_neg (fun e => hc (h.symm.trans e))
  exact ⟨h1, by unfold yOON; rw [h1]; rfl, h⟩
theorem yOO_len (p : Int) : (yOOL p).length ≤ 4096 ∧ (yOON p).length ≤ 4096 := by
  have h : (yOON p).length = (yOOL p).length := nuL_length p _
  rw [h]
  unfold yOOL
  by_cases h : codeOf p true = 0
  · rw [if_pos h]
    have hp := (code_good h).1
    have hr := isP_range hp
    have := upTo_le (hasO p) (4 * p.toNat + 4)
    unfold orL
    omega
  · rw [if_neg h]; simp

set_option linter.unusedSimpArgs false in
set_option linter.unusedVariables false in
set_option maxRecDepth 20000 in
set_option maxHeartbeats 2000000 in
theorem specOrdersOf_any (p : Int) (w : World) :
    Calls Try.prog 34 #[.int .i64 p] w fun e w' => TwoPost 2 1 (yOOL p) (yOON p) (yOOC p) w e w' := by
  rcases code_cases p true with ⟨h0, hp, hb⟩ | h1 | h1
  · have HV := yOO_good h0
    rw [HV.1, HV.2.1, HV.2.2]
    exact specOrders_good p w hp
  · have HV := Lib.hid (yOO_bad h1 (by decide))
    go_enter Try.func34, Try.ntmps34
    go_wp2_with fail
    refine Calls.mono (numbers_nil _ _) ?_
    rintro e w' ⟨rfl, rfl⟩
    rw [h1]
    go_wp2
    (refine bodyPost_ret (v := .tuple #[.slice none 0 0, .slice none 0 0, .int .i64 (yOOC p)]) (by simp [results, Try.results34, go_sem, HV.out.2.2]) rfl (twoPost_nil HV.out.1 HV.out.2.1 ?_))
    (repeat (first | with_reducible exact Below.refl _ _ | with_reducible refine balloc ?_ _ | with_reducible refine bdrewN ?_ _ | with_reducible refine Below.drew ?_ | with_reducible refine bthen ?_ (by with_reducible assumption) | with_reducible refine Below.setCell ?_ (by first | (simp; done) | (simp; omega)) _))
  · exact absurd (code_two_b h1) (by simp)

set_option linter.unusedSimpArgs false in
set_option linter.unusedVariables false in
set_option maxRecDepth 20000 in
set_option maxHeartbeats 2000000 in
theorem implOrdersOf_any (p : Int) (w : World) :
    Calls Try.prog 35 #[.int .i64 p] w fun e w' => TwoPostA 2 1 (yOOL p) (yOON p) (yOOC p) w e w' := by
  have hmf : ∀ (fn : Fn) (first cap : Array Value) (w : World), (Instr.makeFunc fn first cap).run Try.prog w = .ok (.func fn first cap) w := fun _ _ _ _ => rfl
  have z0 : (w.alloc (.cells #[.int .i64 p] 2)).cell? ⟨w.heap.size, 0, none⟩ = some (.int .i64 p) := kfresh rfl rfl
  rcases code_cases p true with ⟨h0, hp, hb⟩ | h1 | h1
  · have HV := Lib.hid (yOO_good h0)
    go_enter Try.func35, Try.ntmps35
    go_wp2_with fail
    refine Calls.mono (doorM_ok 69 #[.pointer (some ⟨w.heap.size, 0, none⟩)] (orL p (4 * p.toNat + 4)) (nuL p (orL p (4 * p.toNat + 4))) _ (fun _ => rfl) (fun W hW => cOrdersOf_ok p _ W (kcall hW z0) h0)) ?_
    rintro e w1 ⟨v, n, u, m, rfl, ho, ho2, hB, hap⟩
    obtain ⟨a1, a2, a3, rfl⟩ := own_form ho
    obtain ⟨b1, b2, b3, rfl⟩ := own_form ho2
    have HAP := Lib.hid hap
    clear hap
    have r0 : (w1.alloc (.cells #[.slice none 0 0, .slice none 0 0] 56)).cell? ⟨w1.heap.size, 0, none⟩ = some (.slice none 0 0) := kfresh rfl rfl
    have r1 : (w1.alloc (.cells #[.slice none 0 0, .slice none 0 0] 56)).cell? ⟨w1.heap.size, 1, none⟩ = some (.slice none 0 0) := kfresh rfl rfl
    have f0 : (w1.alloc (.cells #[.slice none 0 0, .slice none 0 0] 56)).frozen? ⟨w1.heap.size, 0, none⟩ = false := fallocNew rfl
    have f1 : (w1.alloc (.cells #[.slice none 0 0, .slice none 0 0] 56)).frozen? ⟨w1.heap.size, 1, none⟩ = false := fallocNew rfl
    have c0 : (((w1.alloc (.cells #[.slice none 0 0, .slice none 0 0] 56)).setCell ⟨w1.heap.size, 0, none⟩ (.slice a1 a2 a3)).setCell ⟨w1.heap.size, 1, none⟩ (.slice b1 b2 b3)).cell? ⟨w1.heap.size, 0, none⟩ = some (.slice a1 a2 a3) := (kset2 r0 r1).1
    have c1 : (((w1.alloc (.cells #[.slice none 0 0, .slice none 0 0] 56)).setCell ⟨w1.heap.size, 0, none⟩ (.slice a1 a2 a3)).setCell ⟨w1.heap.size, 1, none⟩ (.slice b1 b2 b3)).cell? ⟨w1.heap.size, 1, none⟩ = some (.slice b1 b2 b3) := (kset2 r0 r1).2
    go_wp2_with fail
    go_region_held3 (fun W => W.cell? ⟨w1.heap.size, 0, none⟩ = some (.slice a1 a2 a3) ∧ W.cell? ⟨w1.heap.size, 1, none⟩ = some (.slice b1 b2 b3)) (first | exact ⟨kdrew (kfresh rfl rfl), kdrew (kfresh rfl rfl)⟩ | exact ⟨c0, c1⟩) (fail)
    go_wp2
    have ev := own_base (ho.alloc (.cells #[.slice a1 a2 a3, .slice b1 b2 b3] 56)) (show w.heap.size ≤ _ by first | (simp; done) | (simp; omega))
    have eu := own_base (ho2.alloc (.cells #[.slice a1 a2 a3, .slice b1 b2 b3] 56)) (show w.heap.size ≤ _ by first | (simp; done) | (simp; omega))
    (refine bodyPost_ret (v := .tuple #[.slice a1 a2 a3, .slice b1 b2 b3, .int .i64 (yOOC p)]) (by simp [results, Try.results35, go_sem, HV.out.2.2]) rfl (twoPostA_mk (by rw [HV.out.1]; exact ev) (by rw [HV.out.2.1]; exact eu) HAP.out ?_))
    (repeat (first | with_reducible exact Below.refl _ _ | with_reducible exact hB | with_reducible refine balloc ?_ _ | with_reducible refine bdrewN ?_ _ | with_reducible refine Below.drew ?_ | with_reducible refine bthen ?_ (by with_reducible assumption) | with_reducible refine Below.setCell ?_ (by first | (simp; done) | (simp; omega)) _))
  · have HV := Lib.hid (yOO_bad h1 (by decide))
    go_enter Try.func35, Try.ntmps35
    go_wp2_with fail
    refine Calls.mono (doorL_no 69 #[.pointer (some ⟨w.heap.size, 0, none⟩)] 1 _ (fun _ => rfl) (fun W hW => cOrdersOf_no p _ _ W (kcall hW z0) h1 (by decide))) ?_
    rintro e w1 ⟨rfl, hB⟩
    have r0 : (w1.alloc (.cells #[.slice none 0 0, .slice none 0 0] 56)).cell? ⟨w1.heap.size, 0, none⟩ = some (.slice none 0 0) := kfresh rfl rfl
    have r1 : (w1.alloc (.cells #[.slice none 0 0, .slice none 0 0] 56)).cell? ⟨w1.heap.size, 1, none⟩ = some (.slice none 0 0) := kfresh rfl rfl
    have f0 : (w1.alloc (.cells #[.slice none 0 0, .slice none 0 0] 56)).frozen? ⟨w1.heap.size, 0, none⟩ = false := fallocNew rfl
    have f1 : (w1.alloc (.cells #[.slice none 0 0, .slice none 0 0] 56)).frozen? ⟨w1.heap.size, 1, none⟩ = false := fallocNew rfl
    have c0 : (((w1.alloc (.cells #[.slice none 0 0, .slice none 0 0] 56)).setCell ⟨w1.heap.size, 0, none⟩ (.slice none 0 0)).setCell ⟨w1.heap.size, 1, none⟩ (.slice none 0 0)).cell? ⟨w1.heap.size, 0, none⟩ = some (.slice none 0 0) := (kset2 r0 r1).1
    have c1 : (((w1.alloc (.cells #[.slice none 0 0, .slice none 0 0] 56)).setCell ⟨w1.heap.size, 0, none⟩ (.slice none 0 0)).setCell ⟨w1.heap.size, 1, none⟩ (.slice none 0 0)).cell? ⟨w1.heap.size, 1, none⟩ = some (.slice none 0 0) := (kset2 r0 r1).2
    go_wp2_with fail
    go_region_held3 (fun W => W.cell? ⟨w1.heap.size, 0, none⟩ = some (.slice none 0 0) ∧ W.cell? ⟨w1.heap.size, 1, none⟩ = some (.slice none 0 0)) (first | exact ⟨kdrew (kfresh rfl rfl), kdrew (kfresh rfl rfl)⟩ | exact ⟨c0, c1⟩) (fail)
    go_wp2
    (refine bodyPost_ret (v := .tuple #[.slice none 0 0, .slice none 0 0, .int .i64 (yOOC p)]) (by simp [results, Try.results35, go_sem, HV.out.2.2]) rfl (twoPostA_nil HV.out.1 HV.out.2.1 ?_))
    (repeat (first | with_reducible exact Below.refl _ _ | with_reducible exact hB | with_reducible refine balloc ?_ _ | with_reducible refine bdrewN ?_ _ | with_reducible refine Below.drew ?_ | with_reducible refine bthen ?_ (by with_reducible assumption) | with_reducible refine Below.setCell ?_ (by first | (simp; done) | (simp; omega)) _))
  · exact absurd (code_two_b h1) (by simp)

end Go.Proofs.Ytinfjbaloppgkaa
