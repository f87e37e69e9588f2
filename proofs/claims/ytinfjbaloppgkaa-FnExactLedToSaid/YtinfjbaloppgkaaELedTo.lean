/-
  LedTo: the program's and the model's.
-/
import Derived.Test.YtinfjbaloppgkaaSpecCode5
import Derived.Test.YtinfjbaloppgkaaDoorS
import Derived.Test.YtinfjbaloppgkaaCLedTo
import Derived.Test.YtinfjbaloppgkaaSpecValues
namespace Go.Proofs.Ytinfjbaloppgkaa
open Go.RowKit

set_option linter.unusedVariables false in
def yLTC (p n s : Int) : Int := codeOf p (inB n 0 1000 && numsIn p [s])
set_option linter.unusedVariables false in
def yLTL (p n s : Int) : List Int := if codeOf p (inB n 0 1000 && numsIn p [s]) = 0 then ledL p n s else []
theorem yLT_good {p n s : Int} (h : codeOf p (inB n 0 1000 && numsIn p [s]) = 0) : yLTL p n s = ledL p n s ∧ yLTC p n s = 0 := ⟨if_pos h, h⟩
theorem yLT_bad {p n s c : Int} (h : codeOf p (inB n 0 1000 && numsIn p [s]) = c) (hc : c ≠ 0) : yLTL p n s = [] ∧ yLTC p n s = c := ⟨if_neg (fun e => hc (h.symm.trans e)), h⟩
theorem yLT_len (p n s : Int) : (yLTL p n s).length ≤ 4096 := by
  unfold yLTL
  by_cases h : codeOf p (inB n 0 1000 && numsIn p [s]) = 0
  · rw [if_pos h]
    have hp := (code_good h).1
    have hr := isP_range hp
    have h1 := upTo_le (fun t => sv p t n.toNat == s) p.toNat; unfold ledL; omega
  · rw [if_neg h]; exact Nat.zero_le _
theorem yLT_turn (p n s : Int) : codeOf p (numsIn p [s] && inB n 0 1000) = codeOf p (inB n 0 1000 && numsIn p [s]) := by congr 1; rw [Bool.and_comm]

set_option linter.unusedSimpArgs false in
set_option linter.unusedVariables false in
set_option maxRecDepth 20000 in
set_option maxHeartbeats 2000000 in
theorem specLedTo_any (p n s : Int) (w : World) :
    Calls Try.prog 26 #[.int .i64 p, .int .i64 n, .int .i64 s] w fun e w' => SlicePost 2 1 (yLTL p n s) (yLTC p n s) w e w' := by
  rcases code_cases p (inB n 0 1000 && numsIn p [s]) with ⟨h0, hp, hb⟩ | h1 | h1
  · have HV := Lib.hid (yLT_good h0)
    have hr := isP_range hp
    have hs := hb
    rw [Bool.and_eq_true] at hs
    have hn := inB_out hs.1
    have hs := numsIn_one hs.2
    go_enter Try.func26, Try.ntmps26
    go_wp2_with fail
    refine Calls.mono (code5_any _ _ _ _ _ _ [s] _ rfl (by simp) (by exact cells_at (by simp) [s] _)) ?_
    rintro e w' ⟨rfl, rfl⟩
    rw [yLT_turn]; rw [h0]
    go_wp2_with fail
    refine Calls.mono (specLed_any p n s _ hp (by omega) (by omega)) ?_
    rintro e w1 ⟨v, nn, rfl, ho, hB⟩
    go_wp2
    (refine bodyPost_ret (v := .tuple #[v, .int .i64 (yLTC p n s)]) (by simp [results, Try.results26, go_sem, HV.out.2]) rfl (slicePost_mk (by rw [HV.out.1]; exact own_base ho (by first | exact Nat.le_refl _ | (simp; done) | (simp; omega))) ?_))
    (repeat (first | with_reducible exact Below.refl _ _ | with_reducible exact hB | with_reducible refine balloc ?_ _ | with_reducible refine bdrewN ?_ _ | with_reducible refine Below.drew ?_ | with_reducible refine bthen ?_ (by with_reducible assumption) | with_reducible refine Below.setCell ?_ (by first | (simp; done) | (simp; omega)) _))
  · have HV := Lib.hid (yLT_bad h1 (by decide))
    go_enter Try.func26, Try.ntmps26
    go_wp2_with fail
    refine Calls.mono (code5_any _ _ _ _ _ _ [s] _ rfl (by simp) (by exact cells_at (by simp) [s] _)) ?_
    rintro e w' ⟨rfl, rfl⟩
    rw [yLT_turn]; rw [h1]
    go_wp2
    (refine bodyPost_ret (v := .tuple #[.slice none 0 0, .int .i64 (yLTC p n s)]) (by simp [results, Try.results26, go_sem, HV.out.2]) rfl (slicePost_nil HV.out.1 ?_))
    (repeat (first | with_reducible exact Below.refl _ _ | with_reducible refine balloc ?_ _ | with_reducible refine bdrewN ?_ _ | with_reducible refine Below.drew ?_ | with_reducible refine bthen ?_ (by with_reducible assumption) | with_reducible refine Below.setCell ?_ (by first | (simp; done) | (simp; omega)) _))
  · have HV := Lib.hid (yLT_bad h1 (by decide))
    go_enter Try.func26, Try.ntmps26
    go_wp2_with fail
    refine Calls.mono (code5_any _ _ _ _ _ _ [s] _ rfl (by simp) (by exact cells_at (by simp) [s] _)) ?_
    rintro e w' ⟨rfl, rfl⟩
    rw [yLT_turn]; rw [h1]
    go_wp2
    (refine bodyPost_ret (v := .tuple #[.slice none 0 0, .int .i64 (yLTC p n s)]) (by simp [results, Try.results26, go_sem, HV.out.2]) rfl (slicePost_nil HV.out.1 ?_))
    (repeat (first | with_reducible exact Below.refl _ _ | with_reducible refine balloc ?_ _ | with_reducible refine bdrewN ?_ _ | with_reducible refine Below.drew ?_ | with_reducible refine bthen ?_ (by with_reducible assumption) | with_reducible refine Below.setCell ?_ (by first | (simp; done) | (simp; omega)) _))

set_option linter.unusedSimpArgs false in
set_option linter.unusedVariables false in
set_option maxRecDepth 20000 in
set_option maxHeartbeats 2000000 in
theorem implLedTo_any (p n s : Int) (w : World) :
    Calls Try.prog 27 #[.int .i64 p, .int .i64 n, .int .i64 s] w fun e w' => SlicePost 2 1 (yLTL p n s) (yLTC p n s) w e w' := by
  have hmf : ∀ (fn : Fn) (first cap : Array Value) (w : World), (Instr.makeFunc fn first cap).run Try.prog w = .ok (.func fn first cap) w := fun _ _ _ _ => rfl
  have z0 : (((w.alloc (.cells #[.int .i64 p] 2)).alloc (.cells #[.int .i64 n] 2)).alloc (.cells #[.int .i64 s] 2)).cell? ⟨w.heap.size, 0, none⟩ = some (.int .i64 p) := kalloc _ (kalloc _ (kfresh (by first | rfl | (simp; done)) rfl))
  have z1 : (((w.alloc (.cells #[.int .i64 p] 2)).alloc (.cells #[.int .i64 n] 2)).alloc (.cells #[.int .i64 s] 2)).cell? ⟨w.heap.size + 1, 0, none⟩ = some (.int .i64 n) := kalloc _ (kfresh (by first | rfl | (simp; done)) rfl)
  have z2 : (((w.alloc (.cells #[.int .i64 p] 2)).alloc (.cells #[.int .i64 n] 2)).alloc (.cells #[.int .i64 s] 2)).cell? ⟨w.heap.size + 1 + 1, 0, none⟩ = some (.int .i64 s) := kfresh (by first | rfl | (simp; done)) rfl
  rcases code_cases p (inB n 0 1000 && numsIn p [s]) with ⟨h0, hp, hb⟩ | h1 | h1
  · have HV := Lib.hid (yLT_good h0)
    go_enter Try.func27, Try.ntmps27
    go_wp2_with fail
    refine Calls.mono (doorS_ok 58 #[.pointer (some ⟨w.heap.size, 0, none⟩), .pointer (some ⟨w.heap.size + 1, 0, none⟩), .pointer (some ⟨w.heap.size + 1 + 1, 0, none⟩)] (ledL p n s) _ (fun _ => rfl) (fun W hW => cLedTo_ok p n s _ _ _ W (kcall hW z0) (kcall hW z1) (kcall hW z2) h0)) ?_
    rintro e w1 ⟨v, nn, rfl, ho, hB⟩
    go_wp2
    (refine bodyPost_ret (v := .tuple #[v, .int .i64 (yLTC p n s)]) (by simp [results, Try.results27, go_sem, HV.out.2]) rfl (slicePost_mk (by rw [HV.out.1]; exact own_base ho (by first | exact Nat.le_refl _ | (simp; done) | (simp; omega))) ?_))
    (repeat (first | with_reducible exact Below.refl _ _ | with_reducible exact hB | with_reducible refine balloc ?_ _ | with_reducible refine bdrewN ?_ _ | with_reducible refine Below.drew ?_ | with_reducible refine bthen ?_ (by with_reducible assumption) | with_reducible refine Below.setCell ?_ (by first | (simp; done) | (simp; omega)) _))
  · have HV := Lib.hid (yLT_bad h1 (by decide))
    go_enter Try.func27, Try.ntmps27
    go_wp2_with fail
    refine Calls.mono (doorS_no 58 #[.pointer (some ⟨w.heap.size, 0, none⟩), .pointer (some ⟨w.heap.size + 1, 0, none⟩), .pointer (some ⟨w.heap.size + 1 + 1, 0, none⟩)] 1 _ (fun _ => rfl) (fun W hW => cLedTo_no p n s _ _ _ _ W (kcall hW z0) (kcall hW z1) (kcall hW z2) h1 (by decide))) ?_
    rintro e w1 ⟨rfl, hB⟩
    go_wp2
    (refine bodyPost_ret (v := .tuple #[.slice none 0 0, .int .i64 (yLTC p n s)]) (by simp [results, Try.results27, go_sem, HV.out.2]) rfl (slicePost_nil HV.out.1 ?_))
    (repeat (first | with_reducible exact Below.refl _ _ | with_reducible exact hB | with_reducible refine balloc ?_ _ | with_reducible refine bdrewN ?_ _ | with_reducible refine Below.drew ?_ | with_reducible refine bthen ?_ (by with_reducible assumption) | with_reducible refine Below.setCell ?_ (by first | (simp; done) | (simp; omega)) _))
  · have HV := Lib.hid (yLT_bad h1 (by decide))
    go_enter Try.func27, Try.ntmps27
    go_wp2_with fail
    refine Calls.mono (doorS_no 58 #[.pointer (some ⟨w.heap.size, 0, none⟩), .pointer (some ⟨w.heap.size + 1, 0, none⟩), .pointer (some ⟨w.heap.size + 1 + 1, 0, none⟩)] 2 _ (fun _ => rfl) (fun W hW => cLedTo_no p n s _ _ _ _ W (kcall hW z0) (kcall hW z1) (kcall hW z2) h1 (by decide))) ?_
    rintro e w1 ⟨rfl, hB⟩
    go_wp2
    (refine bodyPost_ret (v := .tuple #[.slice none 0 0, .int .i64 (yLTC p n s)]) (by simp [results, Try.results27, go_sem, HV.out.2]) rfl (slicePost_nil HV.out.1 ?_))
    (repeat (first | with_reducible exact Below.refl _ _ | with_reducible exact hB | with_reducible refine balloc ?_ _ | with_reducible refine bdrewN ?_ _ | with_reducible refine Below.drew ?_ | with_reducible refine bthen ?_ (by with_reducible assumption) | with_reducible refine Below.setCell ?_ (by first | (simp; done) | (simp; omega)) _))

end Go.Proofs.Ytinfjbaloppgkaa
