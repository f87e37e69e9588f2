/-
  IsPermutation: the program's and the model's.
-/
import Derived.Test.YtinfjbaloppgkaaSpecCode5
import Derived.Test.YtinfjbaloppgkaaDoorB
import Derived.Test.YtinfjbaloppgkaaCIsPermutation
import Derived.Test.YtinfjbaloppgkaaSpecPerm
namespace Go.Proofs.Ytinfjbaloppgkaa
open Go.RowKit

set_option linter.unusedVariables false in
def yIPC (p n : Int) : Int := codeOf p (inB n 0 1000)
set_option linter.unusedVariables false in
def yIPV (p n : Int) : Bool := if codeOf p (inB n 0 1000) = 0 then permB p n else false
theorem yIP_good {p n : Int} (h : codeOf p (inB n 0 1000) = 0) : yIPV p n = permB p n ∧ yIPC p n = 0 := ⟨if_pos h, h⟩
theorem yIP_bad {p n c : Int} (h : codeOf p (inB n 0 1000) = c) (hc : c ≠ 0) : yIPV p n = false ∧ yIPC p n = c := ⟨if_neg (fun e => hc (h.symm.trans e)), h⟩

set_option linter.unusedSimpArgs false in
set_option linter.unusedVariables false in
set_option maxRecDepth 20000 in
set_option maxHeartbeats 2000000 in
theorem specIsPermutation_any (p n : Int) (w : World) :
    Calls Try.prog 40 #[.int .i64 p, .int .i64 n] w fun e w' => e = .returned (.tuple #[.bool (yIPV p n), .int .i64 (yIPC p n)]) ∧ Below w.heap.size w w' := by
  rcases code_cases p (inB n 0 1000) with ⟨h0, hp, hb⟩ | h1 | h1
  · have HV := Lib.hid (yIP_good h0)
    have hn := inB_out hb
    have hr := isP_range hp
    rw [HV.out.1, HV.out.2]
    exact specPerm_good p n w hp (by omega) (by omega)
  · have HV := Lib.hid (yIP_bad h1 (by decide))
    go_enter Try.func40, Try.ntmps40
    go_wp2_with fail
    refine Calls.mono (code5_nil _ _ _) ?_
    rintro e w' ⟨rfl, rfl⟩
    rw [h1]
    go_wp2
    (refine bodyPost_ret (v := .tuple #[.bool (yIPV p n), .int .i64 (yIPC p n)]) (by simp [results, Try.results40, go_sem, HV.out.1, HV.out.2]) rfl ⟨?_, ?_⟩)
    · rfl
    · (repeat (first | with_reducible exact Below.refl _ _ | with_reducible refine balloc ?_ _ | with_reducible refine bdrewN ?_ _ | with_reducible refine Below.drew ?_ | with_reducible refine bthen ?_ (by with_reducible assumption) | with_reducible refine Below.setCell ?_ (by first | (simp; done) | (simp; omega)) _))
  · have HV := Lib.hid (yIP_bad h1 (by decide))
    go_enter Try.func40, Try.ntmps40
    go_wp2_with fail
    refine Calls.mono (code5_nil _ _ _) ?_
    rintro e w' ⟨rfl, rfl⟩
    rw [h1]
    go_wp2
    (refine bodyPost_ret (v := .tuple #[.bool (yIPV p n), .int .i64 (yIPC p n)]) (by simp [results, Try.results40, go_sem, HV.out.1, HV.out.2]) rfl ⟨?_, ?_⟩)
    · rfl
    · (repeat (first | with_reducible exact Below.refl _ _ | with_reducible refine balloc ?_ _ | with_reducible refine bdrewN ?_ _ | with_reducible refine Below.drew ?_ | with_reducible refine bthen ?_ (by with_reducible assumption) | with_reducible refine Below.setCell ?_ (by first | (simp; done) | (simp; omega)) _))

set_option linter.unusedSimpArgs false in
set_option linter.unusedVariables false in
set_option maxRecDepth 20000 in
set_option maxHeartbeats 2000000 in
theorem implIsPermutation_any (p n : Int) (w : World) :
    Calls Try.prog 41 #[.int .i64 p, .int .i64 n] w fun e w' => e = .returned (.tuple #[.bool (yIPV p n), .int .i64 (yIPC p n)]) ∧ Below w.heap.size w w' := by
  have hmf : ∀ (fn : Fn) (first cap : Array Value) (w : World), (Instr.makeFunc fn first cap).run Try.prog w = .ok (.func fn first cap) w := fun _ _ _ _ => rfl
  have z0 : ((w.alloc (.cells #[.int .i64 p] 2)).alloc (.cells #[.int .i64 n] 2)).cell? ⟨w.heap.size, 0, none⟩ = some (.int .i64 p) := kalloc _ (kfresh (by first | rfl | (simp; done)) rfl)
  have z1 : ((w.alloc (.cells #[.int .i64 p] 2)).alloc (.cells #[.int .i64 n] 2)).cell? ⟨w.heap.size + 1, 0, none⟩ = some (.int .i64 n) := kfresh (by first | rfl | (simp; done)) rfl
  rcases code_cases p (inB n 0 1000) with ⟨h0, hp, hb⟩ | h1 | h1
  · have HV := Lib.hid (yIP_good h0)
    go_enter Try.func41, Try.ntmps41
    go_wp2_with fail
    refine Calls.mono (doorB_ok 78 #[.pointer (some ⟨w.heap.size, 0, none⟩), .pointer (some ⟨w.heap.size + 1, 0, none⟩)] (permB p n) _ (fun _ => rfl) (fun W hW => cIsPermutation_ok p n _ _ W (kcall hW z0) (kcall hW z1) h0)) ?_
    rintro e w1 ⟨rfl, hB⟩
    go_wp2
    (refine bodyPost_ret (v := .tuple #[.bool (yIPV p n), .int .i64 (yIPC p n)]) (by simp [results, Try.results41, go_sem, HV.out.1, HV.out.2]) rfl ⟨?_, ?_⟩)
    · rfl
    · (repeat (first | with_reducible exact Below.refl _ _ | with_reducible exact hB | with_reducible refine balloc ?_ _ | with_reducible refine bdrewN ?_ _ | with_reducible refine Below.drew ?_ | with_reducible refine bthen ?_ (by with_reducible assumption) | with_reducible refine Below.setCell ?_ (by first | (simp; done) | (simp; omega)) _))
  · have HV := Lib.hid (yIP_bad h1 (by decide))
    go_enter Try.func41, Try.ntmps41
    go_wp2_with fail
    refine Calls.mono (doorB_no 78 #[.pointer (some ⟨w.heap.size, 0, none⟩), .pointer (some ⟨w.heap.size + 1, 0, none⟩)] 1 _ (fun _ => rfl) (fun W hW => cIsPermutation_no p n _ _ _ W (kcall hW z0) (kcall hW z1) h1 (by decide))) ?_
    rintro e w1 ⟨rfl, hB⟩
    go_wp2
    (refine bodyPost_ret (v := .tuple #[.bool (yIPV p n), .int .i64 (yIPC p n)]) (by simp [results, Try.results41, go_sem, HV.out.1, HV.out.2]) rfl ⟨?_, ?_⟩)
    · rfl
    · (repeat (first | with_reducible exact Below.refl _ _ | with_reducible exact hB | with_reducible refine balloc ?_ _ | with_reducible refine bdrewN ?_ _ | with_reducible refine Below.drew ?_ | with_reducible refine bthen ?_ (by with_reducible assumption) | with_reducible refine Below.setCell ?_ (by first | (simp; done) | (simp; omega)) _))
  · have HV := Lib.hid (yIP_bad h1 (by decide))
    go_enter Try.func41, Try.ntmps41
    go_wp2_with fail
    refine Calls.mono (doorB_no 78 #[.pointer (some ⟨w.heap.size, 0, none⟩), .pointer (some ⟨w.heap.size + 1, 0, none⟩)] 2 _ (fun _ => rfl) (fun W hW => cIsPermutation_no p n _ _ _ W (kcall hW z0) (kcall hW z1) h1 (by decide))) ?_
    rintro e w1 ⟨rfl, hB⟩
    go_wp2
    (refine bodyPost_ret (v := .tuple #[.bool (yIPV p n), .int .i64 (yIPC p n)]) (by simp [results, Try.results41, go_sem, HV.out.1, HV.out.2]) rfl ⟨?_, ?_⟩)
    · rfl
    · (repeat (first | with_reducible exact Below.refl _ _ | with_reducible exact hB | with_reducible refine balloc ?_ _ | with_reducible refine bdrewN ?_ _ | with_reducible refine Below.drew ?_ | with_reducible refine bthen ?_ (by with_reducible assumption) | with_reducible refine Below.setCell ?_ (by first | (simp; done) | (simp; omega)) _))

end Go.Proofs.Ytinfjbaloppgkaa
