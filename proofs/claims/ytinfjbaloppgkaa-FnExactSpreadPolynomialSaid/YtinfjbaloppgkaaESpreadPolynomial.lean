/-
  SpreadPolynomial: the program's and the model's.
-/
import Derived.Test.YtinfjbaloppgkaaSpecCode5
import Derived.Test.YtinfjbaloppgkaaDoorI
import Derived.Test.YtinfjbaloppgkaaCSpreadPolynomial
namespace Go.Proofs.Ytinfjbaloppgkaa
open Go.RowKit

set_option linter.unusedVariables false in
def ySPC (p n s : Int) : Int := codeOf p (inB n 0 1000 && numsIn p [s])
set_option linter.unusedVariables false in
def ySPV (p n s : Int) : Int := if codeOf p (inB n 0 1000 && numsIn p [s]) = 0 then sv p s n.toNat else 0
theorem ySP_good {p n s : Int} (h : codeOf p (inB n 0 1000 && numsIn p [s]) = 0) : ySPV p n s = sv p s n.toNat ∧ ySPC p n s = 0 := ⟨if_pos h, h⟩
theorem ySP_bad {p n s c : Int} (h : codeOf p (inB n 0 1000 && numsIn p [s]) = c) (hc : c ≠ 0) : ySPV p n s = 0 ∧ ySPC p n s = c := ⟨if_neg (fun e => hc (h.symm.trans e)), h⟩
theorem ySP_turn (p n s : Int) : codeOf p (numsIn p [s] && inB n 0 1000) = codeOf p (inB n 0 1000 && numsIn p [s]) := by congr 1; rw [Bool.and_comm]

set_option linter.unusedSimpArgs false in
set_option linter.unusedVariables false in
set_option maxRecDepth 20000 in
set_option maxHeartbeats 2000000 in
theorem specSpreadPolynomial_any (p n s : Int) (w : World) :
    Calls Try.prog 15 #[.int .i64 p, .int .i64 n, .int .i64 s] w fun e w' => e = .returned (.tuple #[.int .i64 (ySPV p n s), .int .i64 (ySPC p n s)]) ∧ Below w.heap.size w w' := by
  rcases code_cases p (inB n 0 1000 && numsIn p [s]) with ⟨h0, hp, hb⟩ | h1 | h1
  · have HV := Lib.hid (ySP_good h0)
    have hs := hb
    rw [Bool.and_eq_true] at hs
    have hn := inB_out hs.1
    have hs := numsIn_one hs.2
    go_enter Try.func15, Try.ntmps15
    go_wp2_with fail
    refine Calls.mono (code5_any _ _ _ _ _ _ [s] _ rfl (by simp) (by exact cells_at (by simp) [s] _)) ?_
    rintro e w' ⟨rfl, rfl⟩
    rw [ySP_turn]; rw [h0]
    go_wp2_with fail
    refine Calls.mono (specValZ_any p s n _ hp (by omega) (by omega) (by omega) (by omega)) ?_
    rintro e w' ⟨rfl, rfl⟩
    go_wp2
    (refine bodyPost_ret (v := .tuple #[.int .i64 (ySPV p n s), .int .i64 (ySPC p n s)]) (by simp [results, Try.results15, go_sem, HV.out.1, HV.out.2]) rfl ⟨?_, ?_⟩)
    · rfl
    · (repeat (first | with_reducible exact Below.refl _ _ | with_reducible refine balloc ?_ _ | with_reducible refine bdrewN ?_ _ | with_reducible refine Below.drew ?_ | with_reducible refine bthen ?_ (by with_reducible assumption) | with_reducible refine Below.setCell ?_ (by first | (simp; done) | (simp; omega)) _))
  · have HV := Lib.hid (ySP_bad h1 (by decide))
    go_enter Try.func15, Try.ntmps15
    go_wp2_with fail
    refine Calls.mono (code5_any _ _ _ _ _ _ [s] _ rfl (by simp) (by exact cells_at (by simp) [s] _)) ?_
    rintro e w' ⟨rfl, rfl⟩
    rw [ySP_turn]; rw [h1]
    go_wp2
    (refine bodyPost_ret (v := .tuple #[.int .i64 (ySPV p n s), .int .i64 (ySPC p n s)]) (by simp [results, Try.results15, go_sem, HV.out.1, HV.out.2]) rfl ⟨?_, ?_⟩)
    · rfl
    · (repeat (first | with_reducible exact Below.refl _ _ | with_reducible refine balloc ?_ _ | with_reducible refine bdrewN ?_ _ | with_reducible refine Below.drew ?_ | with_reducible refine bthen ?_ (by with_reducible assumption) | with_reducible refine Below.setCell ?_ (by first | (simp; done) | (simp; omega)) _))
  · have HV := Lib.hid (ySP_bad h1 (by decide))
    go_enter Try.func15, Try.ntmps15
    go_wp2_with fail
    refine Calls.mono (code5_any _ _ _ _ _ _ [s] _ rfl (by simp) (by exact cells_at (by simp) [s] _)) ?_
    rintro e w' ⟨rfl, rfl⟩
    rw [ySP_turn]; rw [h1]
    go_wp2
    (refine bodyPost_ret (v := .tuple #[.int .i64 (ySPV p n s), .int .i64 (ySPC p n s)]) (by simp [results, Try.results15, go_sem, HV.out.1, HV.out.2]) rfl ⟨?_, ?_⟩)
    · rfl
    · (repeat (first | with_reducible exact Below.refl _ _ | with_reducible refine balloc ?_ _ | with_reducible refine bdrewN ?_ _ | with_reducible refine Below.drew ?_ | with_reducible refine bthen ?_ (by with_reducible assumption) | with_reducible refine Below.setCell ?_ (by first | (simp; done) | (simp; omega)) _))

set_option linter.unusedSimpArgs false in
set_option linter.unusedVariables false in
set_option maxRecDepth 20000 in
set_option maxHeartbeats 2000000 in
theorem implSpreadPolynomial_any (p n s : Int) (w : World) :
    Calls Try.prog 16 #[.int .i64 p, .int .i64 n, .int .i64 s] w fun e w' => e = .returned (.tuple #[.int .i64 (ySPV p n s), .int .i64 (ySPC p n s)]) ∧ Below w.heap.size w w' := by
  have hmf : ∀ (fn : Fn) (first cap : Array Value) (w : World), (Instr.makeFunc fn first cap).run Try.prog w = .ok (.func fn first cap) w := fun _ _ _ _ => rfl
  have z0 : (((w.alloc (.cells #[.int .i64 p] 2)).alloc (.cells #[.int .i64 n] 2)).alloc (.cells #[.int .i64 s] 2)).cell? ⟨w.heap.size, 0, none⟩ = some (.int .i64 p) := kalloc _ (kalloc _ (kfresh (by first | rfl | (simp; done)) rfl))
  have z1 : (((w.alloc (.cells #[.int .i64 p] 2)).alloc (.cells #[.int .i64 n] 2)).alloc (.cells #[.int .i64 s] 2)).cell? ⟨w.heap.size + 1, 0, none⟩ = some (.int .i64 n) := kalloc _ (kfresh (by first | rfl | (simp; done)) rfl)
  have z2 : (((w.alloc (.cells #[.int .i64 p] 2)).alloc (.cells #[.int .i64 n] 2)).alloc (.cells #[.int .i64 s] 2)).cell? ⟨w.heap.size + 1 + 1, 0, none⟩ = some (.int .i64 s) := kfresh (by first | rfl | (simp; done)) rfl
  rcases code_cases p (inB n 0 1000 && numsIn p [s]) with ⟨h0, hp, hb⟩ | h1 | h1
  · have HV := Lib.hid (ySP_good h0)
    go_enter Try.func16, Try.ntmps16
    go_wp2_with fail
    refine Calls.mono (doorI_ok 45 #[.pointer (some ⟨w.heap.size, 0, none⟩), .pointer (some ⟨w.heap.size + 1, 0, none⟩), .pointer (some ⟨w.heap.size + 1 + 1, 0, none⟩)] (sv p s n.toNat) _ (fun _ => rfl) (fun W hW => cSpreadPolynomial_ok p n s _ _ _ W (kcall hW z0) (kcall hW z1) (kcall hW z2) h0)) ?_
    rintro e w1 ⟨rfl, hB⟩
    go_wp2
    (refine bodyPost_ret (v := .tuple #[.int .i64 (ySPV p n s), .int .i64 (ySPC p n s)]) (by simp [results, Try.results16, go_sem, HV.out.1, HV.out.2]) rfl ⟨?_, ?_⟩)
    · rfl
    · (repeat (first | with_reducible exact Below.refl _ _ | with_reducible exact hB | with_reducible refine balloc ?_ _ | with_reducible refine bdrewN ?_ _ | with_reducible refine Below.drew ?_ | with_reducible refine bthen ?_ (by with_reducible assumption) | with_reducible refine Below.setCell ?_ (by first | (simp; done) | (simp; omega)) _))
  · have HV := Lib.hid (ySP_bad h1 (by decide))
    go_enter Try.func16, Try.ntmps16
    go_wp2_with fail
    refine Calls.mono (doorI_no 45 #[.pointer (some ⟨w.heap.size, 0, none⟩), .pointer (some ⟨w.heap.size + 1, 0, none⟩), .pointer (some ⟨w.heap.size + 1 + 1, 0, none⟩)] 1 _ (fun _ => rfl) (fun W hW => cSpreadPolynomial_no p n s _ _ _ _ W (kcall hW z0) (kcall hW z1) (kcall hW z2) h1 (by decide))) ?_
    rintro e w1 ⟨rfl, hB⟩
    go_wp2
    (refine bodyPost_ret (v := .tuple #[.int .i64 (ySPV p n s), .int .i64 (ySPC p n s)]) (by simp [results, Try.results16, go_sem, HV.out.1, HV.out.2]) rfl ⟨?_, ?_⟩)
    · rfl
    · (repeat (first | with_reducible exact Below.refl _ _ | with_reducible exact hB | with_reducible refine balloc ?_ _ | with_reducible refine bdrewN ?_ _ | with_reducible refine Below.drew ?_ | with_reducible refine bthen ?_ (by with_reducible assumption) | with_reducible refine Below.setCell ?_ (by first | (simp; done) | (simp; omega)) _))
  · have HV := Lib.hid (ySP_bad h1 (by decide))
    go_enter Try.func16, Try.ntmps16
    go_wp2_with fail
    refine Calls.mono (doorI_no 45 #[.pointer (some ⟨w.heap.size, 0, none⟩), .pointer (some ⟨w.heap.size + 1, 0, none⟩), .pointer (some ⟨w.heap.size + 1 + 1, 0, none⟩)] 2 _ (fun _ => rfl) (fun W hW => cSpreadPolynomial_no p n s _ _ _ _ W (kcall hW z0) (kcall hW z1) (kcall hW z2) h1 (by decide))) ?_
    rintro e w1 ⟨rfl, hB⟩
    go_wp2
    (refine bodyPost_ret (v := .tuple #[.int .i64 (ySPV p n s), .int .i64 (ySPC p n s)]) (by simp [results, Try.results16, go_sem, HV.out.1, HV.out.2]) rfl ⟨?_, ?_⟩)
    · rfl
    · (repeat (first | with_reducible exact Below.refl _ _ | with_reducible exact hB | with_reducible refine balloc ?_ _ | with_reducible refine bdrewN ?_ _ | with_reducible refine Below.drew ?_ | with_reducible refine bthen ?_ (by with_reducible assumption) | with_reducible refine Below.setCell ?_ (by first | (simp; done) | (simp; omega)) _))

end Go.Proofs.Ytinfjbaloppgkaa
