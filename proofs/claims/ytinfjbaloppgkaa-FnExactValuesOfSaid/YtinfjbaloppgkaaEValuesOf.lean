/-
  ValuesOf: the program's and the model's.
-/
import Derived.Test.YtinfjbaloppgkaaSpecCode5
import Derived.Test.YtinfjbaloppgkaaDoorS
import Derived.Test.YtinfjbaloppgkaaCValuesOf
import Derived.Test.YtinfjbaloppgkaaSpecValues
namespace Go.Proofs.Ytinfjbaloppgkaa
open Go.RowKit

set_option linter.unusedVariables false in
def yVOC (p n : Int) : Int := codeOf p (inB n 0 1000)
set_option linter.unusedVariables false in
def yVOL (p n : Int) : List Int := if codeOf p (inB n 0 1000) = 0 then valL p n p.toNat else []
theorem yVO_good {p n : Int} (h : codeOf p (inB n 0 1000) = 0) : yVOL p n = valL p n p.toNat ∧ yVOC p n = 0 := ⟨if_pos h, h⟩
theorem yVO_bad {p n c : Int} (h : codeOf p (inB n 0 1000) = c) (hc : c ≠ 0) : yVOL p n = [] ∧ yVOC p n = c := ⟨if_neg (fun e => hc (h.symm.trans e)), h⟩
theorem yVO_len (p n : Int) : (yVOL p n).length ≤ 4096 := by
  unfold yVOL
  by_cases h : codeOf p (inB n 0 1000) = 0
  · rw [if_pos h]
    have hp := (code_good h).1
    have hr := isP_range hp
    rw [valL_length]; omega
  · rw [if_neg h]; exact Nat.zero_le _

set_option linter.unusedSimpArgs false in
set_option linter.unusedVariables false in
set_option maxRecDepth 20000 in
set_option maxHeartbeats 2000000 in
theorem specValuesOf_any (p n : Int) (w : World) :
    Calls Try.prog 22 #[.int .i64 p, .int .i64 n] w fun e w' => SlicePost 2 1 (yVOL p n) (yVOC p n) w e w' := by
  rcases code_cases p (inB n 0 1000) with ⟨h0, hp, hb⟩ | h1 | h1
  · have HV := Lib.hid (yVO_good h0)
    have hr := isP_range hp
    have hn := inB_out hb
    go_enter Try.func22, Try.ntmps22
    go_wp2_with fail
    refine Calls.mono (code5_nil _ _ _) ?_
    rintro e w' ⟨rfl, rfl⟩
    rw [h0]
    go_wp2_with fail
    refine Calls.mono (specValues_any p n _ hp (by omega) (by omega)) ?_
    rintro e w1 ⟨v, nn, rfl, ho, hB⟩
    go_wp2
    (refine bodyPost_ret (v := .tuple #[v, .int .i64 (yVOC p n)]) (by simp [results, Try.results22, go_sem, HV.out.2]) rfl (slicePost_mk (by rw [HV.out.1]; exact own_base ho (by first | exact Nat.le_refl _ | (simp; done) | (simp; omega))) ?_))
    (repeat (first | with_reducible exact Below.refl _ _ | with_reducible exact hB | with_reducible refine balloc ?_ _ | with_reducible refine bdrewN ?_ _ | with_reducible refine Below.drew ?_ | with_reducible refine bthen ?_ (by with_reducible assumption) | with_reducible refine Below.setCell ?_ (by first | (simp; done) | (simp; omega)) _))
  · have HV := Lib.hid (yVO_bad h1 (by decide))
    go_enter Try.func22, Try.ntmps22
    go_wp2_with fail
    refine Calls.mono (code5_nil _ _ _) ?_
    rintro e w' ⟨rfl, rfl⟩
    rw [h1]
    go_wp2
    (refine bodyPost_ret (v := .tuple #[.slice none 0 0, .int .i64 (yVOC p n)]) (by simp [results, Try.results22, go_sem, HV.out.2]) rfl (slicePost_nil HV.out.1 ?_))
    (repeat (first | with_reducible exact Below.refl _ _ | with_reducible refine balloc ?_ _ | with_reducible refine bdrewN ?_ _ | with_reducible refine Below.drew ?_ | with_reducible refine bthen ?_ (by with_reducible assumption) | with_reducible refine Below.setCell ?_ (by first | (simp; done) | (simp; omega)) _))
  · have HV := Lib.hid (yVO_bad h1 (by decide))
    go_enter Try.func22, Try.ntmps22
    go_wp2_with fail
    refine Calls.mono (code5_nil _ _ _) ?_
    rintro e w' ⟨rfl, rfl⟩
    rw [h1]
    go_wp2
    (refine bodyPost_ret (v := .tuple #[.slice none 0 0, .int .i64 (yVOC p n)]) (by simp [results, Try.results22, go_sem, HV.out.2]) rfl (slicePost_nil HV.out.1 ?_))
    (repeat (first | with_reducible exact Below.refl _ _ | with_reducible refine balloc ?_ _ | with_reducible refine bdrewN ?_ _ | with_reducible refine Below.drew ?_ | with_reducible refine bthen ?_ (by with_reducible assumption) | with_reducible refine Below.setCell ?_ (by first | (simp; done) | (simp; omega)) _))

set_option linter.unusedSimpArgs false in
set_option linter.unusedVariables false in
set_option maxRecDepth 20000 in
set_option maxHeartbeats 2000000 in
theorem implValuesOf_any (p n : Int) (w : World) :
    Calls Try.prog 23 #[.int .i64 p, .int .i64 n] w fun e w' => SlicePost 2 1 (yVOL p n) (yVOC p n) w e w' := by
  have hmf : ∀ (fn : Fn) (first cap : Array Value) (w : World), (Instr.makeFunc fn first cap).run Try.prog w = .ok (.func fn first cap) w := fun _ _ _ _ => rfl
  have z0 : ((w.alloc (.cells #[.int .i64 p] 2)).alloc (.cells #[.int .i64 n] 2)).cell? ⟨w.heap.size, 0, none⟩ = some (.int .i64 p) := kalloc _ (kfresh (by first | rfl | (simp; done)) rfl)
  have z1 : ((w.alloc (.cells #[.int .i64 p] 2)).alloc (.cells #[.int .i64 n] 2)).cell? ⟨w.heap.size + 1, 0, none⟩ = some (.int .i64 n) := kfresh (by first | rfl | (simp; done)) rfl
  rcases code_cases p (inB n 0 1000) with ⟨h0, hp, hb⟩ | h1 | h1
  · have HV := Lib.hid (yVO_good h0)
    go_enter Try.func23, Try.ntmps23
    go_wp2_with fail
    refine Calls.mono (doorS_ok 55 #[.pointer (some ⟨w.heap.size, 0, none⟩), .pointer (some ⟨w.heap.size + 1, 0, none⟩)] (valL p n p.toNat) _ (fun _ => rfl) (fun W hW => cValuesOf_ok p n _ _ W (kcall hW z0) (kcall hW z1) h0)) ?_
    rintro e w1 ⟨v, nn, rfl, ho, hB⟩
    go_wp2
    (refine bodyPost_ret (v := .tuple #[v, .int .i64 (yVOC p n)]) (by simp [results, Try.results23, go_sem, HV.out.2]) rfl (slicePost_mk (by rw [HV.out.1]; exact own_base ho (by first | exact Nat.le_refl _ | (simp; done) | (simp; omega))) ?_))
    (repeat (first | with_reducible exact Below.refl _ _ | with_reducible exact hB | with_reducible refine balloc ?_ _ | with_reducible refine bdrewN ?_ _ | with_reducible refine Below.drew ?_ | with_reducible refine bthen ?_ (by with_reducible assumption) | with_reducible refine Below.setCell ?_ (by first | (simp; done) | (simp; omega)) _))
  · have HV := Lib.hid (yVO_bad h1 (by decide))
    go_enter Try.func23, Try.ntmps23
    go_wp2_with fail
    refine Calls.mono (doorS_no 55 #[.pointer (some ⟨w.heap.size, 0, none⟩), .pointer (some ⟨w.heap.size + 1, 0, none⟩)] 1 _ (fun _ => rfl) (fun W hW => cValuesOf_no p n _ _ _ W (kcall hW z0) (kcall hW z1) h1 (by decide))) ?_
    rintro e w1 ⟨rfl, hB⟩
    go_wp2
    (refine bodyPost_ret (v := .tuple #[.slice none 0 0, .int .i64 (yVOC p n)]) (by simp [results, Try.results23, go_sem, HV.out.2]) rfl (slicePost_nil HV.out.1 ?_))
    (repeat (first | with_reducible exact Below.refl _ _ | with_reducible exact hB | with_reducible refine balloc ?_ _ | with_reducible refine bdrewN ?_ _ | with_reducible refine Below.drew ?_ | with_reducible refine bthen ?_ (by with_reducible assumption) | with_reducible refine Below.setCell ?_ (by first | (simp; done) | (simp; omega)) _))
  · have HV := Lib.hid (yVO_bad h1 (by decide))
    go_enter Try.func23, Try.ntmps23
    go_wp2_with fail
    refine Calls.mono (doorS_no 55 #[.pointer (some ⟨w.heap.size, 0, none⟩), .pointer (some ⟨w.heap.size + 1, 0, none⟩)] 2 _ (fun _ => rfl) (fun W hW => cValuesOf_no p n _ _ _ W (kcall hW z0) (kcall hW z1) h1 (by decide))) ?_
    rintro e w1 ⟨rfl, hB⟩
    go_wp2
    (refine bodyPost_ret (v := .tuple #[.slice none 0 0, .int .i64 (yVOC p n)]) (by simp [results, Try.results23, go_sem, HV.out.2]) rfl (slicePost_nil HV.out.1 ?_))
    (repeat (first | with_reducible exact Below.refl _ _ | with_reducible exact hB | with_reducible refine balloc ?_ _ | with_reducible refine bdrewN ?_ _ | with_reducible refine Below.drew ?_ | with_reducible refine bthen ?_ (by with_reducible assumption) | with_reducible refine Below.setCell ?_ (by first | (simp; done) | (simp; omega)) _))

end Go.Proofs.Ytinfjbaloppgkaa
