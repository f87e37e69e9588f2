/-
  OrderOfSpread: the program's and the model's.
-/
import Derived.Test.YtinfjbaloppgkaaSpecCode5
import Derived.Test.YtinfjbaloppgkaaDoorI
import Derived.Test.YtinfjbaloppgkaaCOrderOfSpread
import Derived.Test.YtinfjbaloppgkaaSpecOrd
namespace Go.Proofs.Ytinfjbaloppgkaa
open Go.RowKit

set_option linter.unusedVariables false in
def yOSC (p s : Int) : Int := codeOf p (numsIn p [s])
set_option linter.unusedVariables false in
def yOSV (p s : Int) : Int := if codeOf p (numsIn p [s]) = 0 then (ordN p s : Int) else 0
theorem yOS_good {p s : Int} (h : codeOf p (numsIn p [s]) = 0) : yOSV p s = (ordN p s : Int) ∧ yOSC p s = 0 := ⟨if_pos h, h⟩
theorem yOS_bad {p s c : Int} (h : codeOf p (numsIn p [s]) = c) (hc : c ≠ 0) : yOSV p s = 0 ∧ yOSC p s = c := ⟨if_neg (fun e => hc (h.symm.trans e)), h⟩

set_option linter.unusedSimpArgs false in
set_option linter.unusedVariables false in
set_option maxRecDepth 20000 in
set_option maxHeartbeats 2000000 in
theorem specOrderOfSpread_any (p s : Int) (w : World) :
    Calls Try.prog 28 #[.int .i64 p, .int .i64 s] w fun e w' => e = .returned (.tuple #[.int .i64 (yOSV p s), .int .i64 (yOSC p s)]) ∧ Below w.heap.size w w' := by
  rcases code_cases p (numsIn p [s]) with ⟨h0, hp, hb⟩ | h1 | h1
  · have HV := Lib.hid (yOS_good h0)
    have hs := numsIn_one hb
    go_enter Try.func28, Try.ntmps28
    go_wp2_with fail
    refine Calls.mono (numbers_any _ _ _ _ _ [s] _ rfl (by simp) (by exact cells_at (by simp) [s] _)) ?_
    rintro e w' ⟨rfl, rfl⟩
    rw [h0]
    go_wp2_with fail
    refine Calls.mono (specOrd_any p s _ hp (by omega) (by omega)) ?_
    rintro e w' ⟨rfl, rfl⟩
    go_wp2
    (refine bodyPost_ret (v := .tuple #[.int .i64 (yOSV p s), .int .i64 (yOSC p s)]) (by simp [results, Try.results28, go_sem, HV.out.1, HV.out.2]) rfl ⟨?_, ?_⟩)
    · rfl
    · (repeat (first | with_reducible exact Below.refl _ _ | with_reducible refine balloc ?_ _ | with_reducible refine bdrewN ?_ _ | with_reducible refine Below.drew ?_ | with_reducible refine bthen ?_ (by with_reducible assumption) | with_reducible refine Below.setCell ?_ (by first | (simp; done) | (simp; omega)) _))
  · have HV := Lib.hid (yOS_bad h1 (by decide))
    go_enter Try.func28, Try.ntmps28
    go_wp2_with fail
    refine Calls.mono (numbers_any _ _ _ _ _ [s] _ rfl (by simp) (by exact cells_at (by simp) [s] _)) ?_
    rintro e w' ⟨rfl, rfl⟩
    rw [h1]
    go_wp2
    (refine bodyPost_ret (v := .tuple #[.int .i64 (yOSV p s), .int .i64 (yOSC p s)]) (by simp [results, Try.results28, go_sem, HV.out.1, HV.out.2]) rfl ⟨?_, ?_⟩)
    · rfl
    · (repeat (first | with_reducible exact Below.refl _ _ | with_reducible refine balloc ?_ _ | with_reducible refine bdrewN ?_ _ | with_reducible refine Below.drew ?_ | with_reducible refine bthen ?_ (by with_reducible assumption) | with_reducible refine Below.setCell ?_ (by first | (simp; done) | (simp; omega)) _))
  · have HV := Lib.hid (yOS_bad h1 (by decide))
    go_enter Try.func28, Try.ntmps28
    go_wp2_with fail
    refine Calls.mono (numbers_any _ _ _ _ _ [s] _ rfl (by simp) (by exact cells_at (by simp) [s] _)) ?_
    rintro e w' ⟨rfl, rfl⟩
    rw [h1]
    go_wp2
    (refine bodyPost_ret (v := .tuple #[.int .i64 (yOSV p s), .int .i64 (yOSC p s)]) (by simp [results, Try.results28, go_sem, HV.out.1, HV.out.2]) rfl ⟨?_, ?_⟩)
    · rfl
    · (repeat (first | with_reducible exact Below.refl _ _ | with_reducible refine balloc ?_ _ | with_reducible refine bdrewN ?_ _ | with_reducible refine Below.drew ?_ | with_reducible refine bthen ?_ (by with_reducible assumption) | with_reducible refine Below.setCell ?_ (by first | (simp; done) | (simp; omega)) _))

set_option linter.unusedSimpArgs false in
set_option linter.unusedVariables false in
set_option maxRecDepth 20000 in
set_option maxHeartbeats 2000000 in
theorem implOrderOfSpread_any (p s : Int) (w : World) :
    Calls Try.prog 29 #[.int .i64 p, .int .i64 s] w fun e w' => e = .returned (.tuple #[.int .i64 (yOSV p s), .int .i64 (yOSC p s)]) ∧ Below w.heap.size w w' := by
  have hmf : ∀ (fn : Fn) (first cap : Array Value) (w : World), (Instr.makeFunc fn first cap).run Try.prog w = .ok (.func fn first cap) w := fun _ _ _ _ => rfl
  have z0 : ((w.alloc (.cells #[.int .i64 p] 2)).alloc (.cells #[.int .i64 s] 2)).cell? ⟨w.heap.size, 0, none⟩ = some (.int .i64 p) := kalloc _ (kfresh (by first | rfl | (simp; done)) rfl)
  have z1 : ((w.alloc (.cells #[.int .i64 p] 2)).alloc (.cells #[.int .i64 s] 2)).cell? ⟨w.heap.size + 1, 0, none⟩ = some (.int .i64 s) := kfresh (by first | rfl | (simp; done)) rfl
  rcases code_cases p (numsIn p [s]) with ⟨h0, hp, hb⟩ | h1 | h1
  · have HV := Lib.hid (yOS_good h0)
    go_enter Try.func29, Try.ntmps29
    go_wp2_with fail
    refine Calls.mono (doorI_ok 62 #[.pointer (some ⟨w.heap.size, 0, none⟩), .pointer (some ⟨w.heap.size + 1, 0, none⟩)] ((ordN p s : Int)) _ (fun _ => rfl) (fun W hW => cOrderOfSpread_ok p s _ _ W (kcall hW z0) (kcall hW z1) h0)) ?_
    rintro e w1 ⟨rfl, hB⟩
    go_wp2
    (refine bodyPost_ret (v := .tuple #[.int .i64 (yOSV p s), .int .i64 (yOSC p s)]) (by simp [results, Try.results29, go_sem, HV.out.1, HV.out.2]) rfl ⟨?_, ?_⟩)
    · rfl
    · (repeat (first | with_reducible exact Below.refl _ _ | with_reducible exact hB | with_reducible refine balloc ?_ _ | with_reducible refine bdrewN ?_ _ | with_reducible refine Below.drew ?_ | with_reducible refine bthen ?_ (by with_reducible assumption) | with_reducible refine Below.setCell ?_ (by first | (simp; done) | (simp; omega)) _))
  · have HV := Lib.hid (yOS_bad h1 (by decide))
    go_enter Try.func29, Try.ntmps29
    go_wp2_with fail
    refine Calls.mono (doorI_no 62 #[.pointer (some ⟨w.heap.size, 0, none⟩), .pointer (some ⟨w.heap.size + 1, 0, none⟩)] 1 _ (fun _ => rfl) (fun W hW => cOrderOfSpread_no p s _ _ _ W (kcall hW z0) (kcall hW z1) h1 (by decide))) ?_
    rintro e w1 ⟨rfl, hB⟩
    go_wp2
    (refine bodyPost_ret (v := .tuple #[.int .i64 (yOSV p s), .int .i64 (yOSC p s)]) (by simp [results, Try.results29, go_sem, HV.out.1, HV.out.2]) rfl ⟨?_, ?_⟩)
    · rfl
    · (repeat (first | with_reducible exact Below.refl _ _ | with_reducible exact hB | with_reducible refine balloc ?_ _ | with_reducible refine bdrewN ?_ _ | with_reducible refine Below.drew ?_ | with_reducible refine bthen ?_ (by with_reducible assumption) | with_reducible refine Below.setCell ?_ (by first | (simp; done) | (simp; omega)) _))
  · have HV := Lib.hid (yOS_bad h1 (by decide))
    go_enter Try.func29, Try.ntmps29
    go_wp2_with fail
    refine Calls.mono (doorI_no 62 #[.pointer (some ⟨w.heap.size, 0, none⟩), .pointer (some ⟨w.heap.size + 1, 0, none⟩)] 2 _ (fun _ => rfl) (fun W hW => cOrderOfSpread_no p s _ _ _ W (kcall hW z0) (kcall hW z1) h1 (by decide))) ?_
    rintro e w1 ⟨rfl, hB⟩
    go_wp2
    (refine bodyPost_ret (v := .tuple #[.int .i64 (yOSV p s), .int .i64 (yOSC p s)]) (by simp [results, Try.results29, go_sem, HV.out.1, HV.out.2]) rfl ⟨?_, ?_⟩)
    · rfl
    · (repeat (first | with_reducible exact Below.refl _ _ | with_reducible exact hB | with_reducible refine balloc ?_ _ | with_reducible refine bdrewN ?_ _ | with_reducible refine Below.drew ?_ | with_reducible refine bthen ?_ (by with_reducible assumption) | with_reducible refine Below.setCell ?_ (by first | (simp; done) | (simp; omega)) _))

end Go.Proofs.Ytinfjbaloppgkaa
