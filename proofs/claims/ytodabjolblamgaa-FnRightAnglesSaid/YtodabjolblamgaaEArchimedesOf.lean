/-
  ArchimedesOf: the program's and the model's.
-/
import Derived.Test.YtodabjolblamgaaIArchimedesOf
import Derived.Test.YtodabjolblamgaaSpecNums
namespace Go.Proofs.Ytodabjolblamgaa
open Go.RowKit

set_option maxRecDepth 20000 in
set_option maxHeartbeats 2000000 in
theorem specArchimedesOf_any (p a b c : Int) (w : World) :
    Calls Try.prog 22 #[.int .i64 p, .int .i64 a, .int .i64 b, .int .i64 c] w fun e w' => e = .returned (aoR p a b c) ∧ Below w.heap.size w w' := by
  rcases code_cases p (numsIn p [a, b, c]) with ⟨h0, hp, hn⟩ | h0 | h0
  · have hr := isP_range hp
    have hq := nums3 hn
    have m1 := mulB (a := a + b + c) (b := a + b + c) (by omega) (by omega)
    have m2 := mulP (a := a) (b := a) (by omega) (by omega)
    have m3 := mulP (a := b) (b := b) (by omega) (by omega)
    have m4 := mulP (a := c) (b := c) (by omega) (by omega)
    have gT : codeOf p true = 0 := codeOf_in hp rfl
    have HV := Lib.hid (ao_good h0)
    clear hn
    go_enter Try.func22, Try.ntmps22
    (go_wp2_with fail; refine Calls.mono (numbers_any _ _ _ _ _ [a, b, c] _ rfl (by simp) (by exact cells_at (by simp) [a, b, c] _)) ?_; rintro e w' ⟨rfl, rfl⟩)
    (go_wp2_with fail; refine Calls.mono (specArch_any _ _ _ _ _ hp (by omega) (by omega) (by omega)) ?_; rintro e w' ⟨rfl, rfl⟩)
    go_wp2
    (refine bodyPost_ret (v := aoR p a b c) (by simp [results, Try.results22, go_sem, HV.out.1, HV.out.2, *]) rfl ⟨?_, ?_⟩)
    · rfl
    · (repeat (first | exact Below.refl _ _ | refine balloc ?_ _ | refine bdrewN ?_ _ | refine Below.drew ?_ | refine Below.setCell ?_ (by first | (simp; done) | (simp; omega)) _))
  all_goals
    have HV := Lib.hid (ao_err h0 (by omega))
    go_enter Try.func22, Try.ntmps22
    (go_wp2_with fail; refine Calls.mono (numbers_any _ _ _ _ _ [a, b, c] _ rfl (by simp) (by exact cells_at (by simp) [a, b, c] _)) ?_; rintro e w' ⟨rfl, rfl⟩)
    go_wp2
    (refine bodyPost_ret (v := aoR p a b c) (by simp [results, Try.results22, go_sem, HV.out.1, HV.out.2, *]) rfl ⟨?_, ?_⟩)
    · rfl
    · (repeat (first | exact Below.refl _ _ | refine balloc ?_ _ | refine bdrewN ?_ _ | refine Below.drew ?_ | refine Below.setCell ?_ (by first | (simp; done) | (simp; omega)) _))

end Go.Proofs.Ytodabjolblamgaa
