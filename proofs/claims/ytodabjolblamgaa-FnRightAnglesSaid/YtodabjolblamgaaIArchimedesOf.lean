/-
  The program's ArchimedesOf, and the model's number of Archimedes.
-/
import Derived.Test.YtodabjolblamgaaCode
import Derived.Test.YtodabjolblamgaaImplNums
import Derived.Test.YtodabjolblamgaaMod
import Derived.Test.YtodabjolblamgaaImplRest
import Derived.Test.YtodabjolblamgaaBaseMath
namespace Go.Proofs.Ytodabjolblamgaa
open Go.RowKit

set_option maxRecDepth 20000 in
set_option maxHeartbeats 400000 in
theorem specArch_any (p a b c : Int) (w : World) (hp : isP p = true) (ha : 0 ≤ a ∧ a ≤ 31) (hb : 0 ≤ b ∧ b ≤ 31) (hc : 0 ≤ c ∧ c ≤ 31) :
    Calls Try.prog 81 #[.int .i64 p, .int .i64 a, .int .i64 b, .int .i64 c] w fun e w' =>
      e = .returned (.int .i64 (((a + b + c) * (a + b + c) - 2 * (a * a + b * b + c * c)) % p)) ∧ w = w' := by
  have hr := isP_range hp
  have m1 := mulB (a := a + b + c) (b := a + b + c) (by omega) (by omega)
  have m2 := mulP ha ha
  have m3 := mulP hb hb
  have m4 := mulP hc hc
  go_enter Try.func81, Try.ntmps81
  (go_wp2_with fail; refine Calls.mono (mod_any _ _ _ (by omega) (by omega) (by omega) (by omega)) ?_; rintro e w' ⟨rfl, rfl⟩)
  go_wp2
  go_ret
  exact ⟨rfl, rfl⟩

def aoC (p a b c : Int) : Int := codeOf p (numsIn p [a, b, c])
def aoV1 (p a b c : Int) : Int := if aoC p a b c = 0 then ((a + b + c) * (a + b + c) - 2 * (a * a + b * b + c * c)) % p else 0
abbrev aoR (p a b c : Int) : Value := .tuple #[.int .i64 (aoV1 p a b c), .int .i64 (aoC p a b c)]
theorem ao_err {p a b c k : Int} (h : codeOf p (numsIn p [a, b, c]) = k) (hk : k ≠ 0) : aoV1 p a b c = 0 ∧ aoC p a b c = k := by
  have h' : aoC p a b c = k := h
  simp [aoV1, h', hk]
theorem ao_good {p a b c : Int} (h : codeOf p (numsIn p [a, b, c]) = 0) : aoV1 p a b c = ((a + b + c) * (a + b + c) - 2 * (a * a + b * b + c * c)) % p ∧ aoC p a b c = 0 := by
  have h' : aoC p a b c = 0 := h
  exact ⟨if_pos h', h'⟩

set_option maxRecDepth 20000 in
set_option maxHeartbeats 2000000 in
theorem implArchimedesOf_any (p a b c : Int) (w : World) :
    Calls Try.prog 21 #[.int .i64 p, .int .i64 a, .int .i64 b, .int .i64 c] w fun e w' => e = .returned (aoR p a b c) ∧ Below w.heap.size w w' := by
  rcases code_cases p (numsIn p [a, b, c]) with ⟨h0, hp, hn⟩ | h0 | h0
  · have hr := isP_range hp
    have hq := nums3 hn
    have m1 := mulB (a := a + b + c) (b := a + b + c) (by omega) (by omega)
    have m2 := mulP (a := a) (b := a) (by omega) (by omega)
    have m3 := mulP (a := b) (b := b) (by omega) (by omega)
    have m4 := mulP (a := c) (b := c) (by omega) (by omega)
    have gT : codeOf p true = 0 := codeOf_in hp rfl
    have HV := Lib.hid (ao_good h0)
    clear hn
    go_enter Try.func21, Try.ntmps21
    (go_wp2_with fail; refine Calls.mono (areNums_any _ _ _ _ _ [a, b, c] _ rfl (by simp) (by exact cells_at (by simp) [a, b, c] _)) ?_; rintro e w' ⟨rfl, rfl⟩)
    (go_wp2_with fail; refine Calls.mono (codeFor_any _ _ _) ?_; rintro e w' ⟨rfl, rfl⟩)
    (go_wp2_with fail; refine Calls.mono (rest_any _ _ _ (by omega) (by omega) (by omega) (by omega)) ?_; rintro e w' ⟨rfl, rfl⟩)
    go_wp2
    (refine bodyPost_ret (v := aoR p a b c) (by simp [results, Try.results21, go_sem, HV.out.1, HV.out.2, *]) rfl ⟨?_, ?_⟩)
    · rfl
    · (repeat (first | exact Below.refl _ _ | refine balloc ?_ _ | refine bdrewN ?_ _ | refine Below.drew ?_ | refine Below.setCell ?_ (by first | (simp; done) | (simp; omega)) _))
  all_goals
    have HV := Lib.hid (ao_err h0 (by omega))
    go_enter Try.func21, Try.ntmps21
    (go_wp2_with fail; refine Calls.mono (areNums_any _ _ _ _ _ [a, b, c] _ rfl (by simp) (by exact cells_at (by simp) [a, b, c] _)) ?_; rintro e w' ⟨rfl, rfl⟩)
    (go_wp2_with fail; refine Calls.mono (codeFor_any _ _ _) ?_; rintro e w' ⟨rfl, rfl⟩)
    go_wp2
    (refine bodyPost_ret (v := aoR p a b c) (by simp [results, Try.results21, go_sem, HV.out.1, HV.out.2, *]) rfl ⟨?_, ?_⟩)
    · rfl
    · (repeat (first | exact Below.refl _ _ | refine balloc ?_ _ | refine bdrewN ?_ _ | refine Below.drew ?_ | refine Below.setCell ?_ (by first | (simp; done) | (simp; omega)) _))

end Go.Proofs.Ytodabjolblamgaa
