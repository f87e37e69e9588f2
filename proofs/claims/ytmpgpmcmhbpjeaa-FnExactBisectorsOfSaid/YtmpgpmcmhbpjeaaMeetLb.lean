/-
  Meets of two lines, by the model and the program; the model's check of two lines that are not null.
-/
import Derived.Test.YtmpgpmcmhbpjeaaMgb0
import Derived.Test.YtmpgpmcmhbpjeaaIMeetOfb

namespace Go.Proofs.Ytmpgpmcmhbpjeaa
open Go.RowKit

def eqD (l1 l2 m1 m2 : Int) : Bool := l1 == m1 && l2 == m2
def bmX (p l1 l2 l3 m1 m2 m3 : Int) : Int := if eqD l1 l2 m1 m2 = true then 0 else meX p l1 l2 l3 m1 m2 m3
def bmY (p l1 l2 l3 m1 m2 m3 : Int) : Int := if eqD l1 l2 m1 m2 = true then 0 else meY p l1 l2 l3 m1 m2 m3
def bmC (l1 l2 m1 m2 : Int) : Int := if eqD l1 l2 m1 m2 = true then 5 else 0
theorem meX_r (l1 l2 l3 m1 m2 m3 : Int) {p : Int} (h : isP p = true) : 0 ≤ meX p l1 l2 l3 m1 m2 m3 ∧ meX p l1 l2 l3 m1 m2 m3 < p := modR _ h
theorem meY_r (l1 l2 l3 m1 m2 m3 : Int) {p : Int} (h : isP p = true) : 0 ≤ meY p l1 l2 l3 m1 m2 m3 ∧ meY p l1 l2 l3 m1 m2 m3 < p := modR _ h
theorem bmX_r (l1 l2 l3 m1 m2 m3 : Int) {p : Int} (h : isP p = true) : 0 ≤ bmX p l1 l2 l3 m1 m2 m3 ∧ bmX p l1 l2 l3 m1 m2 m3 < p := by
  have := meX_r l1 l2 l3 m1 m2 m3 h; have := isP_range h; unfold bmX; split <;> omega
theorem bmY_r (l1 l2 l3 m1 m2 m3 : Int) {p : Int} (h : isP p = true) : 0 ≤ bmY p l1 l2 l3 m1 m2 m3 ∧ bmY p l1 l2 l3 m1 m2 m3 < p := by
  have := meY_r l1 l2 l3 m1 m2 m3 h; have := isP_range h; unfold bmY; split <;> omega
theorem eqD_iff {l1 l2 m1 m2 : Int} : eqD l1 l2 m1 m2 = true ↔ l1 = m1 ∧ l2 = m2 := by simp [eqD]
theorem specMeetL (p l1 l2 l3 m1 m2 m3 : Int) (w : World) (hp : isP p = true) (hl : lineB p l1 l2 l3 = true) (hm : lineB p m1 m2 m3 = true) :
    Calls Try.prog 66 #[.int .i64 p, .agg #[.int .i64 l1, .int .i64 l2, .int .i64 l3], .agg #[.int .i64 m1, .int .i64 m2, .int .i64 m3]] w fun e w' =>
      e = .returned (.tuple #[.agg #[.int .i64 (bmX p l1 l2 l3 m1 m2 m3), .int .i64 (bmY p l1 l2 l3 m1 m2 m3)], .bool (!eqD l1 l2 m1 m2)]) ∧ Below w.heap.size w w' := by
  have hr := isP_range hp
  obtain ⟨al, nl⟩ := lineB_in hl
  obtain ⟨am, nm⟩ := lineB_in hm
  have rl := nums3 nl
  have rm := nums3 nm
  have hz := det_zero hp al am ⟨rl.1, rl.2.1⟩ ⟨rm.1, rm.2.1⟩
  refine Calls.mono (specMeet_any p l1 l2 l3 m1 m2 m3 w hp (by omega) (by omega) (by omega) (by omega) (by omega) (by omega)) ?_
  rintro e w' ⟨rfl, hB⟩
  refine ⟨?_, hB⟩
  have hb : meetB p l1 l2 m1 m2 = !eqD l1 l2 m1 m2 := by
    unfold meetB
    rw [show (detM l1 l2 m1 m2 % p == 0) = eqD l1 l2 m1 m2 from by rw [Bool.eq_iff_iff, beq_iff_eq, hz, eqD_iff]]
  have hx : mtX p l1 l2 l3 m1 m2 m3 = bmX p l1 l2 l3 m1 m2 m3 := by
    unfold mtX bmX
    by_cases h : l1 = m1 ∧ l2 = m2
    · rw [if_pos (hz.2 h), if_pos (eqD_iff.2 h)]
    · rw [if_neg (fun e => h (hz.1 e)), if_neg (fun e => h (eqD_iff.1 e))]
  have hy : mtY p l1 l2 l3 m1 m2 m3 = bmY p l1 l2 l3 m1 m2 m3 := by
    unfold mtY bmY
    by_cases h : l1 = m1 ∧ l2 = m2
    · rw [if_pos (hz.2 h), if_pos (eqD_iff.2 h)]
    · rw [if_neg (fun e => h (hz.1 e)), if_neg (fun e => h (eqD_iff.1 e))]
  rw [hb, hx, hy]
theorem implMeetL (p l1 l2 l3 m1 m2 m3 : Int) (w : World) (hp : isP p = true) (hl : lineB p l1 l2 l3 = true) (hm : lineB p m1 m2 m3 = true) :
    Calls Try.prog 67 #[.int .i64 p, .agg #[.int .i64 l1, .int .i64 l2, .int .i64 l3], .agg #[.int .i64 m1, .int .i64 m2, .int .i64 m3]] w fun e w' =>
      e = .returned (.tuple #[.agg #[.int .i64 (bmX p l1 l2 l3 m1 m2 m3), .int .i64 (bmY p l1 l2 l3 m1 m2 m3)], .int .i64 (bmC l1 l2 m1 m2)]) ∧ Below w.heap.size w w' := by
  have hc : codeOf p (lineB p l1 l2 l3 && lineB p m1 m2 m3) = 0 := codeOf_in hp (by rw [hl, hm]; rfl)
  refine Calls.mono (implMeetOf_any p l1 l2 l3 m1 m2 m3 w) ?_
  rintro e w' ⟨rfl, hB⟩
  refine ⟨?_, hB⟩
  by_cases h : l1 = m1 ∧ l2 = m2
  · have hg := mo_par hc h
    rw [moR, hg.1, hg.2.1, hg.2.2, bmX, bmY, bmC, if_pos (eqD_iff.2 h), if_pos (eqD_iff.2 h), if_pos (eqD_iff.2 h)]
  · have hg := mo_good hc h
    have hn : ¬ eqD l1 l2 m1 m2 = true := fun e => h (eqD_iff.1 e)
    rw [moR, hg.1, hg.2.1, hg.2.2, bmX, bmY, bmC, if_neg hn, if_neg hn, if_neg hn]

end Go.Proofs.Ytmpgpmcmhbpjeaa
