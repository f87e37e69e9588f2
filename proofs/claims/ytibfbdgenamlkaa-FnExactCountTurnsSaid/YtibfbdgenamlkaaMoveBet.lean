/-
  The move of a sign that leads two points to two others, as the program reckons it: its numbers; no program.
-/
import Derived.Test.YtibfbdgenamlkaaMoveMath
namespace Go.Proofs.Ytibfbdgenamlkaa
open Go.RowKit

/-- One number of the point to which it leads x1, x2. y: the way, f: from, dv: the inverse of the way's product, sg: the sign; t, g, z: of to, along, across. -/
def mb (p c y1 y2 f1 f2 f3 f4 dv sg t g z x1 x2 : Int) : Int := (t + prd p c y1 y2 ((x1 - f1) % p) ((x2 - f2) % p) * dv * g + area p f1 f2 f3 f4 x1 x2 * dv * sg * z) % p
set_option linter.unusedSimpArgs false in
theorem mb_r (c y1 y2 f1 f2 f3 f4 dv sg t g z x1 x2 : Int) {p : Int} (h : isP p = true) : 0 ≤ mb p c y1 y2 f1 f2 f3 f4 dv sg t g z x1 x2 ∧ mb p c y1 y2 f1 f2 f3 f4 dv sg t g z x1 x2 < p := modR _ h
/-- A number of the matrix. -/
def md (p c y1 y2 f1 f2 f3 f4 dv sg t g z x1 x2 : Int) : Int := (mb p c y1 y2 f1 f2 f3 f4 dv sg t g z x1 x2 - mb p c y1 y2 f1 f2 f3 f4 dv sg t g z 0 0) % p
set_option linter.unusedSimpArgs false in
theorem md_r (c y1 y2 f1 f2 f3 f4 dv sg t g z x1 x2 : Int) {p : Int} (h : isP p = true) : 0 ≤ md p c y1 y2 f1 f2 f3 f4 dv sg t g z x1 x2 ∧ md p c y1 y2 f1 f2 f3 f4 dv sg t g z x1 x2 < p := modR _ h
/-- Across from a point. -/
def ac1 (p c a1 a2 : Int) : Int := (-prd p c a1 a2 0 1) % p
def ac2 (p c a1 a2 : Int) : Int := prd p c a1 a2 1 0
set_option linter.unusedSimpArgs false in
theorem ac1_r (c a1 a2 : Int) {p : Int} (h : isP p = true) : 0 ≤ ac1 p c a1 a2 ∧ ac1 p c a1 a2 < p := modR _ h
set_option linter.unusedSimpArgs false in
theorem ac2_r (c a1 a2 : Int) {p : Int} (h : isP p = true) : 0 ≤ ac2 p c a1 a2 ∧ ac2 p c a1 a2 < p := prd_lt _ _ _ _ _ h

end Go.Proofs.Ytibfbdgenamlkaa
