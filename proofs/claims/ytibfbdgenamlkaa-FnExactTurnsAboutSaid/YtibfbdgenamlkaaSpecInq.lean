/-
  spec.l01In at the colours.
-/
import Derived.Test.YtibfbdgenamlkaaFieldq
import Derived.Test.YtibfbdgenamlkaaMgq0

namespace Go.Proofs.Ytibfbdgenamlkaa
open Go.RowKit

theorem inCol_any (c : Int) (w : World) :
    Calls Try.prog 53 #[.int .i64 c, .int .i64 0, .int .i64 2] w fun e w' => e = .returned (.bool (colB c)) ∧ w = w' := in_any c 0 2 w

end Go.Proofs.Ytibfbdgenamlkaa
