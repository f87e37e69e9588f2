/-
  The closure of impl.NullPlaces at a place.
-/
import Derived.Test.YtgklnlblghookaaListed
import Derived.Test.YtgklnlblghookaaSiftQ
import Derived.Test.YtgklnlblghookaaImplNulClo
namespace Go.Proofs.Ytgklnlblghookaa
open Go.RowKit Go.Shelf

set_option linter.unusedSimpArgs false in
theorem nulClo_pl {p : Int} {b : Nat} {w : World} (hp : isP p = true) (h0 : w.cell? ⟨b, 0, none⟩ = some (.int .i64 p)) :
    ∀ (x : Pl32) (W : World), Below w.heap.size w W → Calls Try.prog 53 (#[plV (toQ x)] ++ #[.pointer (some ⟨b, 0, none⟩)]) W fun e W' => e = .returned (.bool (nulQ p x)) ∧ Below W.heap.size W W' := by
  intro x W hW
  obtain ⟨r1, r2, r3⟩ := toQ_r x
  exact nulClo_any p (toQ x).1 (toQ x).2.1 (toQ x).2.2 _ W hp r1 r2 r3 (bholds h0 hW)

end Go.Proofs.Ytgklnlblghookaa
