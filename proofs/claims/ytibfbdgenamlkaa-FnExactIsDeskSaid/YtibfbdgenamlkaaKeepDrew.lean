/-
  What a call keeps that began behind a draw; no program.
-/
import Derived.Test.YtibfbdgenamlkaaMath
namespace Go.Proofs.Ytibfbdgenamlkaa
open Go.RowKit

theorem bfromdrew {W w' : World} (h : Below W.drew.heap.size W.drew w') : Below W.heap.size W w' := ⟨h.os, h.tape, h.output, h.size, h.block⟩

end Go.Proofs.Ytibfbdgenamlkaa
