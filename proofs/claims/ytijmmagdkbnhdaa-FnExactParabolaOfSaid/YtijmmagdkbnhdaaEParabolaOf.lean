/-
  ParabolaOf: the program's and the model's.
-/
import Derived.Test.YtijmmagdkbnhdaaSParabolaOf
import Derived.Test.YtijmmagdkbnhdaaIParabolaOf
import Derived.Test.YtijmmagdkbnhdaaBaseMath
namespace Go.Proofs.Ytijmmagdkbnhdaa
open Go.RowKit

end Go.Proofs.Ytijmmagdkbnhdaa
