/-
  Layer 1: whether an enclosure contains a number, for any arguments.
-/
import Derived.Test.YthkeebcbgbidgaaSpans
import Derived.Test.YthkeebcbgbidgaaIval
namespace Go.Proofs.Ythkeebcbgbidgaa
open Go.RowKit

end Go.Proofs.Ythkeebcbgbidgaa
