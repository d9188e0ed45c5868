/-
 What an order's kind says of its outcome; what an order that rests and is removed leaves: as mathematics. No condition.
-/
import Derived.Test.YtfpfpmhkkgfdbaaQF05
set_option linter.unusedVariables false
namespace Go.Proofs.Ytfpfpmhkkgfdbaa
open Go.RowKit
set_option maxRecDepth 100000
end Go.Proofs.Ytfpfpmhkkgfdbaa
