/- The laws' own helpers over requests and claims. -/
import Derived.Test.YtmnephaechgffaaDoorTk
import Derived.Test.YtmnephaechgffaaDoorMem3
namespace Go.Proofs.YtmnephaechgffaaDoor
open Go.ChangeShapes Go.WideShapes Go.ChangeAt Go.RowKit
set_option linter.unusedVariables false

end Go.Proofs.YtmnephaechgffaaDoor
