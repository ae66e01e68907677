/- The laws' own helper over claims and claims. -/
import Derived.Test.YtmnephaechgffaaDoorUa
import Derived.Test.YtmnephaechgffaaDoorMem3
namespace Go.Proofs.YtmnephaechgffaaDoor
open Go.ChangeShapes Go.WideShapes Go.ChangeAt Go.RowKit
set_option linter.unusedVariables false

end Go.Proofs.YtmnephaechgffaaDoor
