/- Marks over figures. -/
import Derived.Test.YtmnephaechgffaaDoorTd
namespace Go.Proofs.YtmnephaechgffaaDoor
open Go.ChangeShapes Go.WideShapes Go.ChangeAt Go.RowKit
set_option linter.unusedVariables false

end Go.Proofs.YtmnephaechgffaaDoor
