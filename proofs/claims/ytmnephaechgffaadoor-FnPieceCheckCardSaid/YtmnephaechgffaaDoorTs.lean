/- Any request drawn. -/
import Derived.Test.YtmnephaechgffaaDoorTr
namespace Go.Proofs.YtmnephaechgffaaDoor
open Go.ChangeShapes Go.WideShapes Go.ChangeAt Go.RowKit
set_option linter.unusedVariables false

end Go.Proofs.YtmnephaechgffaaDoor
