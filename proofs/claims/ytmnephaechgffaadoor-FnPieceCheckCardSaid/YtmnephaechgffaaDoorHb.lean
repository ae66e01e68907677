/- What is done ahead: whether it is ok, the model's way. -/
import Derived.Test.YtmnephaechgffaaDoorHa
import Derived.Test.YtmnephaechgffaaDoorTn
import Derived.Test.YtmnephaechgffaaDoorTr
import Derived.Deep.Cut
namespace Go.Proofs.YtmnephaechgffaaDoor
open Go.ChangeShapes Go.WideShapes Go.ChangeAt Go.RowKit
set_option linter.unusedVariables false
set_option linter.unusedSimpArgs false

end Go.Proofs.YtmnephaechgffaaDoor
