/- Requests and claims that came in, made the program's own. -/
import Derived.Test.YtmnephaechgffaaDoorUaa
namespace Go.Proofs.YtmnephaechgffaaDoor
open Go.ChangeShapes Go.WideShapes Go.ChangeAt Go.RowKit
set_option linter.unusedVariables false

end Go.Proofs.YtmnephaechgffaaDoor
