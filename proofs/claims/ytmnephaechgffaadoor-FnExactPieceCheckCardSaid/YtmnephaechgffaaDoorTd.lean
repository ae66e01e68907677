/- Contracts of the laws' own helpers over figures. -/
import Derived.Test.YtmnephaechgffaaDoorTc
namespace Go.Proofs.YtmnephaechgffaaDoor
open Go.ChangeShapes Go.WideShapes Go.ChangeAt Go.RowKit
set_option linter.unusedVariables false

end Go.Proofs.YtmnephaechgffaaDoor
