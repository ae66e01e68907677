/- Any request drawn. -/
import Derived.Test.YtlokhgnbcbnmpaaTr
namespace Go.Proofs.Ytlokhgnbcbnmpaa
open Go.ChangeShapes Go.WideShapes Go.ChangeAt Go.RowKit
set_option linter.unusedVariables false

end Go.Proofs.Ytlokhgnbcbnmpaa
