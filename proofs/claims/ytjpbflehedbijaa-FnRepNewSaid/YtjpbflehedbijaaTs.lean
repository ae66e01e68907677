/- Any request drawn. -/
import Derived.Test.YtjpbflehedbijaaTr
namespace Go.Proofs.Ytjpbflehedbijaa
open Go.ChangeShapes Go.WideShapes Go.ChangeAt Go.RowKit
set_option linter.unusedVariables false

end Go.Proofs.Ytjpbflehedbijaa
