/- What votes claim: what is picked at a place. -/
import Derived.Test.YtjpbflehedbijaaJa
import Derived.Test.YtjpbflehedbijaaJc
namespace Go.Proofs.Ytjpbflehedbijaa
open Go.ChangeShapes Go.WideShapes Go.ChangeAt Go.RowKit
set_option linter.unusedVariables false
set_option linter.unusedSimpArgs false

end Go.Proofs.Ytjpbflehedbijaa
