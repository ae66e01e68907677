/- The model's: a request done, in one. -/
import Derived.Test.YtnpdlpkomfegfaaGv
namespace Go.Proofs.Ytnpdlpkomfegfaa
open Go.ChangeShapes Go.WideShapes Go.ChangeAt Go.RowKit
set_option linter.unusedVariables false
set_option linter.unusedSimpArgs false

end Go.Proofs.Ytnpdlpkomfegfaa
