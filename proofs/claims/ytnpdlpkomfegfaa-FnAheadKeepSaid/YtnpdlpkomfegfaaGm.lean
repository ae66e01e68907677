/- The model's: a figure dropped. -/
import Derived.Test.YtnpdlpkomfegfaaGl
namespace Go.Proofs.Ytnpdlpkomfegfaa
open Go.ChangeShapes Go.WideShapes Go.ChangeAt Go.RowKit
set_option linter.unusedVariables false
set_option linter.unusedSimpArgs false

end Go.Proofs.Ytnpdlpkomfegfaa
