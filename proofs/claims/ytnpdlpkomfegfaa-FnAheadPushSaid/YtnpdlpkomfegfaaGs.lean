/- The model's: gold given, the rest. -/
import Derived.Test.YtnpdlpkomfegfaaGr
namespace Go.Proofs.Ytnpdlpkomfegfaa
open Go.ChangeShapes Go.WideShapes Go.ChangeAt Go.RowKit
set_option linter.unusedVariables false
set_option linter.unusedSimpArgs false

end Go.Proofs.Ytnpdlpkomfegfaa
