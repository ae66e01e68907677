/- The model's: a request done, joins and acts. -/
import Derived.Test.YtnpdlpkomfegfaaNE
namespace Go.Proofs.Ytnpdlpkomfegfaa
open Go.ChangeShapes Go.WideShapes Go.ChangeAt Go.RowKit
set_option linter.unusedVariables false
set_option linter.unusedSimpArgs false

end Go.Proofs.Ytnpdlpkomfegfaa
