/- The exact law of AheadOk, walked. -/
import Derived.Test.YtnammdkaicgekaaHc
import Derived.Deep.Cut
namespace Go.Proofs.Ytnammdkaicgekaa
open Go.ChangeShapes Go.WideShapes Go.ChangeAt Go.RowKit
set_option linter.unusedVariables false
set_option linter.unusedSimpArgs false

end Go.Proofs.Ytnammdkaicgekaa
