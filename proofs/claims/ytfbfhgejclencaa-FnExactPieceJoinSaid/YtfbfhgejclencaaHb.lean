/- What is done ahead: whether it is ok, the model's way. -/
import Derived.Test.YtfbfhgejclencaaHa
import Derived.Test.YtfbfhgejclencaaMC
import Derived.Test.YtfbfhgejclencaaMM
import Derived.Deep.Cut
namespace Go.Proofs.Ytfbfhgejclencaa
open Go.ChangeShapes Go.WideShapes Go.ChangeAt Go.RowKit
set_option linter.unusedVariables false
set_option linter.unusedSimpArgs false

end Go.Proofs.Ytfbfhgejclencaa
