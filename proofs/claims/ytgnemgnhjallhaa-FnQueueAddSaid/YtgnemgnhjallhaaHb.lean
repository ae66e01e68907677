/- What is done ahead: whether it is ok, the model's way. -/
import Derived.Test.YtgnemgnhjallhaaHa
import Derived.Test.YtgnemgnhjallhaaMC
import Derived.Test.YtgnemgnhjallhaaMM
import Derived.Deep.Cut
namespace Go.Proofs.Ytgnemgnhjallhaa
open Go.ChangeShapes Go.WideShapes Go.ChangeAt Go.RowKit
set_option linter.unusedVariables false
set_option linter.unusedSimpArgs false

end Go.Proofs.Ytgnemgnhjallhaa
