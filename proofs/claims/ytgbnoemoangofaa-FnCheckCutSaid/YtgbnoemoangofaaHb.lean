/- What is done ahead: whether it is ok, the model's way. -/
import Derived.Test.YtgbnoemoangofaaHa
import Derived.Test.YtgbnoemoangofaaMC
import Derived.Test.YtgbnoemoangofaaMM
import Derived.Deep.Cut
namespace Go.Proofs.Ytgbnoemoangofaa
open Go.ChangeShapes Go.WideShapes Go.ChangeAt Go.RowKit
set_option linter.unusedVariables false
set_option linter.unusedSimpArgs false

end Go.Proofs.Ytgbnoemoangofaa
