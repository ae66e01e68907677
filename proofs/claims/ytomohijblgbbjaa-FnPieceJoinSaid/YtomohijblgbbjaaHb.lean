/- What is done ahead: whether it is ok, the model's way. -/
import Derived.Test.YtomohijblgbbjaaHa
import Derived.Test.YtomohijblgbbjaaMC
import Derived.Test.YtomohijblgbbjaaMM
import Derived.Deep.Cut
namespace Go.Proofs.Ytomohijblgbbjaa
open Go.ChangeShapes Go.WideShapes Go.ChangeAt Go.RowKit
set_option linter.unusedVariables false
set_option linter.unusedSimpArgs false

end Go.Proofs.Ytomohijblgbbjaa
