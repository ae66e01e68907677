/- What is done ahead: whether it is ok, the model's way. -/
import Derived.Test.YtdpladihacgobaaHa
import Derived.Test.YtdpladihacgobaaMC
import Derived.Test.YtdpladihacgobaaMM
import Derived.Deep.Cut
namespace Go.Proofs.Ytdpladihacgobaa
open Go.ChangeShapes Go.WideShapes Go.ChangeAt Go.RowKit
set_option linter.unusedVariables false
set_option linter.unusedSimpArgs false

end Go.Proofs.Ytdpladihacgobaa
