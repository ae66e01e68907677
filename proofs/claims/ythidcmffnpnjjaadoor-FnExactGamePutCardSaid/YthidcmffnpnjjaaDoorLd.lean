/- Who leads in a view: contracts. -/
import Derived.Test.YthidcmffnpnjjaaDoorTa
import Derived.Test.YthidcmffnpnjjaaDoorTb
import Derived.IntWalk
namespace Go.Proofs.YthidcmffnpnjjaaDoor
open Go.ChangeShapes Go.WideShapes Go.ChangeAt Go.RowKit
set_option linter.unusedVariables false

def leadI (v : Int) : Int := if inB v 0 6 = true then v % 4 else -1

end Go.Proofs.YthidcmffnpnjjaaDoor
