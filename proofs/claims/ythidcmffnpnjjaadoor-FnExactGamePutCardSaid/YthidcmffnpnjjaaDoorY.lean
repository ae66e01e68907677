/- Requests and claims that are valid, or null. -/
import Derived.Test.YthidcmffnpnjjaaDoorEq
import Derived.Test.YthidcmffnpnjjaaDoorLd
import Derived.Test.YthidcmffnpnjjaaDoorTk
namespace Go.Proofs.YthidcmffnpnjjaaDoor
open Go.ChangeShapes Go.WideShapes Go.ChangeAt Go.RowKit
set_option linter.unusedVariables false

def nullB (r : Rq) : Bool := decide (r = ⟨0, 0, 0, 0, 0⟩)
def rqB (r : Rq) : Bool := reqB r.c r.n r.o r.x r.y
def okB (r : Rq) : Bool := rqB r || nullB r
def clB (c : Cl) : Bool := inB c.s 1 5 && (inB c.v 0 6 && okB c.r)

end Go.Proofs.YthidcmffnpnjjaaDoor
