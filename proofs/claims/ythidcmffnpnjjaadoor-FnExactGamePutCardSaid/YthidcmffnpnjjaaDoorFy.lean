/- A closed fact of the program: lifts. -/
import Derived.Test.YthidcmffnpnjjaaDoorRows
import Derived.WalkKit
import Derived.ProofKit
namespace Go.Proofs.YthidcmffnpnjjaaDoor
open Go.ChangeShapes Go.WideShapes Go.ChangeAt Go.RowKit

theorem Try.f_lifts : (({ program := "", sum := "", func := "", spec := "" } : OpenClaim).lifted == Tryd.prog.liftsFinal) = true := by kernel_rfl
end Go.Proofs.YthidcmffnpnjjaaDoor
