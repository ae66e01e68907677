/- A closed fact of the program: enter. -/
import Derived.Test.YthidcmffnpnjjaaDoorRows
import Derived.WalkKit
import Derived.ProofKit
namespace Go.Proofs.YthidcmffnpnjjaaDoor
open Go.ChangeShapes Go.WideShapes Go.ChangeAt Go.RowKit

theorem Try.f_enter : Tryd.prog.mayEnter = true := by kernel_rfl
end Go.Proofs.YthidcmffnpnjjaaDoor
