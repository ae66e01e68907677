/- A closed fact of the program: make. -/
import Derived.Test.YthidcmffnpnjjaaDoorRows
import Derived.WalkKit
import Derived.ProofKit
namespace Go.Proofs.YthidcmffnpnjjaaDoor
open Go.ChangeShapes Go.WideShapes Go.ChangeAt Go.RowKit

theorem Try.f_make : (Tryd.prog.make == some ({ program := "", sum := "", func := "", spec := "" } : OpenClaim).make) = true := by kernel_rfl
end Go.Proofs.YthidcmffnpnjjaaDoor
