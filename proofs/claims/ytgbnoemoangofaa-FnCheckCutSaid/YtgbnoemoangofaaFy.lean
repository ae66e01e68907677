/- A closed fact of the program: lifts. -/
import Derived.Test.YtgbnoemoangofaaRows
import Derived.WalkKit
import Derived.ProofKit
namespace Go.Proofs.Ytgbnoemoangofaa
open Go.ChangeShapes Go.WideShapes Go.ChangeAt Go.RowKit

theorem Try.f_lifts : (({ program := "", sum := "", func := "", spec := "" } : OpenClaim).lifted == Try.prog.liftsFinal) = true := by kernel_rfl
end Go.Proofs.Ytgbnoemoangofaa
