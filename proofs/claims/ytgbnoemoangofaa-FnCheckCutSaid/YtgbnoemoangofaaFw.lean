/- A closed fact of the program: enter. -/
import Derived.Test.YtgbnoemoangofaaRows
import Derived.WalkKit
import Derived.ProofKit
namespace Go.Proofs.Ytgbnoemoangofaa
open Go.ChangeShapes Go.WideShapes Go.ChangeAt Go.RowKit

theorem Try.f_enter : Try.prog.mayEnter = true := by kernel_rfl
end Go.Proofs.Ytgbnoemoangofaa
