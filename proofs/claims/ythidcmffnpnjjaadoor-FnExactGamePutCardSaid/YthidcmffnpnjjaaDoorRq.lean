/- What the requests' proofs share: a request that came in, opened. -/
import Derived.Test.YthidcmffnpnjjaaDoorTa
import Derived.Test.YthidcmffnpnjjaaDoorLaw
import Derived.Deep.Fields
namespace Go.Proofs.YthidcmffnpnjjaaDoor
open Go.ChangeShapes Go.WideShapes Go.ChangeAt Go.RowKit Go.Deep

theorem Tryd.own : ownKnob Tryd.prog.godebug = none := by kernel_rfl
theorem Tryd.laidOut : laidOutB Tryd.prog = true := by kernel_rfl

end Go.Proofs.YthidcmffnpnjjaaDoor
