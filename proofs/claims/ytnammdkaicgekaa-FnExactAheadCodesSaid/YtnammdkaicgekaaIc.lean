/- The game as it looks: AheadGame, both ways. -/
import Derived.Test.YtnammdkaicgekaaIb
namespace Go.Proofs.Ytnammdkaicgekaa
open Go.ChangeShapes Go.WideShapes Go.ChangeAt Go.RowKit
set_option linter.unusedVariables false
set_option linter.unusedSimpArgs false

def acG (D T : List Rq) (k : Int) : List Int := if ahB D T k = true then codesG (foldG D) T else []
end Go.Proofs.Ytnammdkaicgekaa
