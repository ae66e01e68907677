/- What is done ahead: whether it is ok, both ways. -/
import Derived.Test.YtgbnoemoangofaaMH
import Derived.Test.YtgbnoemoangofaaME
namespace Go.Proofs.Ytgbnoemoangofaa
open Go.ChangeShapes Go.WideShapes Go.ChangeAt Go.RowKit
set_option linter.unusedVariables false
set_option linter.unusedSimpArgs false

abbrev aheadV (A : Option Addr) (n a : Nat) (B : Option Addr) (m b : Nat) (k : Int) : Value := .agg #[.slice A n a, .slice B m b, .int .i64 k]
/-- Whether what is done ahead is ok. -/
def ahB (D W : List Rq) (k : Int) : Bool := decide (D.length + W.length ≤ 60) && (inB k 0 99 && (D.all okB && W.all okB))

end Go.Proofs.Ytgbnoemoangofaa
