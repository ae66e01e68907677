import Derived.Test.YtameldhdegcpoaaIb
namespace Go.Proofs.Ytameldhdegcpoaa
open Go.ChangeShapes Go.WideShapes Go.ChangeAt Go.RowKit
set_option linter.unusedVariables false
set_option linter.unusedSimpArgs false
def acG (D T : List Rq) (k : Int) : List Int := if ahB D T k = true then codesG (foldG D) T else []
def AgI (X : Gm) (w : World) (e : Ending) (w' : World) : Prop :=
 ∃ A a B b C c, e = .returned (gameV A X.1.length a B X.2.1.length b C X.2.2.length c) ∧ OwG w' w.heap.size A a B b C c X.1 X.2.1 X.2.2 ∧ Below w.heap.size w w'
end Go.Proofs.Ytameldhdegcpoaa
