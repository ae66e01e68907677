/- Requests and claims held against each other by ==. -/
import Derived.Test.YthidcmffnpnjjaaDoorMem3
import Derived.Test.YthidcmffnpnjjaaDoorRows
import Derived.Test.YthidcmffnpnjjaaDoorTa
import Derived.Laws.StructEq
namespace Go.Proofs.YthidcmffnpnjjaaDoor
open Go.ChangeShapes Go.WideShapes Go.ChangeAt Go.RowKit

theorem len5 {α : Type} (l : List α) (h : l.length = 5) : ∃ a b c d e, l = [a, b, c, d, e] :=
  match l, h with
  | [a, b, c, d, e], _ => ⟨a, b, c, d, e, rfl⟩
theorem len3 {α : Type} (l : List α) (h : l.length = 3) : ∃ a b c, l = [a, b, c] :=
  match l, h with
  | [a, b, c], _ => ⟨a, b, c, rfl⟩

end Go.Proofs.YthidcmffnpnjjaaDoor
