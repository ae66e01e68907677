/- Eq, Ua, Uaa, Ub, Uc, Ud, Ue, Uf, Uh, Ug -/
import Derived.Test.YtgbnoemoangofaaMA
import Derived.Test.YtgbnoemoangofaaRows
import Derived.Test.YtgbnoemoangofaaMB
import Derived.Laws.StructEq
import Derived.Test.YtgbnoemoangofaaMC
/- Requests and claims held against each other by ==. -/
namespace Go.Proofs.Ytgbnoemoangofaa
open Go.ChangeShapes Go.WideShapes Go.ChangeAt Go.RowKit

theorem len5 {α : Type} (l : List α) (h : l.length = 5) : ∃ a b c d e, l = [a, b, c, d, e] :=
  match l, h with
  | [a, b, c, d, e], _ => ⟨a, b, c, d, e, rfl⟩
theorem len3 {α : Type} (l : List α) (h : l.length = 3) : ∃ a b c, l = [a, b, c] :=
  match l, h with
  | [a, b, c], _ => ⟨a, b, c, rfl⟩

end Go.Proofs.Ytgbnoemoangofaa

/- The laws' own helpers over votes. -/
namespace Go.Proofs.Ytgbnoemoangofaa
open Go.ChangeShapes Go.WideShapes Go.ChangeAt Go.RowKit
set_option linter.unusedVariables false

theorem map_take_step {α β : Type} {f : α → β} {la lb : List α} {k : Nat} (ha : k < la.length) (hb : k < lb.length) (h : (la.map f).take k = (lb.map f).take k) (he : f la[k] = f lb[k]) : (la.map f).take (k + 1) = (lb.map f).take (k + 1) :=
  take_step (by simpa using ha) (by simpa using hb) h (by simpa using he)

theorem map_ne_of_at {α β : Type} {f : α → β} {la lb : List α} {k : Nat} (ha : k < la.length) (hb : k < lb.length) (he : f la[k] ≠ f lb[k]) : la.map f ≠ lb.map f :=
  ne_of_at (by simpa using ha) (by simpa using hb) (k := k) (by simpa using he)

end Go.Proofs.Ytgbnoemoangofaa
