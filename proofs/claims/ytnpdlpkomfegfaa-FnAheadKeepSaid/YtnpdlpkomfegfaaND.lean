/- Gp, Gq -/
import Derived.Test.YtnpdlpkomfegfaaGo
/- The model's: gold taken. -/
namespace Go.Proofs.Ytnpdlpkomfegfaa
open Go.ChangeShapes Go.WideShapes Go.ChangeAt Go.RowKit
set_option linter.unusedVariables false
set_option linter.unusedSimpArgs false

theorem own_other {w : World} {base : Nat} {e : TypeId} {size q n c : Nat} {xs : List Value} (h : w.ownsRow base e size (.slice (some ⟨q, 0, none⟩) n c) n xs) {p : Nat} (hp : q ≠ p) (o : Nat) (u : Value) : (w.setCell ⟨p, o, none⟩ u).ownsRow base e size (.slice (some ⟨q, 0, none⟩) n c) n xs :=
 h.kept (grownBy_set w p o u) (.inr (fun e => hp (Option.some.inj (by simpa [Value.ownBlock] using e))))

end Go.Proofs.Ytnpdlpkomfegfaa
