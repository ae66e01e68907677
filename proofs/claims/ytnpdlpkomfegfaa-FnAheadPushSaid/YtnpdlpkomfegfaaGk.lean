/- A game copied: the model's way. -/
import Derived.Test.YtnpdlpkomfegfaaNB
namespace Go.Proofs.Ytnpdlpkomfegfaa
open Go.ChangeShapes Go.WideShapes Go.ChangeAt Go.RowKit
set_option linter.unusedVariables false
set_option linter.unusedSimpArgs false

theorem own_nil_new (w : World) (e : TypeId) (size : Nat) (h : (#[] : Array Value).size = 0 * size) : (w.alloc (.cells #[] e)).ownsRow w.heap.size e size (.slice (some ⟨w.heap.size, 0, none⟩) 0 0) 0 [] :=
 World.ownsRow_lit (size := size) w #[] 0 (Nat.le_refl _) (by unfold maxLen; omega) h

end Go.Proofs.Ytnpdlpkomfegfaa
