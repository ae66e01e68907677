/- What is done ahead, drawn of a code: the draws of the laws. -/
import Derived.Test.YtnpdlpkomfegfaaLa
namespace Go.Proofs.Ytnpdlpkomfegfaa
open Go.ChangeShapes Go.WideShapes Go.ChangeAt Go.RowKit
set_option linter.unusedVariables false
set_option linter.unusedSimpArgs false

theorem in_below {w w' : World} {A : Option Addr} {n : Nat} (h : InB w A n) (hb : Below w.heap.size w w') : InB w' A n := fun i hi => by
 obtain ⟨b, off, u, h1, h2, h3⟩ := h i hi
 exact ⟨b, off, u, h1, (Below.grownBy hb none).cell h2 (by simp), h3⟩
end Go.Proofs.Ytnpdlpkomfegfaa
