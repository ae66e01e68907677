/- What is done ahead: laid anew, held against its like, sized; as it came in. -/
import Derived.Test.YtnpdlpkomfegfaaHb
import Derived.Test.YtnpdlpkomfegfaaME
import Derived.Test.YtnpdlpkomfegfaaBk
namespace Go.Proofs.Ytnpdlpkomfegfaa
open Go.ChangeShapes Go.WideShapes Go.ChangeAt Go.RowKit
set_option linter.unusedVariables false
set_option linter.unusedSimpArgs false

/-- What is done ahead, in rows of the call's own. -/
structure OwA (w : World) (lo : Nat) (A : Option Addr) (a : Nat) (B : Option Addr) (b : Nat) (D W : List Rq) : Prop where
 d : w.ownsRow lo 37 5 (.slice A D.length a) D.length (D.flatMap Rq.cells)
 t : w.ownsRow lo 37 5 (.slice B W.length b) W.length (W.flatMap Rq.cells)
 dt : ∀ x, (Value.slice A D.length a).ownBlock = some x → (Value.slice B W.length b).ownBlock ≠ some x
theorem OwA.nil (w : World) (lo : Nat) : OwA w lo none 0 none 0 [] [] := ⟨World.ownsRow_nil _ _ _ _, World.ownsRow_nil _ _ _ _, (fun _ h => by cases h)⟩
theorem OwA.below {w : World} {lo : Nat} {A : Option Addr} {a : Nat} {B : Option Addr} {b : Nat} {D W : List Rq} {w' : World} (h : OwA w lo A a B b D W) (hb : Below w.heap.size w w') : OwA w' lo A a B b D W := ⟨own_below h.d hb, own_below h.t hb, h.dt⟩
theorem OwA.base {w : World} {lo : Nat} {A : Option Addr} {a : Nat} {B : Option Addr} {b : Nat} {D W : List Rq} {p : Nat} (h : OwA w p A a B b D W) (hl : lo ≤ p) : OwA w lo A a B b D W := ⟨own_base h.d hl, own_base h.t hl, h.dt⟩
theorem OwA.put {w : World} {lo : Nat} {A : Option Addr} {a : Nat} {B : Option Addr} {b : Nat} {D W : List Rq} (h : OwA w lo A a B b D W) {q : Nat} (hq : q < lo) (o : Nat) (u : Value) : OwA (w.setCell ⟨q, o, none⟩ u) lo A a B b D W := ⟨own_put h.d hq o u, own_put h.t hq o u, h.dt⟩
theorem OwA.rd {w : World} {lo : Nat} {A : Option Addr} {a : Nat} {B : Option Addr} {b : Nat} {D W : List Rq} (h : OwA w lo A a B b D W) : Rd 5 Rq.cells w A D ∧ Rd 5 Rq.cells w B W :=
 ⟨Rd.of_own (f := Rq.cells) (k := 5) (fun _ => rfl) h.d rfl, Rd.of_own (f := Rq.cells) (k := 5) (fun _ => rfl) h.t rfl⟩
section
variable {H : Type} {enc : TypeId × Value → H} {w : World} {base : Nat} {spare : Nat → Bool} {held : Bool}
end

end Go.Proofs.Ytnpdlpkomfegfaa
