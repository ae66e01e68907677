/- Gfh, Gfi, Gfj, Gfk, Gfl -/
import Derived.Test.YtnammdkaicgekaaMM
import Derived.Test.YtnammdkaicgekaaMH
import Derived.Test.YtnammdkaicgekaaMQ
import Derived.Test.YtnammdkaicgekaaMU
import Derived.Test.YtnammdkaicgekaaMC
import Derived.Deep.Cut
/- Requests drawn: what a round of the draw keeps. -/
namespace Go.Proofs.Ytnammdkaicgekaa
open Go.ChangeShapes Go.WideShapes Go.ChangeAt Go.RowKit
set_option linter.unusedVariables false
set_option linter.unusedSimpArgs false

theorem heap_ltG {w : World} {g : Nat} {o : Obj} (h : w.heap[g]? = some o) : g < w.heap.size := by
 rcases Nat.lt_or_ge g w.heap.size with h1 | h1
 · exact h1
 · rw [Array.getElem?_eq_none h1] at h; cases h
theorem own_ge_ne {w W : World} {base R : Nat} {e : TypeId} {size m : Nat} {v : Value} {xs : List Value} (h : W.ownsRow base e size v m xs) (hR : R < base) : v.ownBlock ≠ some R := fun e => by
 have := (own_block_ge h R e).1; omega
end Go.Proofs.Ytnammdkaicgekaa

/- Requests are done one by one: the law. -/
namespace Go.Proofs.Ytnammdkaicgekaa
open Go.ChangeShapes Go.WideShapes Go.ChangeAt Go.RowKit
set_option linter.unusedVariables false
set_option linter.unusedSimpArgs false

theorem own_box {w : World} {lo p : Nat} {e t : TypeId} {size n : Nat} {v : Value} {xs : List Value} {u0 u1 u2 : Value} (h : w.ownsRow lo e size v n xs) (hT : Three w p t u0 u1 u2) (hne : e ≠ t) (o : Nat) (u : Value) : (w.setCell ⟨p, o, none⟩ u).ownsRow lo e size v n xs :=
 own_same h (fun k hk => heap_setCell_other w ⟨p, o, none⟩ k _ (by
  intro e
  subst e
  exact own_type h hT hne hk))
end Go.Proofs.Ytnammdkaicgekaa
