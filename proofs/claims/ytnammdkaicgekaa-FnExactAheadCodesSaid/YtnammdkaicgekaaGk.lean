/- A game copied: the model's way. -/
import Derived.Test.YtnammdkaicgekaaNB
namespace Go.Proofs.Ytnammdkaicgekaa
open Go.ChangeShapes Go.WideShapes Go.ChangeAt Go.RowKit
set_option linter.unusedVariables false
set_option linter.unusedSimpArgs false

theorem app_keep {w w' : World} {base : Nat} {e : TypeId} {size : Nat} {u v : Value} {n : Nat} {xs : List Value} (h : w.ownsRow base e size v n xs) (hg : w.grownBy w' u.ownBlock) (D : ∀ x, u.ownBlock = some x → v.ownBlock ≠ some x) : w'.ownsRow base e size v n xs := by
 rcases hq : v.ownBlock with _ | x
 · exact h.kept hg (.inl hq)
 · exact h.kept hg (.inr (by rw [hq]; exact fun e => D x e.symm hq))
theorem app_apart {w : World} {base : Nat} {e : TypeId} {size : Nat} {u u' v : Value} {n : Nat} {xs : List Value} (h : w.ownsRow base e size v n xs) (hp : u'.ownBlock = u.ownBlock ∨ u'.ownBlock = some w.heap.size) (D : ∀ x, u.ownBlock = some x → v.ownBlock ≠ some x) : ∀ x, u'.ownBlock = some x → v.ownBlock ≠ some x := by
 intro x hx e
 rcases hp with h1 | h1
 · exact D x (by rw [← h1]; exact hx) e
 · rw [h1] at hx
   injection hx with hx
   have := (h.lt x e).2
   omega
theorem new_apart {w : World} {base : Nat} {e : TypeId} {size : Nat} {v : Value} {n m c : Nat} {xs : List Value} (h : w.ownsRow base e size v n xs) : ∀ x, (Value.slice (some ⟨w.heap.size, 0, none⟩) m c).ownBlock = some x → v.ownBlock ≠ some x := by
 intro x hx e
 have h1 := (h.lt x e).2
 simp [Value.ownBlock] at hx
 omega
theorem own_nil_new (w : World) (e : TypeId) (size : Nat) (h : (#[] : Array Value).size = 0 * size) : (w.alloc (.cells #[] e)).ownsRow w.heap.size e size (.slice (some ⟨w.heap.size, 0, none⟩) 0 0) 0 [] :=
 World.ownsRow_lit (size := size) w #[] 0 (Nat.le_refl _) (by unfold maxLen; omega) h

end Go.Proofs.Ytnammdkaicgekaa
