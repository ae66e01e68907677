/- A block known whole. Plain facts of memory; no program. -/
import Derived.Test.YthidcmffnpnjjaaDoorMem3
namespace Go.Proofs.YthidcmffnpnjjaaDoor
open Go.ChangeShapes Go.WideShapes Go.ChangeAt Go.RowKit
set_option linter.unusedVariables false

/-- Block g is just these cells, none frozen. -/
def Bkk (w : World) (g : Nat) (t : TypeId) (cs : Array Value) : Prop := w.heap[g]? = some (.cells cs t)
section
variable {w w' : World} {g : Nat} {t : TypeId} {cs : Array Value}
theorem Bkk.lt (h : Bkk w g t cs) : g < w.heap.size := by
  unfold Bkk at h
  rcases Nat.lt_or_ge g w.heap.size with h1 | h1
  · exact h1
  · rw [Array.getElem?_eq_none h1] at h
    cases h
theorem Bkk.cell (h : Bkk w g t cs) (j : Nat) : w.cell? ⟨g, j, none⟩ = cs[j]? := cell_of_row w g j _ t (0, 0) h
theorem Bkk.frozen (h : Bkk w g t cs) (j : Nat) : w.frozen? ⟨g, j, none⟩ = false := frozen_of_row w g j _ t h
theorem Bkk.new (w : World) : Bkk (w.alloc (.cells cs t)) w.heap.size t cs := heap_alloc_new w _
theorem Bkk.alloc (h : Bkk w g t cs) (o : Obj) : Bkk (w.alloc o) g t cs := (Below.heap_alloc w o g h.lt).trans h
theorem Bkk.below (h : Bkk w g t cs) (hb : Below w.heap.size w w') : Bkk w' g t cs := (hb.block g h.lt).trans h
theorem Bkk.set (h : Bkk w g t cs) (j : Nat) (v : Value) : Bkk (w.setCell ⟨g, j, none⟩ v) g t (cs.setIfInBounds j v) := heap_setCell_same w g j _ t v h
theorem Bkk.far (h : Bkk w g t cs) {g' : Nat} (hg : g ≠ g') (j : Nat) (v : Value) : Bkk (w.setCell ⟨g', j, none⟩ v) g t cs := (heap_setCell_other w ⟨g', j, none⟩ g v (by simpa using hg)).trans h
end

theorem own_put {w : World} {base : Nat} {e : TypeId} {size : Nat} {v : Value} {n : Nat} {xs : List Value} (h : w.ownsRow base e size v n xs) {b : Nat} (hb : b < base) (o : Nat) (u : Value) : (w.setCell ⟨b, o, none⟩ u).ownsRow base e size v n xs :=
  h.kept (grownBy_set w b o u) (.inr fun e => by have := (h.lt b e).1; omega)

end Go.Proofs.YthidcmffnpnjjaaDoor
