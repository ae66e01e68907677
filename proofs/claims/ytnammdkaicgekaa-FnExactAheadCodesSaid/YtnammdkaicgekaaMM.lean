/- Tp, By, Tq, Tr, Ts, Tt -/
import Derived.Test.YtnammdkaicgekaaMC
import Derived.IntWalk
import Derived.ChangeSlices
import Derived.OpenShut
/- Draws: one number. -/
namespace Go.Proofs.Ytnammdkaicgekaa
open Go.ChangeShapes Go.WideShapes Go.ChangeAt Go.RowKit
set_option linter.unusedVariables false

/-- The slice at A, wherever it lies, reads as n bytes. -/
def InB (w : World) (A : Option Addr) (n : Nat) : Prop := ∀ i, i < n → ∃ (b off : Nat) (u : Int), A = some ⟨b, off, none⟩ ∧ w.cell? ⟨b, off + i, none⟩ = some (.int .u8 u) ∧ 0 ≤ u ∧ u ≤ 255

end Go.Proofs.Ytnammdkaicgekaa

/- A request drawn. -/
namespace Go.Proofs.Ytnammdkaicgekaa
open Go.ChangeShapes Go.WideShapes Go.ChangeAt Go.RowKit
set_option linter.unusedVariables false

/-- Block g is just these five cells, none frozen. -/
def Five (w : World) (g : Nat) (t : TypeId) (u0 u1 u2 u3 u4 : Value) : Prop := w.heap[g]? = some (.cells #[u0, u1, u2, u3, u4] t)

section
variable {w w' : World} {g : Nat} {t : TypeId} {u0 u1 u2 u3 u4 : Value}
theorem Five.lt (h : Five w g t u0 u1 u2 u3 u4) : g < w.heap.size := by
 unfold Five at h
 rcases Nat.lt_or_ge g w.heap.size with h1 | h1
 · exact h1
 · rw [Array.getElem?_eq_none h1] at h
   cases h
theorem Five.cells (h : Five w g t u0 u1 u2 u3 u4) : w.cell? ⟨g, 0, none⟩ = some u0 ∧ w.cell? ⟨g, 1, none⟩ = some u1 ∧ w.cell? ⟨g, 2, none⟩ = some u2 ∧ w.cell? ⟨g, 3, none⟩ = some u3 ∧ w.cell? ⟨g, 4, none⟩ = some u4 := by
 have k := fun j => cell_of_row w g j _ t (0, 0) h
 exact ⟨by simpa using k 0, by simpa using k 1, by simpa using k 2, by simpa using k 3, by simpa using k 4⟩
theorem Five.frozen (h : Five w g t u0 u1 u2 u3 u4) (j : Nat) : w.frozen? ⟨g, j, none⟩ = false := frozen_of_row w g j _ t h
theorem Five.new (w : World) : Five (w.alloc (.cells #[u0, u1, u2, u3, u4] t)) w.heap.size t u0 u1 u2 u3 u4 := heap_alloc_new w _
theorem Five.grown {row : Option Nat} (h : Five w g t u0 u1 u2 u3 u4) (hb : w.grownBy w' row) (hg : some g ≠ row) : Five w' g t u0 u1 u2 u3 u4 := (hb.block g h.lt hg).trans h
theorem Five.alloc (h : Five w g t u0 u1 u2 u3 u4) (o : Obj) : Five (w.alloc o) g t u0 u1 u2 u3 u4 := h.grown (World.grownBy_alloc w o none) (by simp)
theorem Five.set0 (h : Five w g t u0 u1 u2 u3 u4) (v : Value) : Five (w.setCell ⟨g, 0, none⟩ v) g t v u1 u2 u3 u4 := heap_setCell_same w g 0 _ t v h
theorem Five.set1 (h : Five w g t u0 u1 u2 u3 u4) (v : Value) : Five (w.setCell ⟨g, 1, none⟩ v) g t u0 v u2 u3 u4 := heap_setCell_same w g 1 _ t v h
theorem Five.set2 (h : Five w g t u0 u1 u2 u3 u4) (v : Value) : Five (w.setCell ⟨g, 2, none⟩ v) g t u0 u1 v u3 u4 := heap_setCell_same w g 2 _ t v h
theorem Five.set3 (h : Five w g t u0 u1 u2 u3 u4) (v : Value) : Five (w.setCell ⟨g, 3, none⟩ v) g t u0 u1 u2 v u4 := heap_setCell_same w g 3 _ t v h
theorem Five.set4 (h : Five w g t u0 u1 u2 u3 u4) (v : Value) : Five (w.setCell ⟨g, 4, none⟩ v) g t u0 u1 u2 u3 v := heap_setCell_same w g 4 _ t v h
end

theorem grown_new {a b c : World} {R x : Nat} (h : a.grownBy b (some R)) (k : b.grownBy c (some x)) (hx : a.heap.size ≤ x) : a.grownBy c (some R) :=
 ⟨k.os.trans h.os, k.tape.trans h.tape, k.output.trans h.output, Nat.le_trans h.size k.size, fun i hi hr => (k.block i (Nat.lt_of_lt_of_le hi h.size) (by simp; omega)).trans (h.block i hi hr)⟩

end Go.Proofs.Ytnammdkaicgekaa
