/- A request drawn. -/
import Derived.Test.YtmnephaechgffaaDoorTq
namespace Go.Proofs.YtmnephaechgffaaDoor
open Go.ChangeShapes Go.WideShapes Go.ChangeAt Go.RowKit
set_option linter.unusedVariables false

/-- Block g is just these five cells, none frozen. -/
def Five (w : World) (g : Nat) (t : TypeId) (u0 u1 u2 u3 u4 : Value) : Prop := w.heap[g]? = some (.cells #[u0, u1, u2, u3, u4] t)

section
variable {w w' : World} {g : Nat} {t : TypeId} {u0 u1 u2 u3 u4 : Value}
theorem Five.lt (h : Five w g t u0 u1 u2 u3 u4) : g < w.heap.size := by
  unfold Five at h
  rcases Nat.lt_or_ge g w.heap.size with h1 | h1
  · exact h1
  · rw [Array.getElem?_eq_none h1] at h
    cases h
theorem Five.cells (h : Five w g t u0 u1 u2 u3 u4) : w.cell? ⟨g, 0, none⟩ = some u0 ∧ w.cell? ⟨g, 1, none⟩ = some u1 ∧ w.cell? ⟨g, 2, none⟩ = some u2 ∧ w.cell? ⟨g, 3, none⟩ = some u3 ∧ w.cell? ⟨g, 4, none⟩ = some u4 := by
  have k := fun j => cell_of_row w g j _ t (0, 0) h
  exact ⟨by simpa using k 0, by simpa using k 1, by simpa using k 2, by simpa using k 3, by simpa using k 4⟩
theorem Five.frozen (h : Five w g t u0 u1 u2 u3 u4) (j : Nat) : w.frozen? ⟨g, j, none⟩ = false := frozen_of_row w g j _ t h
theorem Five.new (w : World) : Five (w.alloc (.cells #[u0, u1, u2, u3, u4] t)) w.heap.size t u0 u1 u2 u3 u4 := heap_alloc_new w _
theorem Five.grown {row : Option Nat} (h : Five w g t u0 u1 u2 u3 u4) (hb : w.grownBy w' row) (hg : some g ≠ row) : Five w' g t u0 u1 u2 u3 u4 := (hb.block g h.lt hg).trans h
theorem Five.alloc (h : Five w g t u0 u1 u2 u3 u4) (o : Obj) : Five (w.alloc o) g t u0 u1 u2 u3 u4 := h.grown (World.grownBy_alloc w o none) (by simp)
theorem Five.set0 (h : Five w g t u0 u1 u2 u3 u4) (v : Value) : Five (w.setCell ⟨g, 0, none⟩ v) g t v u1 u2 u3 u4 := heap_setCell_same w g 0 _ t v h
theorem Five.set1 (h : Five w g t u0 u1 u2 u3 u4) (v : Value) : Five (w.setCell ⟨g, 1, none⟩ v) g t u0 v u2 u3 u4 := heap_setCell_same w g 1 _ t v h
theorem Five.set2 (h : Five w g t u0 u1 u2 u3 u4) (v : Value) : Five (w.setCell ⟨g, 2, none⟩ v) g t u0 u1 v u3 u4 := heap_setCell_same w g 2 _ t v h
theorem Five.set3 (h : Five w g t u0 u1 u2 u3 u4) (v : Value) : Five (w.setCell ⟨g, 3, none⟩ v) g t u0 u1 u2 v u4 := heap_setCell_same w g 3 _ t v h
theorem Five.set4 (h : Five w g t u0 u1 u2 u3 u4) (v : Value) : Five (w.setCell ⟨g, 4, none⟩ v) g t u0 u1 u2 u3 v := heap_setCell_same w g 4 _ t v h
end

theorem grown_new {a b c : World} {R x : Nat} (h : a.grownBy b (some R)) (k : b.grownBy c (some x)) (hx : a.heap.size ≤ x) : a.grownBy c (some R) :=
  ⟨k.os.trans h.os, k.tape.trans h.tape, k.output.trans h.output, Nat.le_trans h.size k.size, fun i hi hr => (k.block i (Nat.lt_of_lt_of_le hi h.size) (by simp; omega)).trans (h.block i hi hr)⟩

/-- Behind a store into a block that is none of the reader's. -/
theorem Reader.set {w : World} {R : Nat} {A : Option Addr} {n c : Nat} {p : Int} (h : Reader w R A n c p) (B x j : Nat) (v : Value) (hB : ∀ b off, A = some ⟨b, off, none⟩ → 0 < n → b < B) (hR : R < B) (hx : B ≤ x) : Reader (w.setCell ⟨x, j, none⟩ v) R A n c p := by
  refine ⟨(heap_setCell_other w ⟨x, j, none⟩ R v (by simp; omega)).trans h.at_, fun i hi => ?_, h.far, h.lo, h.len⟩
  obtain ⟨b, off, u, hA, hc, hu⟩ := h.bytes i hi
  have hb := hB b off hA (by omega)
  exact ⟨b, off, u, hA, (grownBy_set w x j v).cell hc (by simp; omega), hu⟩

theorem Reader.old {w : World} {R : Nat} {A : Option Addr} {n c : Nat} {p : Int} (h : Reader w R A n c p) : ∀ b off, A = some ⟨b, off, none⟩ → 0 < n → b < w.heap.size := by
  intro b off hA h0
  obtain ⟨b', off', u, hA', hc, _⟩ := h.bytes 0 h0
  rw [hA] at hA'
  cases hA'
  exact World.block_lt_of_cell? w _ hc

theorem Drawn.alloc {w w' : World} {R : Nat} {A : Option Addr} {n c : Nat} {p K : Int} (h : Drawn w R A n c p K w') (o : Obj) : Drawn w R A n c p K (w'.alloc o) := by
  obtain ⟨q, h0, h1, hr, hg⟩ := h
  exact ⟨q, h0, h1, hr.below ((Below.refl _ _).alloc (Nat.le_refl _) o), grownBy_trans hg (World.grownBy_alloc _ _ _)⟩

/-- The result's five cells written, behind all draws. -/
theorem back5 {w W : World} {R : Nat} {A : Option Addr} {n c : Nat} {p K q : Int} (u0 u1 u2 u3 u4 : Value) (hq0 : p ≤ q) (hq1 : q ≤ p + K) (hr : Reader W R A n c q) (hg : w.grownBy W (some R)) (hOld : ∀ b off, A = some ⟨b, off, none⟩ → 0 < n → b < w.heap.size) (hR : R < w.heap.size) :
    Drawn w R A n c p K (((((W.setCell ⟨w.heap.size, 0, none⟩ u0).setCell ⟨w.heap.size, 1, none⟩ u1).setCell ⟨w.heap.size, 2, none⟩ u2).setCell ⟨w.heap.size, 3, none⟩ u3).setCell ⟨w.heap.size, 4, none⟩ u4) := by
  refine ⟨q, hq0, hq1, ?_, ?_⟩
  · exact ((((hr.set w.heap.size _ 0 u0 hOld hR (Nat.le_refl _)).set w.heap.size _ 1 u1 hOld hR (Nat.le_refl _)).set w.heap.size _ 2 u2 hOld hR (Nat.le_refl _)).set w.heap.size _ 3 u3 hOld hR (Nat.le_refl _)).set w.heap.size _ 4 u4 hOld hR (Nat.le_refl _)
  · exact grown_new (grown_new (grown_new (grown_new (grown_new hg (grownBy_set _ _ 0 u0) (Nat.le_refl _)) (grownBy_set _ _ 1 u1) (Nat.le_refl _)) (grownBy_set _ _ 2 u2) (Nat.le_refl _)) (grownBy_set _ _ 3 u3) (Nat.le_refl _)) (grownBy_set _ _ 4 u4) (Nat.le_refl _)

end Go.Proofs.YtmnephaechgffaaDoor
