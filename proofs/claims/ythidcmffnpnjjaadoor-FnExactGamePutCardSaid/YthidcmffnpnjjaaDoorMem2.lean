/- Slices that came in. Plain facts of memory; no program. -/
import Derived.Test.YthidcmffnpnjjaaDoorMem
namespace Go.Proofs.YthidcmffnpnjjaaDoor
open Go.ChangeShapes Go.WideShapes Go.ChangeAt Go.RowKit

/-- The slice at A, wherever it lies, reads as the ints l. -/
def InI (w : World) (A : Option Addr) (l : List Int) : Prop := ∀ i (h : i < l.length), ∃ b off : Nat, A = some ⟨b, off, none⟩ ∧ w.cell? ⟨b, off + i, none⟩ = some (.int .i64 (l[i]'h))

/-- The slice at A, wherever it lies, reads as the figures E. -/
def InF (w : World) (A : Option Addr) (E : List Fig) : Prop := ∀ i (h : i < E.length), ∃ b off : Nat, A = some ⟨b, off, none⟩ ∧
  w.cell? ⟨b, off + i * 5, none⟩ = some (.int .i64 (E[i]'h).c) ∧ w.cell? ⟨b, off + i * 5 + 1, none⟩ = some (.int .i64 (E[i]'h).x) ∧ w.cell? ⟨b, off + i * 5 + 2, none⟩ = some (.int .i64 (E[i]'h).y) ∧
  w.cell? ⟨b, off + i * 5 + 3, none⟩ = some (.int .i64 (E[i]'h).l) ∧ w.cell? ⟨b, off + i * 5 + 4, none⟩ = some (.int .i64 (E[i]'h).g)

theorem InI.below {w w' : World} {A : Option Addr} {l : List Int} (h : InI w A l) (hb : Below w.heap.size w w') : InI w' A l := by
  intro i hi
  obtain ⟨g, o, rfl, h0⟩ := h i hi
  exact ⟨g, o, rfl, cell_kept hb h0⟩

theorem InF.below {w w' : World} {A : Option Addr} {E : List Fig} (h : InF w A E) (hb : Below w.heap.size w w') : InF w' A E := by
  intro i hi
  obtain ⟨g, o, rfl, h0, h1, h2, h3, h4⟩ := h i hi
  exact ⟨g, o, rfl, cell_kept hb h0, cell_kept hb h1, cell_kept hb h2, cell_kept hb h3, cell_kept hb h4⟩

theorem set_next (l : List Int) (xs : List Value) (j : Nat) (hj : j < l.length) (hx : l.length = xs.length) : (ints (l.take j) ++ xs.drop j).set j (.int .i64 l[j]) = ints (l.take (j + 1)) ++ xs.drop (j + 1) := by
  rw [List.set_append_right _ _ (by simp; omega)]
  have h1 : j - (ints (l.take j)).length = 0 := by simp; omega
  rw [h1, List.drop_eq_getElem_cons (by omega), List.set_cons_zero, List.take_succ_eq_append_getElem hj]
  simp only [ints, List.map_append, List.map_cons, List.map_nil, List.append_assoc, List.singleton_append]

theorem grownBy_none {w w' : World} {o : Option Nat} (h : w.grownBy w' none) : w.grownBy w' o := ⟨h.os, h.tape, h.output, h.size, fun k hk _ => h.block k hk (by simp)⟩

theorem Below.of_none {w w' : World} (h : w.grownBy w' none) : Below w.heap.size w w' := ⟨h.os, h.tape, h.output, h.size, fun k hk => h.block k hk (by simp)⟩

theorem set_app (pre xs : List Value) (p : Nat) (a : Value) (hp : pre.length = p) (hx : p < xs.length) : (pre ++ xs.drop p).set p a = (pre ++ [a]) ++ xs.drop (p + 1) := by
  rw [List.set_append_right _ _ (by omega), show p - pre.length = 0 from by omega, List.drop_eq_getElem_cons hx, List.set_cons_zero, List.append_assoc, List.singleton_append]

theorem store1 {w : World} {base : Nat} {e : TypeId} {size g n c : Nat} {pre xs : List Value} (p : Nat) (a : Value) (hp : pre.length = p) (hx : p < xs.length)
    (h : w.ownsRow base e size (.slice (some ⟨g, 0, none⟩) n c) n (pre ++ xs.drop p)) :
    (w.setCell ⟨g, p, none⟩ a).ownsRow base e size (.slice (some ⟨g, 0, none⟩) n c) n ((pre ++ [a]) ++ xs.drop (p + 1)) ∧ w.grownBy (w.setCell ⟨g, p, none⟩ a) (some g) := by
  have := h.stored p a
  rwa [set_app pre xs p a hp hx] at this

theorem store5 {w : World} {base : Nat} {e : TypeId} {size g n c : Nat} {E : List Fig} {xs : List Value} (j : Nat) (hj : j < E.length) (hx : E.length * 5 = xs.length)
    (h : w.ownsRow base e size (.slice (some ⟨g, 0, none⟩) n c) n (figs (E.take j) ++ xs.drop (j * 5))) :
    (((((w.setCell ⟨g, j * 5, none⟩ (.int .i64 E[j].c)).setCell ⟨g, j * 5 + 1, none⟩ (.int .i64 E[j].x)).setCell ⟨g, j * 5 + 2, none⟩ (.int .i64 E[j].y)).setCell
      ⟨g, j * 5 + 3, none⟩ (.int .i64 E[j].l)).setCell ⟨g, j * 5 + 4, none⟩ (.int .i64 E[j].g)).ownsRow base e size (.slice (some ⟨g, 0, none⟩) n c) n (figs (E.take (j + 1)) ++ xs.drop ((j + 1) * 5)) ∧
    w.grownBy (((((w.setCell ⟨g, j * 5, none⟩ (.int .i64 E[j].c)).setCell ⟨g, j * 5 + 1, none⟩ (.int .i64 E[j].x)).setCell ⟨g, j * 5 + 2, none⟩ (.int .i64 E[j].y)).setCell
      ⟨g, j * 5 + 3, none⟩ (.int .i64 E[j].l)).setCell ⟨g, j * 5 + 4, none⟩ (.int .i64 E[j].g)) (some g) := by
  have hl : (figs (E.take j)).length = j * 5 := by rw [figs_length, List.length_take, Nat.min_eq_left (by omega)]
  obtain ⟨h1, g1⟩ := store1 (j * 5) (.int .i64 E[j].c) hl (by omega) h
  obtain ⟨h2, g2⟩ := store1 (j * 5 + 1) (.int .i64 E[j].x) (by simp [hl]) (by omega) h1
  obtain ⟨h3, g3⟩ := store1 (j * 5 + 2) (.int .i64 E[j].y) (by simp [hl]) (by omega) h2
  obtain ⟨h4, g4⟩ := store1 (j * 5 + 3) (.int .i64 E[j].l) (by simp [hl]) (by omega) h3
  obtain ⟨h5, g5⟩ := store1 (j * 5 + 4) (.int .i64 E[j].g) (by simp [hl]) (by omega) h4
  refine ⟨?_, grownBy_trans (grownBy_trans (grownBy_trans (grownBy_trans g1 g2) g3) g4) g5⟩
  have e1 : figs (E.take (j + 1)) = figs (E.take j) ++ [Value.int .i64 E[j].c] ++ [.int .i64 E[j].x] ++ [.int .i64 E[j].y] ++ [.int .i64 E[j].l] ++ [.int .i64 E[j].g] := by
    rw [List.take_succ_eq_append_getElem hj]
    simp only [figs, List.flatMap_append, List.flatMap_cons, List.flatMap_nil, List.append_nil, Fig.cells, List.append_assoc, List.cons_append, List.nil_append]
  rw [e1, show (j + 1) * 5 = j * 5 + 4 + 1 from by omega]
  exact h5

/-- Block g is just these three cells, none frozen. -/
def Three (w : World) (g : Nat) (t : TypeId) (u0 u1 u2 : Value) : Prop := w.heap[g]? = some (.cells #[u0, u1, u2] t)

section
variable {w w' : World} {g : Nat} {t : TypeId} {u0 u1 u2 : Value}
theorem Three.lt (h : Three w g t u0 u1 u2) : g < w.heap.size := by
  unfold Three at h
  rcases Nat.lt_or_ge g w.heap.size with h1 | h1
  · exact h1
  · rw [Array.getElem?_eq_none h1] at h
    cases h
theorem Three.cells (h : Three w g t u0 u1 u2) : w.cell? ⟨g, 0, none⟩ = some u0 ∧ w.cell? ⟨g, 1, none⟩ = some u1 ∧ w.cell? ⟨g, 2, none⟩ = some u2 := by
  have k := fun j => cell_of_row w g j _ t (0, 0) h
  exact ⟨by simpa using k 0, by simpa using k 1, by simpa using k 2⟩
theorem Three.frozen (h : Three w g t u0 u1 u2) (j : Nat) : w.frozen? ⟨g, j, none⟩ = false := frozen_of_row w g j _ t h
theorem Three.new (w : World) : Three (w.alloc (.cells #[u0, u1, u2] t)) w.heap.size t u0 u1 u2 := heap_alloc_new w _
theorem Three.alloc (h : Three w g t u0 u1 u2) (o : Obj) : Three (w.alloc o) g t u0 u1 u2 := (Below.heap_alloc w o g h.lt).trans h
theorem Three.below {B : Nat} (h : Three w g t u0 u1 u2) (hb : Below B w w') (hg : g < B) : Three w' g t u0 u1 u2 := (hb.block g hg).trans h
theorem Three.grown {row : Option Nat} (h : Three w g t u0 u1 u2) (hb : w.grownBy w' row) (hg : some g ≠ row) : Three w' g t u0 u1 u2 := (hb.block g h.lt hg).trans h
theorem Three.set0 (h : Three w g t u0 u1 u2) (v : Value) : Three (w.setCell ⟨g, 0, none⟩ v) g t v u1 u2 := heap_setCell_same w g 0 _ t v h
theorem Three.set1 (h : Three w g t u0 u1 u2) (v : Value) : Three (w.setCell ⟨g, 1, none⟩ v) g t u0 v u2 := heap_setCell_same w g 1 _ t v h
theorem Three.set2 (h : Three w g t u0 u1 u2) (v : Value) : Three (w.setCell ⟨g, 2, none⟩ v) g t u0 u1 v := heap_setCell_same w g 2 _ t v h
theorem Three.far (h : Three w g t u0 u1 u2) {g' j : Nat} (hg : g ≠ g') (v : Value) : Three (w.setCell ⟨g', j, none⟩ v) g t u0 u1 u2 := (heap_setCell_other w ⟨g', j, none⟩ g v (by simpa using hg)).trans h
theorem Three.drew (h : Three w g t u0 u1 u2) : Three w.drew g t u0 u1 u2 := h
end
end Go.Proofs.YthidcmffnpnjjaaDoor
