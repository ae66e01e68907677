/- A board held; a figure moved. -/
import Derived.Test.YthjiooocahdfpaaGe
namespace Go.Proofs.Ythjiooocahdfpaa
open Go.ChangeShapes Go.WideShapes Go.ChangeAt Go.RowKit
set_option linter.unusedVariables false
set_option linter.unusedSimpArgs false

/-- A board at p: its rows are the call's own, from lo on, and lie apart. -/
structure Bd (w : World) (p lo : Nat) (A : Option Addr) (a : Nat) (B : Option Addr) (b : Nat) (C : Option Addr) (d : Nat) (E : List Fig) (F L : List Int) : Prop where
  at_ : Three w p 31 (.slice A E.length a) (.slice B F.length b) (.slice C L.length d)
  e : w.ownsRow lo 74 5 (.slice A E.length a) E.length (figs E)
  f : w.ownsRow lo 3 1 (.slice B F.length b) F.length (ints F)
  l : w.ownsRow lo 3 1 (.slice C L.length d) L.length (ints L)
  ef : ∀ x, (Value.slice A E.length a).ownBlock = some x → (Value.slice B F.length b).ownBlock ≠ some x
  el : ∀ x, (Value.slice A E.length a).ownBlock = some x → (Value.slice C L.length d).ownBlock ≠ some x
  fl : ∀ x, (Value.slice B F.length b).ownBlock = some x → (Value.slice C L.length d).ownBlock ≠ some x
  pe : (Value.slice A E.length a).ownBlock ≠ some p
  pf : (Value.slice B F.length b).ownBlock ≠ some p
  pl : (Value.slice C L.length d).ownBlock ≠ some p
  lo : lo ≤ p
section
variable {w w' : World} {p lo : Nat} {A : Option Addr} {a : Nat} {B : Option Addr} {b : Nat} {C : Option Addr} {d : Nat} {E : List Fig} {F L : List Int}
theorem Bd.below (h : Bd w p lo A a B b C d E F L) (hb : Below w.heap.size w w') : Bd w' p lo A a B b C d E F L :=
  ⟨h.at_.below hb h.at_.lt, own_keepN h.e (Below.grownBy hb none), own_keepN h.f (Below.grownBy hb none), own_keepN h.l (Below.grownBy hb none), h.ef, h.el, h.fl, h.pe, h.pf, h.pl, h.lo⟩
/-- One cell of a figure turned. -/
theorem Bd.setE {g : Nat} (h : Bd w p lo (some ⟨g, 0, none⟩) a B b C d E F L) (k j : Nat) (hk : k < E.length) (hj : j < 5) (u : Value) (f : Fig) (hf : f.cells = (E[k]'hk).cells.set j u) : Bd (w.setCell ⟨g, k * 5 + j, none⟩ u) p lo (some ⟨g, 0, none⟩) a B b C d (E.set k f) F L := by
  have hn : E.length = (E.set k f).length := by simp
  have hl : k * 5 + j < (figs E).length := by rw [figs_length]; omega
  obtain ⟨h1, h2⟩ := own_set1 (k * 5 + j) u hl h.e
  rw [figs_set E k j hk hj u f hf] at h1
  rw [hn] at h1
  have e0 := h.at_
  have e2 := h.ef
  have e3 := h.el
  have e4 := h.pe
  rw [hn] at e0 e2 e3 e4
  refine ⟨e0.grown h2 (by simpa [Value.ownBlock] using fun e => h.pe (by rw [← e]; rfl)), h1, ?_, ?_, e2, e3, h.fl, e4, h.pf, h.pl, h.lo⟩
  · exact h.f.kept h2 (.inr (h.ef g rfl))
  · exact h.l.kept h2 (.inr (h.el g rfl))
/-- One number of the floor turned. -/
theorem Bd.setF {g : Nat} (h : Bd w p lo A a (some ⟨g, 0, none⟩) b C d E F L) (k : Nat) (hk : k < F.length) (v : Int) : Bd (w.setCell ⟨g, k, none⟩ (.int .i64 v)) p lo A a (some ⟨g, 0, none⟩) b C d E (F.set k v) L := by
  have hn : F.length = (F.set k v).length := by simp
  have hl : k < (ints F).length := by simpa [ints] using hk
  obtain ⟨h1, h2⟩ := own_set1 k (.int .i64 v) hl h.f
  have hi : (ints F).set k (.int .i64 v) = ints (F.set k v) := by unfold ints; rw [List.map_set]
  rw [hi, hn] at h1
  have e0 := h.at_
  have e2 := h.ef
  have e3 := h.fl
  have e4 := h.pf
  rw [hn] at e0 e2 e3 e4
  refine ⟨e0.grown h2 (by simpa [Value.ownBlock] using fun e => h.pf (by rw [← e]; rfl)), ?_, h1, ?_, e2, h.el, e3, h.pe, e4, h.pl, h.lo⟩
  · exact h.e.kept h2 (.inr fun e => h.ef g e rfl)
  · exact h.l.kept h2 (.inr (h.fl g rfl))
end

end Go.Proofs.Ythjiooocahdfpaa
