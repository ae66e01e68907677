/- Blocks that are stored into, cell by cell. -/
import Derived.Test.YtjpbflehedbijaaMF
namespace Go.Proofs.Ytjpbflehedbijaa
open Go.ChangeShapes Go.WideShapes Go.ChangeAt Go.RowKit
set_option linter.unusedVariables false
set_option linter.unusedSimpArgs false

theorem Blk.store2 {w : World} {g : Nat} {t : TypeId} {a0 a1 : Value} (b0 b1 : Value) (h : Blk w g t #[a0, a1]) : Blk ((w.setCell ⟨g, 0, none⟩ b0).setCell ⟨g, 1, none⟩ b1) g t #[b0, b1] := by
  have := ((h.set 0 b0).set 1 b1)
  simpa using this
theorem Blk.away2 {w : World} {g g' : Nat} {t : TypeId} {cs : Array Value} (b0 b1 : Value) (hg : g ≠ g') (h : Blk w g t cs) : Blk ((w.setCell ⟨g', 0, none⟩ b0).setCell ⟨g', 1, none⟩ b1) g t cs := ((h.far hg 0 b0).far hg 1 b1)
theorem Below.store2 {w w' : World} {k g : Nat} (b0 b1 : Value) (hg : k ≤ g) (h : Below k w w') : Below k w ((w'.setCell ⟨g, 0, none⟩ b0).setCell ⟨g, 1, none⟩ b1) := by
  iterate 2 (refine Below.setCell ?_ (by simpa using hg) _)
  exact h

theorem Blk.store5 {w : World} {g : Nat} {t : TypeId} {a0 a1 a2 a3 a4 : Value} (b0 b1 b2 b3 b4 : Value) (h : Blk w g t #[a0, a1, a2, a3, a4]) : Blk (((((w.setCell ⟨g, 0, none⟩ b0).setCell ⟨g, 1, none⟩ b1).setCell ⟨g, 2, none⟩ b2).setCell ⟨g, 3, none⟩ b3).setCell ⟨g, 4, none⟩ b4) g t #[b0, b1, b2, b3, b4] := by
  have := (((((h.set 0 b0).set 1 b1).set 2 b2).set 3 b3).set 4 b4)
  simpa using this
theorem Blk.away5 {w : World} {g g' : Nat} {t : TypeId} {cs : Array Value} (b0 b1 b2 b3 b4 : Value) (hg : g ≠ g') (h : Blk w g t cs) : Blk (((((w.setCell ⟨g', 0, none⟩ b0).setCell ⟨g', 1, none⟩ b1).setCell ⟨g', 2, none⟩ b2).setCell ⟨g', 3, none⟩ b3).setCell ⟨g', 4, none⟩ b4) g t cs := (((((h.far hg 0 b0).far hg 1 b1).far hg 2 b2).far hg 3 b3).far hg 4 b4)
theorem Below.store5 {w w' : World} {k g : Nat} (b0 b1 b2 b3 b4 : Value) (hg : k ≤ g) (h : Below k w w') : Below k w (((((w'.setCell ⟨g, 0, none⟩ b0).setCell ⟨g, 1, none⟩ b1).setCell ⟨g, 2, none⟩ b2).setCell ⟨g, 3, none⟩ b3).setCell ⟨g, 4, none⟩ b4) := by
  iterate 5 (refine Below.setCell ?_ (by simpa using hg) _)
  exact h

theorem Blk.store7 {w : World} {g : Nat} {t : TypeId} {a0 a1 a2 a3 a4 a5 a6 : Value} (b0 b1 b2 b3 b4 b5 b6 : Value) (h : Blk w g t #[a0, a1, a2, a3, a4, a5, a6]) : Blk (((((((w.setCell ⟨g, 0, none⟩ b0).setCell ⟨g, 1, none⟩ b1).setCell ⟨g, 2, none⟩ b2).setCell ⟨g, 3, none⟩ b3).setCell ⟨g, 4, none⟩ b4).setCell ⟨g, 5, none⟩ b5).setCell ⟨g, 6, none⟩ b6) g t #[b0, b1, b2, b3, b4, b5, b6] := by
  have := (((((((h.set 0 b0).set 1 b1).set 2 b2).set 3 b3).set 4 b4).set 5 b5).set 6 b6)
  simpa using this
theorem Blk.away7 {w : World} {g g' : Nat} {t : TypeId} {cs : Array Value} (b0 b1 b2 b3 b4 b5 b6 : Value) (hg : g ≠ g') (h : Blk w g t cs) : Blk (((((((w.setCell ⟨g', 0, none⟩ b0).setCell ⟨g', 1, none⟩ b1).setCell ⟨g', 2, none⟩ b2).setCell ⟨g', 3, none⟩ b3).setCell ⟨g', 4, none⟩ b4).setCell ⟨g', 5, none⟩ b5).setCell ⟨g', 6, none⟩ b6) g t cs := (((((((h.far hg 0 b0).far hg 1 b1).far hg 2 b2).far hg 3 b3).far hg 4 b4).far hg 5 b5).far hg 6 b6)
theorem Below.store7 {w w' : World} {k g : Nat} (b0 b1 b2 b3 b4 b5 b6 : Value) (hg : k ≤ g) (h : Below k w w') : Below k w (((((((w'.setCell ⟨g, 0, none⟩ b0).setCell ⟨g, 1, none⟩ b1).setCell ⟨g, 2, none⟩ b2).setCell ⟨g, 3, none⟩ b3).setCell ⟨g, 4, none⟩ b4).setCell ⟨g, 5, none⟩ b5).setCell ⟨g, 6, none⟩ b6) := by
  iterate 7 (refine Below.setCell ?_ (by simpa using hg) _)
  exact h

end Go.Proofs.Ytjpbflehedbijaa
