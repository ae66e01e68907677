/- A view drawn; each leads in turn. -/
import Derived.Test.YtfelhnchnaggmaaMH
import Derived.Test.YtfelhnchnaggmaaMM
import Derived.Deep.RegionWith
namespace Go.Proofs.Ytfelhnchnaggmaa
open Go.ChangeShapes Go.WideShapes Go.ChangeAt Go.RowKit
set_option linter.unusedVariables false

theorem cells_of_ints {w : World} {g : Nat} {t : TypeId} (l : List Int) (h : w.heap[g]? = some (.cells (l.map (Value.int .i64)).toArray t)) : ∀ i (hi : i < l.length), w.cell? ⟨g, i, none⟩ = some (.int .i64 (l[i]'hi)) := by
  intro i hi
  rw [cell_of_row w g i _ t (0, 0) h]
  simp [hi]

theorem lead_next {v k : Int} (h : ¬ leadI v < 0) (h1 : 1 ≤ k) (h2 : k < 4) : (leadI (v + k) == leadI v) = false := by
  have hv : inB v 0 6 = true := by
    rcases e : inB v 0 6 with _ | _
    · rw [leadI, e] at h; simp at h
    · rfl
  rw [show leadI v = v % 4 from by rw [leadI, if_pos hv]]
  simp only [inB, Bool.and_eq_true, decide_eq_true_eq] at hv
  rw [leadI]
  simp only [beq_eq_false_iff_ne, ne_eq]
  split
  · omega
  · omega

theorem lead_bd {v : Int} (h : ¬ leadI v < 0) : 0 ≤ v ∧ v ≤ 6 ∧ leadI v = v % 4 := by
  rcases e : inB v 0 6 with _ | _
  · rw [leadI, e] at h; simp at h
  · have := e
    simp only [inB, Bool.and_eq_true, decide_eq_true_eq] at this
    exact ⟨this.1, this.2, by rw [leadI, if_pos e]⟩

end Go.Proofs.Ytfelhnchnaggmaa
