/- Gt, Gu -/
import Derived.Test.YtnpdlpkomfegfaaGs
import Derived.Test.YtnpdlpkomfegfaaMH
/- The model's: a figure on the board acts, all ways. -/
namespace Go.Proofs.Ytnpdlpkomfegfaa
open Go.ChangeShapes Go.WideShapes Go.ChangeAt Go.RowKit
set_option linter.unusedVariables false
set_option linter.unusedSimpArgs false

theorem erase_set (E : List Fig) (n : Nat) (f : Fig) : (E.set n f).take n ++ (E.set n f).drop (n + 1) = E.eraseIdx n := by
 rw [List.eraseIdx_eq_take_drop_succ]
 congr 1
 · apply List.ext_getElem? ; intro i; simp only [List.getElem?_take]; split
   · rw [List.getElem?_set_ne (by omega)]
   · rfl
 · apply List.ext_getElem? ; intro i; simp only [List.getElem?_drop]
   rw [List.getElem?_set_ne (by omega)]
/-- The tail of an act at a figure that may not stand there. -/
structure OkF (F : List Int) : Prop where
 f : F.length = 16
 fb : ∀ i (h : i < F.length), 0 ≤ F[i]'h ∧ F[i]'h ≤ 20
theorem OkF.at_ {F : List Int} (h : OkF F) {x y : Int} (hx : 0 ≤ x ∧ x ≤ 3) (hy : 0 ≤ y ∧ y ≤ 3) : ∃ (j : Nat) (v : Int) (hjl : j < F.length), y * 4 + x = (j : Int) ∧ F[j]'hjl = v ∧ 0 ≤ v ∧ v ≤ 20 ∧ (y * 4 + x).toNat = j ∧ F[j]?.getD 0 = v := by
 have hj : (y * 4 + x).toNat < F.length := by have := h.f; omega
 exact ⟨(y * 4 + x).toNat, _, hj, by omega, rfl, (h.fb _ hj).1, (h.fb _ hj).2, rfl, by rw [List.getElem?_eq_getElem hj]; rfl⟩

theorem actG_L (E : List Fig) (F L : List Int) (k : Nat) (e : Fig) (r : Rq) : (actG E F L k e r).1.2.2 = L := by
 unfold actG
 repeat' split
 all_goals rfl

end Go.Proofs.Ytnpdlpkomfegfaa
