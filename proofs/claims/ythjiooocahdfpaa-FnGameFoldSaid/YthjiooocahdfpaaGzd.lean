/- Many cells of an own row turned. -/
import Derived.Test.YthjiooocahdfpaaGzc
namespace Go.Proofs.Ythjiooocahdfpaa
open Go.ChangeShapes Go.WideShapes Go.ChangeAt Go.RowKit
set_option linter.unusedVariables false
set_option linter.unusedSimpArgs false

theorem grown_trans {w w1 w2 : World} {row : Option Nat} (h1 : w.grownBy w1 row) (h2 : w1.grownBy w2 row) : w.grownBy w2 row :=
  ⟨h2.os.trans h1.os, h2.tape.trans h1.tape, h2.output.trans h1.output, Nat.le_trans h1.size h2.size, fun k hk hr => (h2.block k (Nat.lt_of_lt_of_le hk h1.size) hr).trans (h1.block k hk hr)⟩
theorem grown_refl (w : World) (row : Option Nat) : w.grownBy w row := ⟨rfl, rfl, rfl, Nat.le_refl _, fun _ _ _ => rfl⟩
def setsL : List Value → Nat → List Value → List Value
  | xs, _, [] => xs
  | xs, o, v :: r => setsL (xs.set o v) (o + 1) r
theorem setsL_len : ∀ (vs xs : List Value) (o : Nat), (setsL xs o vs).length = xs.length
  | [], _, _ => rfl
  | v :: r, xs, o => by rw [setsL, setsL_len r]; simp
theorem setsL_get : ∀ (vs xs : List Value) (o j : Nat), o + vs.length ≤ xs.length → (setsL xs o vs)[j]? = if o ≤ j ∧ j < o + vs.length then vs[j - o]? else xs[j]?
  | [], xs, o, j, _ => by rw [setsL, if_neg (by intro hh; simp at hh; omega)]
  | v :: r, xs, o, j, h => by
    rw [setsL, setsL_get r (xs.set o v) (o + 1) j (by simp at h ⊢; omega)]
    simp only [List.length_cons] at h ⊢
    by_cases h1 : o = j
    · subst h1
      rw [if_neg (by omega), if_pos (by omega), List.getElem?_set_self (by omega)]
      simp
    · rw [List.getElem?_set_ne h1]
      by_cases h2 : o + 1 ≤ j ∧ j < o + 1 + r.length
      · rw [if_pos h2, if_pos (by omega), show j - o = (j - (o + 1)) + 1 by omega, List.getElem?_cons_succ]
      · rw [if_neg h2, if_neg (by omega)]
theorem setsL_eq (vs xs : List Value) (o : Nat) (h : o + vs.length ≤ xs.length) : setsL xs o vs = xs.take o ++ vs ++ xs.drop (o + vs.length) := by
  apply List.ext_getElem?
  intro j
  rw [setsL_get vs xs o j h]
  have hl : (xs.take o).length = o := by rw [List.length_take]; omega
  by_cases h1 : j < o
  · rw [if_neg (by omega), List.append_assoc, List.getElem?_append_left (by omega), List.getElem?_take_of_lt h1]
  · by_cases h2 : j < o + vs.length
    · rw [if_pos (by omega), List.getElem?_append_left (by simp; omega), List.getElem?_append_right (by omega), hl]
    · rw [if_neg (by omega), List.getElem?_append_right (by simp; omega), List.getElem?_drop]
      congr 1
      simp
      omega
theorem own_sets {base : Nat} {e : TypeId} {size g n c : Nat} : ∀ (vs xs : List Value) (o : Nat) (w : World), o + vs.length ≤ xs.length → w.ownsRow base e size (.slice (some ⟨g, 0, none⟩) n c) n xs →
    (w.setCells g o vs).ownsRow base e size (.slice (some ⟨g, 0, none⟩) n c) n (setsL xs o vs) ∧ w.grownBy (w.setCells g o vs) (some g)
  | [], xs, o, w, _, h => ⟨h, grown_refl _ _⟩
  | v :: r, xs, o, w, hl, h => by
    simp only [List.length_cons] at hl
    obtain ⟨h1, h2⟩ := own_set1 o v (by omega) h
    obtain ⟨h3, h4⟩ := own_sets r (xs.set o v) (o + 1) (w.setCell ⟨g, o, none⟩ v) (by simp; omega) h1
    exact ⟨h3, grown_trans h2 h4⟩

end Go.Proofs.Ythjiooocahdfpaa
