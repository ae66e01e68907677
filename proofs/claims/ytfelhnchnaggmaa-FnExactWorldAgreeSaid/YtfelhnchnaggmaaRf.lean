/- What is done at the first places: both ways. -/
import Derived.Test.YtfelhnchnaggmaaRd
import Derived.Test.YtfelhnchnaggmaaMK
namespace Go.Proofs.Ytfelhnchnaggmaa
open Go.ChangeShapes Go.WideShapes Go.ChangeAt Go.RowKit
set_option linter.unusedVariables false
set_option linter.unusedSimpArgs false

theorem Blk.gr {w w' : World} {g : Nat} {t : TypeId} {cs : Array Value} {row : Option Nat} (h : Blk w g t cs) (hg : w.grownBy w' row) (hr : row ≠ some g) : Blk w' g t cs := (hg.block g h.lt (fun e => hr e.symm)).trans h
/-- The first claims whose places go on from i, one by one: their requests. -/
def goodN : Int → List Cl → List Rq
  | _, [] => []
  | i, c :: l => if c.s = i + 1 then c.r :: goodN (i + 1) l else []
def listR (r : RpP) : List Rq := if repB r = true then goodN 0 r.dn else []
theorem goodN_len (l : List Cl) : ∀ i, (goodN i l).length ≤ l.length := by
  induction l with
  | nil => intro i; simp [goodN]
  | cons c l ih =>
    intro i
    rw [goodN]
    split
    · have := ih (i + 1)
      simp only [List.length_cons]
      omega
    · simp
theorem cls_len (l : List Cl) : ∀ p : Int, p ≤ 5 → clsB p l = true → (l.length : Int) ≤ 5 - p := by
  induction l with
  | nil => intro p h _; simp; omega
  | cons c l ih =>
    intro p h hc
    simp only [clsB, Bool.and_eq_true, decide_eq_true_eq] at hc
    have h1 := (cl_bd hc.2.1).1
    have := ih c.s (by omega) hc.2.2
    simp only [List.length_cons]
    omega
theorem rep_len {r : RpP} (h : repB r = true) : r.dn.length ≤ 5 := by
  rw [repB_eq] at h
  simp only [Bool.and_eq_true] at h
  have := cls_len r.dn 0 (by omega) h.2.2.2.2.2
  omega
theorem goodN_yes {l : List Cl} {k : Nat} (h : k < l.length) (hs : l[k].s = (k : Int) + 1) : goodN (k : Int) (l.drop k) = l[k].r :: goodN ((k : Int) + 1) (l.drop (k + 1)) := by
  rw [List.drop_eq_getElem_cons h, goodN, if_pos hs]
theorem goodN_no {l : List Cl} {k : Nat} (h : k < l.length) (hs : ¬ l[k].s = (k : Int) + 1) : goodN (k : Int) (l.drop k) = [] := by
  rw [List.drop_eq_getElem_cons h, goodN, if_neg hs]
theorem goodN_end {l : List Cl} {k : Nat} (h : l.length ≤ k) : goodN (k : Int) (l.drop k) = [] := by
  rw [List.drop_of_length_le h]; rfl

end Go.Proofs.Ytfelhnchnaggmaa
