/- What votes make a leader offer: all picks, both ways. -/
import Derived.Test.YtjpbflehedbijaaJb
import Derived.Test.YtjpbflehedbijaaZb
import Derived.OwnWalk
namespace Go.Proofs.Ytjpbflehedbijaa
open Go.ChangeShapes Go.WideShapes Go.ChangeAt Go.RowKit
set_option linter.unusedVariables false
set_option linter.unusedSimpArgs false

theorem cls_mem (l : List Cl) : ∀ p, clsB p l = true → ∀ c ∈ l, clB c = true := by
  induction l with
  | nil => intro p h c hc; cases hc
  | cons a l ih =>
    intro p h c hc
    simp only [clsB, Bool.and_eq_true] at h
    rcases List.mem_cons.1 hc with rfl | h'
    · exact h.2.1
    · exact ih _ h.2.2 c h'
theorem vts_mem (P : List VtP) : ∀ p, vtsB p P = true → ∀ v ∈ P, clsB 0 v.cl = true := by
  induction P with
  | nil => intro p h c hc; cases hc
  | cons a l ih =>
    intro p h c hc
    simp only [vtsB, Bool.and_eq_true] at h
    rcases List.mem_cons.1 hc with rfl | h'
    · exact h.2.2.1
    · exact ih _ h.2.2.2 c h'
theorem top_bd (l : List Cl) : ∀ t, 0 ≤ t → t ≤ 5 → (∀ c ∈ l, c.s ≤ 5) → 0 ≤ topC t l ∧ topC t l ≤ 5 := by
  induction l with
  | nil => intro t h0 h5 _; exact ⟨h0, h5⟩
  | cons a l ih =>
    intro t h0 h5 h
    have ha := h a (by simp)
    refine ih _ ?_ ?_ fun c hc => h c (by simp [hc])
    all_goals split <;> omega
theorem top_ok {P : List VtP} (h : vtsB (-1) P = true) : 0 ≤ topC 0 (allC P) ∧ topC 0 (allC P) ≤ 5 := by
  refine top_bd _ 0 (by omega) (by omega) fun c hc => ?_
  obtain ⟨v, hv, hcv⟩ := List.mem_flatMap.1 hc
  have := cls_mem _ _ (vts_mem _ _ h v hv) c hcv
  simp only [clB, inB, Bool.and_eq_true, decide_eq_true_eq] at this
  omega

def picksN (k : Nat) (P : List VtP) : List Rq := (List.range k).map fun i : Nat => pckR ((i : Int) + 1) P
theorem picksN_len (k : Nat) (P : List VtP) : (picksN k P).length = k := by simp [picksN]
theorem picksN_succ (k : Nat) (P : List VtP) : picksN (k + 1) P = picksN k P ++ [pckR ((k : Int) + 1) P] := by simp [picksN, List.range_succ]
theorem picksN_cells (k : Nat) (P : List VtP) : (picksN (k + 1) P).flatMap Rq.cells = (picksN k P).flatMap Rq.cells ++ (pckR ((k : Int) + 1) P).cells := by rw [picksN_succ]; simp
def picks (P : List VtP) : List Rq := if vtsB (-1) P = true then picksN (topC 0 (allC P)).toNat P else []
theorem picks_congr {P Q : List VtP} (h : P.map VtP.vt = Q.map VtP.vt) : picks P = picks Q := by
  have e := allC_congr h
  have v : vtsB (-1) P = vtsB (-1) Q := by
    have key : ∀ (A : List VtP) (B : List VtP) (p : Int), A.map VtP.vt = B.map VtP.vt → vtsB p A = vtsB p B := by
      intro A
      induction A with
      | nil => intro B p h; cases B with
        | nil => rfl
        | cons b B => simp at h
      | cons a A ih => intro B p h; cases B with
        | nil => simp at h
        | cons b B =>
          simp only [List.map_cons, List.cons.injEq, VtP.vt, Vt.mk.injEq] at h
          rw [vtsB, vtsB, h.1.1, h.1.2, ih B _ h.2]
    exact key P Q (-1) h
  unfold picks picksN pckR
  rw [v, e]

end Go.Proofs.Ytjpbflehedbijaa
