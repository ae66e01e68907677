/- The exact law of PickAll, walked. -/
import Derived.Test.YtjpbflehedbijaaJd
import Derived.Test.YtjpbflehedbijaaMk
import Derived.Test.YtjpbflehedbijaaUm
namespace Go.Proofs.Ytjpbflehedbijaa
open Go.ChangeShapes Go.WideShapes Go.ChangeAt Go.RowKit
set_option linter.unusedVariables false
set_option linter.unusedSimpArgs false

theorem szR_nn {left : Int} {n : Nat} (h0 : 0 ≤ left) (h : ¬ szR left n < 0) : (n : Int) ≤ left ∧ szR left n = left - n := by
  unfold szR at h ⊢
  split at h
  · rename_i h1; exact ⟨h1, if_pos h1⟩
  · omega
theorem picks_len (P : List VtP) : (picks P).length ≤ 5 := by
  unfold picks
  split
  · rename_i h
    have := top_ok h
    rw [picksN_len]
    omega
  · simp
theorem cntV_sz (Q : List VtP) : cntV Q ≤ 7 * szV Q := by
  unfold cntV szV
  induction Q with
  | nil => simp
  | cons a Q ih => simp only [List.map_cons, List.sum_cons, List.length_cons] at ih ⊢; omega
theorem szV_congr {P Q : List VtP} (h : P.map VtP.vt = Q.map VtP.vt) : szV P = szV Q := by
  have e : ∀ X : List VtP, szV X = (X.map VtP.vt).length + ((X.map VtP.vt).map fun v => v.cl.length).sum := fun X => by
    unfold szV
    rw [List.length_map, List.map_map]
    rfl
  rw [e, e, h]
theorem eqSame (A B : Option Addr) (c d : Nat) (L : List Rq) (w : World) (hL : L.length ≤ 5) (ha : Rd 5 Rq.cells w A L) (hb : Rd 5 Rq.cells w B L) :
    Calls Try.prog 26 #[.slice A L.length c, .slice B L.length d] w fun e w' => e = .returned (.bool true) ∧ Below w.heap.size w w' :=
  (eqReqS A B c d L L w (by unfold maxLen; omega) ha hb).mono fun _ _ h => ⟨h.1.trans (by rw [decide_eq_true rfl]), h.2⟩

end Go.Proofs.Ytjpbflehedbijaa
