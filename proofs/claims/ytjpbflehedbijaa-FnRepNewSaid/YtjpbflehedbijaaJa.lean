/- What votes claim: the last place, and what is picked at a place. -/
import Derived.Test.YtjpbflehedbijaaMH
import Derived.Test.YtjpbflehedbijaaUi
namespace Go.Proofs.Ytjpbflehedbijaa
open Go.ChangeShapes Go.WideShapes Go.ChangeAt Go.RowKit
set_option linter.unusedVariables false
set_option linter.unusedSimpArgs false

def allC (P : List VtP) : List Cl := P.flatMap VtP.cl
theorem allC_drop {P : List VtP} {k : Nat} (h : k < P.length) : allC (P.drop k) = P[k].cl ++ allC (P.drop (k + 1)) := by
  rw [List.drop_eq_getElem_cons h]; rfl
theorem allC_end {P : List VtP} {k : Nat} (h : P.length ≤ k) : allC (P.drop k) = [] := by rw [List.drop_of_length_le h]; rfl
theorem allC_congr {P Q : List VtP} (h : P.map VtP.vt = Q.map VtP.vt) : allC P = allC Q := by
  have e : ∀ X : List VtP, allC X = (X.map VtP.vt).flatMap Vt.cl := fun X => by induction X with
    | nil => rfl
    | cons a X ih => rw [allC, List.flatMap_cons, List.map_cons, List.flatMap_cons, ← ih]; rfl
  rw [e, e, h]

def topC : Int → List Cl → Int
  | t, [] => t
  | t, c :: l => topC (if t < c.s then c.s else t) l
theorem topC_append (a b : List Cl) : ∀ t, topC t (a ++ b) = topC (topC t a) b := by
  induction a with
  | nil => intro t; rfl
  | cons c a ih => intro t; exact ih _

structure Pk where
  f : Bool
  v : Int
  r : Rq
def pkC (seq : Int) : Pk → List Cl → Pk
  | p, [] => p
  | p, c :: l => pkC seq (if (c.s == seq && (!p.f || decide (p.v < c.v))) = true then ⟨true, c.v, c.r⟩ else p) l
theorem pkC_append (seq : Int) (a b : List Cl) : ∀ p, pkC seq p (a ++ b) = pkC seq (pkC seq p a) b := by
  induction a with
  | nil => intro t; rfl
  | cons c a ih => intro t; exact ih _
def pckR (seq : Int) (P : List VtP) : Rq := (pkC seq ⟨false, 0, ⟨0, 0, 0, 0, 0⟩⟩ (allC P)).r

end Go.Proofs.Ytjpbflehedbijaa
