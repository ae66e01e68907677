/- Ja, Jc, Jb, Jd -/
import Derived.Test.YtfelhnchnaggmaaMH
import Derived.Test.YtfelhnchnaggmaaUi
import Derived.Test.YtfelhnchnaggmaaMF
import Derived.Test.YtfelhnchnaggmaaZb
import Derived.OwnWalk
/- What votes claim: the last place, and what is picked at a place. -/
namespace Go.Proofs.Ytfelhnchnaggmaa
open Go.ChangeShapes Go.WideShapes Go.ChangeAt Go.RowKit
set_option linter.unusedVariables false
set_option linter.unusedSimpArgs false

def allC (P : List VtP) : List Cl := P.flatMap VtP.cl
theorem allC_drop {P : List VtP} {k : Nat} (h : k < P.length) : allC (P.drop k) = P[k].cl ++ allC (P.drop (k + 1)) := by
  rw [List.drop_eq_getElem_cons h]; rfl
theorem allC_end {P : List VtP} {k : Nat} (h : P.length ≤ k) : allC (P.drop k) = [] := by rw [List.drop_of_length_le h]; rfl
theorem allC_congr {P Q : List VtP} (h : P.map VtP.vt = Q.map VtP.vt) : allC P = allC Q := by
  have e : ∀ X : List VtP, allC X = (X.map VtP.vt).flatMap Vt.cl := fun X => by induction X with
    | nil => rfl
    | cons a X ih => rw [allC, List.flatMap_cons, List.map_cons, List.flatMap_cons, ← ih]; rfl
  rw [e, e, h]

def topC : Int → List Cl → Int
  | t, [] => t
  | t, c :: l => topC (if t < c.s then c.s else t) l
theorem topC_append (a b : List Cl) : ∀ t, topC t (a ++ b) = topC (topC t a) b := by
  induction a with
  | nil => intro t; rfl
  | cons c a ih => intro t; exact ih _

structure Pk where
  f : Bool
  v : Int
  r : Rq
def pkC (seq : Int) : Pk → List Cl → Pk
  | p, [] => p
  | p, c :: l => pkC seq (if (c.s == seq && (!p.f || decide (p.v < c.v))) = true then ⟨true, c.v, c.r⟩ else p) l
theorem pkC_append (seq : Int) (a b : List Cl) : ∀ p, pkC seq p (a ++ b) = pkC seq (pkC seq p a) b := by
  induction a with
  | nil => intro t; rfl
  | cons c a ih => intro t; exact ih _
def pckR (seq : Int) (P : List VtP) : Rq := (pkC seq ⟨false, 0, ⟨0, 0, 0, 0, 0⟩⟩ (allC P)).r

end Go.Proofs.Ytfelhnchnaggmaa

/- Blocks that are stored into, cell by cell. -/
namespace Go.Proofs.Ytfelhnchnaggmaa
open Go.ChangeShapes Go.WideShapes Go.ChangeAt Go.RowKit
set_option linter.unusedVariables false
set_option linter.unusedSimpArgs false

theorem Blk.store2 {w : World} {g : Nat} {t : TypeId} {a0 a1 : Value} (b0 b1 : Value) (h : Blk w g t #[a0, a1]) : Blk ((w.setCell ⟨g, 0, none⟩ b0).setCell ⟨g, 1, none⟩ b1) g t #[b0, b1] := by
  have := ((h.set 0 b0).set 1 b1)
  simpa using this
theorem Blk.away2 {w : World} {g g' : Nat} {t : TypeId} {cs : Array Value} (b0 b1 : Value) (hg : g ≠ g') (h : Blk w g t cs) : Blk ((w.setCell ⟨g', 0, none⟩ b0).setCell ⟨g', 1, none⟩ b1) g t cs := ((h.far hg 0 b0).far hg 1 b1)
theorem Below.store2 {w w' : World} {k g : Nat} (b0 b1 : Value) (hg : k ≤ g) (h : Below k w w') : Below k w ((w'.setCell ⟨g, 0, none⟩ b0).setCell ⟨g, 1, none⟩ b1) := by
  iterate 2 (refine Below.setCell ?_ (by simpa using hg) _)
  exact h

theorem Blk.store5 {w : World} {g : Nat} {t : TypeId} {a0 a1 a2 a3 a4 : Value} (b0 b1 b2 b3 b4 : Value) (h : Blk w g t #[a0, a1, a2, a3, a4]) : Blk (((((w.setCell ⟨g, 0, none⟩ b0).setCell ⟨g, 1, none⟩ b1).setCell ⟨g, 2, none⟩ b2).setCell ⟨g, 3, none⟩ b3).setCell ⟨g, 4, none⟩ b4) g t #[b0, b1, b2, b3, b4] := by
  have := (((((h.set 0 b0).set 1 b1).set 2 b2).set 3 b3).set 4 b4)
  simpa using this
theorem Blk.away5 {w : World} {g g' : Nat} {t : TypeId} {cs : Array Value} (b0 b1 b2 b3 b4 : Value) (hg : g ≠ g') (h : Blk w g t cs) : Blk (((((w.setCell ⟨g', 0, none⟩ b0).setCell ⟨g', 1, none⟩ b1).setCell ⟨g', 2, none⟩ b2).setCell ⟨g', 3, none⟩ b3).setCell ⟨g', 4, none⟩ b4) g t cs := (((((h.far hg 0 b0).far hg 1 b1).far hg 2 b2).far hg 3 b3).far hg 4 b4)
theorem Below.store5 {w w' : World} {k g : Nat} (b0 b1 b2 b3 b4 : Value) (hg : k ≤ g) (h : Below k w w') : Below k w (((((w'.setCell ⟨g, 0, none⟩ b0).setCell ⟨g, 1, none⟩ b1).setCell ⟨g, 2, none⟩ b2).setCell ⟨g, 3, none⟩ b3).setCell ⟨g, 4, none⟩ b4) := by
  iterate 5 (refine Below.setCell ?_ (by simpa using hg) _)
  exact h

theorem Blk.store7 {w : World} {g : Nat} {t : TypeId} {a0 a1 a2 a3 a4 a5 a6 : Value} (b0 b1 b2 b3 b4 b5 b6 : Value) (h : Blk w g t #[a0, a1, a2, a3, a4, a5, a6]) : Blk (((((((w.setCell ⟨g, 0, none⟩ b0).setCell ⟨g, 1, none⟩ b1).setCell ⟨g, 2, none⟩ b2).setCell ⟨g, 3, none⟩ b3).setCell ⟨g, 4, none⟩ b4).setCell ⟨g, 5, none⟩ b5).setCell ⟨g, 6, none⟩ b6) g t #[b0, b1, b2, b3, b4, b5, b6] := by
  have := (((((((h.set 0 b0).set 1 b1).set 2 b2).set 3 b3).set 4 b4).set 5 b5).set 6 b6)
  simpa using this
theorem Blk.away7 {w : World} {g g' : Nat} {t : TypeId} {cs : Array Value} (b0 b1 b2 b3 b4 b5 b6 : Value) (hg : g ≠ g') (h : Blk w g t cs) : Blk (((((((w.setCell ⟨g', 0, none⟩ b0).setCell ⟨g', 1, none⟩ b1).setCell ⟨g', 2, none⟩ b2).setCell ⟨g', 3, none⟩ b3).setCell ⟨g', 4, none⟩ b4).setCell ⟨g', 5, none⟩ b5).setCell ⟨g', 6, none⟩ b6) g t cs := (((((((h.far hg 0 b0).far hg 1 b1).far hg 2 b2).far hg 3 b3).far hg 4 b4).far hg 5 b5).far hg 6 b6)
theorem Below.store7 {w w' : World} {k g : Nat} (b0 b1 b2 b3 b4 b5 b6 : Value) (hg : k ≤ g) (h : Below k w w') : Below k w (((((((w'.setCell ⟨g, 0, none⟩ b0).setCell ⟨g, 1, none⟩ b1).setCell ⟨g, 2, none⟩ b2).setCell ⟨g, 3, none⟩ b3).setCell ⟨g, 4, none⟩ b4).setCell ⟨g, 5, none⟩ b5).setCell ⟨g, 6, none⟩ b6) := by
  iterate 7 (refine Below.setCell ?_ (by simpa using hg) _)
  exact h

end Go.Proofs.Ytfelhnchnaggmaa

/- What votes make a leader offer: all picks, both ways. -/
namespace Go.Proofs.Ytfelhnchnaggmaa
open Go.ChangeShapes Go.WideShapes Go.ChangeAt Go.RowKit
set_option linter.unusedVariables false
set_option linter.unusedSimpArgs false

theorem cls_mem (l : List Cl) : ∀ p, clsB p l = true → ∀ c ∈ l, clB c = true := by
  induction l with
  | nil => intro p h c hc; cases hc
  | cons a l ih =>
    intro p h c hc
    simp only [clsB, Bool.and_eq_true] at h
    rcases List.mem_cons.1 hc with rfl | h'
    · exact h.2.1
    · exact ih _ h.2.2 c h'
theorem vts_mem (P : List VtP) : ∀ p, vtsB p P = true → ∀ v ∈ P, clsB 0 v.cl = true := by
  induction P with
  | nil => intro p h c hc; cases hc
  | cons a l ih =>
    intro p h c hc
    simp only [vtsB, Bool.and_eq_true] at h
    rcases List.mem_cons.1 hc with rfl | h'
    · exact h.2.2.1
    · exact ih _ h.2.2.2 c h'
theorem top_bd (l : List Cl) : ∀ t, 0 ≤ t → t ≤ 5 → (∀ c ∈ l, c.s ≤ 5) → 0 ≤ topC t l ∧ topC t l ≤ 5 := by
  induction l with
  | nil => intro t h0 h5 _; exact ⟨h0, h5⟩
  | cons a l ih =>
    intro t h0 h5 h
    have ha := h a (by simp)
    refine ih _ ?_ ?_ fun c hc => h c (by simp [hc])
    all_goals split <;> omega
theorem top_ok {P : List VtP} (h : vtsB (-1) P = true) : 0 ≤ topC 0 (allC P) ∧ topC 0 (allC P) ≤ 5 := by
  refine top_bd _ 0 (by omega) (by omega) fun c hc => ?_
  obtain ⟨v, hv, hcv⟩ := List.mem_flatMap.1 hc
  have := cls_mem _ _ (vts_mem _ _ h v hv) c hcv
  simp only [clB, inB, Bool.and_eq_true, decide_eq_true_eq] at this
  omega

def picksN (k : Nat) (P : List VtP) : List Rq := (List.range k).map fun i : Nat => pckR ((i : Int) + 1) P
theorem picksN_len (k : Nat) (P : List VtP) : (picksN k P).length = k := by simp [picksN]
theorem picksN_succ (k : Nat) (P : List VtP) : picksN (k + 1) P = picksN k P ++ [pckR ((k : Int) + 1) P] := by simp [picksN, List.range_succ]
theorem picksN_cells (k : Nat) (P : List VtP) : (picksN (k + 1) P).flatMap Rq.cells = (picksN k P).flatMap Rq.cells ++ (pckR ((k : Int) + 1) P).cells := by rw [picksN_succ]; simp
def picks (P : List VtP) : List Rq := if vtsB (-1) P = true then picksN (topC 0 (allC P)).toNat P else []
theorem picks_congr {P Q : List VtP} (h : P.map VtP.vt = Q.map VtP.vt) : picks P = picks Q := by
  have e := allC_congr h
  have v : vtsB (-1) P = vtsB (-1) Q := by
    have key : ∀ (A : List VtP) (B : List VtP) (p : Int), A.map VtP.vt = B.map VtP.vt → vtsB p A = vtsB p B := by
      intro A
      induction A with
      | nil => intro B p h; cases B with
        | nil => rfl
        | cons b B => simp at h
      | cons a A ih => intro B p h; cases B with
        | nil => simp at h
        | cons b B =>
          simp only [List.map_cons, List.cons.injEq, VtP.vt, Vt.mk.injEq] at h
          rw [vtsB, vtsB, h.1.1, h.1.2, ih B _ h.2]
    exact key P Q (-1) h
  unfold picks picksN pckR
  rw [v, e]

end Go.Proofs.Ytfelhnchnaggmaa
