/- Ka, Kb, Kc, Kd -/
import Derived.Test.YtfelhnchnaggmaaOg
import Derived.Test.YtfelhnchnaggmaaMK
import Derived.Maps.OwnSet
import Derived.Maps.Views
/- Whether a letter proposes a claim: the program's way. -/
namespace Go.Proofs.Ytfelhnchnaggmaa
open Go.ChangeShapes Go.WideShapes Go.ChangeAt Go.RowKit
set_option linter.unusedVariables false
set_option linter.unusedSimpArgs false

def ldr (v : Int) : Int := v.tmod 4
theorem ldr_eq {v : Int} (h : inB v 0 6 = true) : leadI v = ldr v := by
  have h0 : 0 ≤ v := by simp [inB] at h; omega
  unfold leadI ldr
  rw [if_pos h, Int.tmod_eq_emod_of_nonneg h0]
theorem ldr_bd {v : Int} (h : inB v 0 6 = true) : 0 ≤ ldr v ∧ ldr v ≤ 3 := by
  have h0 : 0 ≤ v := by simp [inB] at h; omega
  unfold ldr
  rw [Int.tmod_eq_emod_of_nonneg h0]
  omega
def propB (m : MgP) (c : Cl) : Bool := (m.f == ldr c.v) && ((m.v == c.v) && (((m.k == 2) && ((m.s == c.s) && decide (m.r = c.r))) || ((m.k == 6) && (decide (c.s ≤ topC 0 (allC m.vt)) && decide (pckR c.s m.vt = c.r)))))
theorem isKeeperB (v : Int) (w : World) :
    Calls Try.prog 22 #[.int .i64 v] w fun e w' => e = .returned (.bool (inB v 0 3)) ∧ Below w.heap.size w w' :=
  (isKeeper v w).mono fun _ _ ⟨he, hw⟩ => ⟨he, by rw [hw]; exact Below.refl _ _⟩

end Go.Proofs.Ytfelhnchnaggmaa

/- Whether a claim was proposed in what was said: both ways. -/
namespace Go.Proofs.Ytfelhnchnaggmaa
open Go.ChangeShapes Go.WideShapes Go.ChangeAt Go.RowKit
set_option linter.unusedVariables false
set_option linter.unusedSimpArgs false

def offB (P : List MgP) (c : Cl) : Bool := P.any fun m => propB m c
theorem offB_step {P : List MgP} {c : Cl} {k : Nat} (h : k < P.length) : offB (P.drop k) c = (propB P[k] c || offB (P.drop (k + 1)) c) := by
  unfold offB
  rw [List.drop_eq_getElem_cons h, List.any_cons]
theorem offB_end {P : List MgP} {c : Cl} {k : Nat} (h : P.length ≤ k) : offB (P.drop k) c = false := by
  rw [List.drop_of_length_le h]; rfl
end Go.Proofs.Ytfelhnchnaggmaa

/- How many said something of a claim: the model's way. -/
namespace Go.Proofs.Ytfelhnchnaggmaa
open Go.ChangeShapes Go.WideShapes Go.ChangeAt Go.RowKit
set_option linter.unusedVariables false
set_option linter.unusedSimpArgs false

def sB (kind k : Int) (c : Cl) (m : MgP) : Bool := (m.k == kind) && ((m.f == k) && ((m.v == c.v) && ((m.s == c.s) && decide (m.r = c.r))))
def sayB (P : List MgP) (kind k : Int) (c : Cl) : Bool := P.any (sB kind k c)
theorem sayB_step {P : List MgP} {kind k : Int} {c : Cl} {q : Nat} (h : q < P.length) : sayB (P.drop q) kind k c = (sB kind k c P[q] || sayB (P.drop (q + 1)) kind k c) := by
  unfold sayB
  rw [List.drop_eq_getElem_cons h, List.any_cons]
def cntK (P : List MgP) (kind : Int) (c : Cl) (k : Int) : Nat := if (sayB P kind k c && (kind != 3 || k != ldr c.v)) = true then 1 else 0
def cntTo (P : List MgP) (kind : Int) (c : Cl) (j : Nat) : Nat := ((List.range j).map fun i : Nat => cntK P kind c (i : Int)).sum
theorem cntTo_succ (P : List MgP) (kind : Int) (c : Cl) (j : Nat) : cntTo P kind c (j + 1) = cntTo P kind c j + cntK P kind c (j : Int) := by
  unfold cntTo
  rw [List.range_succ, List.map_append, List.sum_append]
  simp
theorem cntTo_le (P : List MgP) (kind : Int) (c : Cl) (j : Nat) : cntTo P kind c j ≤ j := by
  induction j with
  | zero => simp [cntTo]
  | succ j ih =>
    rw [cntTo_succ]
    have : cntK P kind c (j : Int) ≤ 1 := by unfold cntK; split <;> omega
    omega

end Go.Proofs.Ytfelhnchnaggmaa

/- Who said something of a claim: the program's way, a set of keepers. -/
namespace Go.Proofs.Ytfelhnchnaggmaa
open Go.ChangeShapes Go.WideShapes Go.ChangeAt Go.RowKit Go.Maps
set_option linter.unusedVariables false
set_option linter.unusedSimpArgs false

theorem lawInt : Keyed Try.prog 3 := int_keyed Try.underlying3
theorem keyK {x : Int} (h : 0 ≤ x ∧ x ≤ 3) : keyOf Try.prog 3 (.int .i64 x) = some (.int .i64 x) := by
  refine keyOf_int_mk Try.underlying3 ?_
  have : x = 0 ∨ x = 1 ∨ x = 2 ∨ x = 3 := by omega
  rcases this with rfl | rfl | rfl | rfl <;> rfl
abbrev OwS (w : World) (b n : Nat) (D : DataW Unit) : Prop := w.ownsMap Try.prog 3 unitElem b n D

def okS (kind : Int) (c : Cl) (m : MgP) : Bool := (m.k == kind) && (inB m.f 0 3 && decide ((⟨m.s, m.v, m.r⟩ : Cl) = c))
def addS (D : DataW Unit) (kind : Int) (c : Cl) (m : MgP) : DataW Unit := if okS kind c m = true then D.put (.int .i64 m.f) (.agg []) else D
def setTo (P : List MgP) (kind : Int) (c : Cl) : DataW Unit := P.foldl (fun D m => addS D kind c m) (.map [])
theorem setTo_succ {P : List MgP} {kind : Int} {c : Cl} {k : Nat} (h : k < P.length) : setTo (P.take (k + 1)) kind c = addS (setTo (P.take k) kind c) kind c P[k] := by
  unfold setTo
  rw [List.take_succ_eq_append_getElem h, List.foldl_append]
  rfl

end Go.Proofs.Ytfelhnchnaggmaa
