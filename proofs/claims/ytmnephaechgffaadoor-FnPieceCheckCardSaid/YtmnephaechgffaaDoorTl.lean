/- Whether a game is ok: the program's own check. -/
import Derived.Test.YtmnephaechgffaaDoorTk
namespace Go.Proofs.YtmnephaechgffaaDoor
open Go.ChangeShapes Go.WideShapes Go.ChangeAt Go.RowKit
set_option linter.unusedVariables false

def onB (x y : Int) : Bool := inB x 0 3 && inB y 0 3
def entB (e : Fig) : Bool := inB e.c 1 4 && (onB e.x e.y && (inB e.l 0 3 && inB e.g 0 20))
def entsB : Int → List Fig → Bool
  | _, [] => true
  | p, e :: t => decide (p < e.c) && (entB e && entsB e.c t)
def allB (l : List Int) (hi : Int) : Bool := l.all fun n => inB n 0 hi
def goldE (E : List Fig) : Int := (E.map fun e => e.g).sum

theorem sum_step (l : List Int) (k : Nat) (h : k < l.length) : (l.take (k + 1)).sum = (l.take k).sum + l[k] := by
  rw [List.take_succ_eq_append_getElem h, List.sum_append]
  simp

theorem gold_step (E : List Fig) (k : Nat) (h : k < E.length) : goldE (E.take (k + 1)) = goldE (E.take k) + E[k].g := by
  unfold goldE
  rw [List.take_succ_eq_append_getElem h, List.map_append, List.sum_append]
  simp

theorem gold_bd : ∀ (E : List Fig), (∀ (i : Nat) (h : i < E.length), 0 ≤ (E[i]'h).g ∧ (E[i]'h).g ≤ 20) → 0 ≤ goldE E ∧ goldE E ≤ 20 * (E.length : Int) := by
  intro E
  induction E with
  | nil => intro _; simp [goldE]
  | cons e t ih =>
    intro h
    have h0 := h 0 (by simp)
    simp only [List.getElem_cons_zero] at h0
    have h1 := ih (fun i hi => by have := h (i + 1) (by simp; omega); simpa using this)
    have e1 : goldE (e :: t) = e.g + goldE t := by simp [goldE]
    rw [e1, List.length_cons]
    omega
theorem sum_bd : ∀ (F : List Int), (∀ (i : Nat) (h : i < F.length), 0 ≤ F[i]'h ∧ F[i]'h ≤ 20) → 0 ≤ F.sum ∧ F.sum ≤ 20 * (F.length : Int) := by
  intro F
  induction F with
  | nil => intro _; simp
  | cons e t ih =>
    intro h
    have h0 := h 0 (by simp)
    simp only [List.getElem_cons_zero] at h0
    have h1 := ih (fun i hi => by have := h (i + 1) (by simp; omega); simpa using this)
    rw [List.sum_cons, List.length_cons]
    omega
end Go.Proofs.YtmnephaechgffaaDoor
