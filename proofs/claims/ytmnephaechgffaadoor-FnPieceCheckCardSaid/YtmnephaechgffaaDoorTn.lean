/- Whether a game is ok: the model's check. -/
import Derived.Test.YtmnephaechgffaaDoorTm
import Derived.IntWalk
import Derived.Deep.RegionHeld3
namespace Go.Proofs.YtmnephaechgffaaDoor
open Go.ChangeShapes Go.WideShapes Go.ChangeAt Go.RowKit
set_option linter.unusedVariables false

theorem entB_bd {f : Fig} (h : entB f = true) : 1 ≤ f.c ∧ 0 ≤ f.g ∧ f.g ≤ 20 := by
  simp only [entB, onB, inB, Bool.and_eq_true, decide_eq_true_eq] at h
  omega

end Go.Proofs.YtmnephaechgffaaDoor
