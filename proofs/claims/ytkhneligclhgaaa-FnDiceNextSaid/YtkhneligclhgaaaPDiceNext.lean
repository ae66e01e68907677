/- Two numbers have two next ones: of every two codes that come in. -/
import Derived.Test.YtkhneligclhgaaaMB
import Derived.Test.YtkhneligclhgaaaFx
import Derived.Test.YtkhneligclhgaaaFy
import Derived.Test.YtkhneligclhgaaaFz
import Derived.Test.YtkhneligclhgaaaFw
import Derived.Test.YtkhneligclhgaaaMM
import Derived.Test.YtkhneligclhgaaaFm
namespace Go.Proofs.Ytkhneligclhgaaa
open Go.ChangeShapes Go.WideShapes Go.ChangeAt Go.RowKit Go.Deep

theorem pDiceNext_k1 : (Rows.fnDiceNextRow.wf (OpenSpec.ofChange Rows.fnDiceNextSpec)) = true := by kernel_rfl
theorem pDiceNext_k4 : (Try.f3.params.all (Try.prog.readableRec ·)) = true := by kernel_rfl
theorem pDiceNext_k5 : (namedTie Try.prog Rows.fnDiceNextRow.named Rows.fnDiceNextSpec.vars) = true := by kernel_rfl
theorem pDiceNext_k6 : ((Rows.fnDiceNextRow.stops == [])) = true := by kernel_rfl
theorem pDiceNext_k8 : ((Rows.fnDiceNextRow.knobs == [])) = true := by kernel_rfl
theorem pDiceNext_k10 : ((Rows.fnDiceNextRow.inPlace == Try.prog.inPlace 3)) = true := by kernel_rfl
theorem pDiceNext_k11 : ((Rows.fnDiceNextRow.unfollowed == Try.prog.unfollowed 3)) = true := by kernel_rfl
theorem pDiceNext_k12 : ((Rows.fnDiceNextRow.recurses == Try.prog.recurses 3)) = true := by kernel_rfl
theorem pDiceNext_k13 : ((Rows.fnDiceNextRow.named == Try.prog.varsNamed 3)) = true := by kernel_rfl
theorem pDiceNext_k14 : ((Rows.fnDiceNextRow.maps == (Try.f3.params.toList ++ Rows.fnDiceNextSpec.plain.varTypes Try.prog).any (Try.prog.mapsRec ·))) = true := by kernel_rfl
theorem pDiceNext_k15 : ((Rows.fnDiceNextRow.ifaces == (Try.f3.params.toList ++ Rows.fnDiceNextSpec.plain.varTypes Try.prog).any (Try.prog.ifacesRec ·))) = true := by kernel_rfl
theorem pDiceNext_k16 : ((Rows.fnDiceNextRow.mapsOut == Try.prog.mapsAmong Try.f3.resultTypes.toList)) = true := by kernel_rfl
theorem pDiceNext_k17 : ((Rows.fnDiceNextRow.loops == (Try.f3.params.toList ++ Rows.fnDiceNextSpec.plain.varTypes Try.prog).any (Try.prog.loopsFrom ·))) = true := by kernel_rfl
theorem pDiceNext_k18 : ((Rows.fnDiceNextRow.wideKeys == (Try.f3.params.toList ++ Rows.fnDiceNextSpec.plain.varTypes Try.prog ++ Try.f3.resultTypes.toList).any (Try.prog.wideKeysFrom ·))) = true := by kernel_rfl
theorem pDiceNext_k19 : (Rows.fnDiceNextSpec.vars.all (Try.prog.varReadable ·)) = true := by kernel_rfl
theorem pDiceNext_k20 : (Try.f3.resultTypes.all (fun t => Try.prog.readableRec t && decide (t < Try.prog.types.size))) = true := by kernel_rfl
theorem pDiceNext_k21 : ((Rows.fnDiceNextRow.ifacesOut == Try.f3.resultTypes.toList.any (Try.prog.ifacesRec ·))) = true := by kernel_rfl
theorem pDiceNext_k22 : ((Rows.fnDiceNextRow.loopsOut == Try.f3.resultTypes.toList.any (Try.prog.loopsFrom ·))) = true := by kernel_rfl
theorem pDiceNext_k24 : (Rows.fnDiceNextRow.shortTexts.isNone) = true := by kernel_rfl
theorem pDiceNext_k30 : ((Rows.fnDiceNextRow.pinned == Rows.fnDiceNextRow.pinnedBy)) = true := by kernel_rfl
theorem pDiceNext_k31 : ((Rows.fnDiceNextRow.veiled == (Try.f3.params.toList ++ Rows.fnDiceNextSpec.plain.varTypes Try.prog ++ Try.f3.resultTypes.toList).any (Try.prog.veiledRec ·))) = true := by kernel_rfl
theorem pDiceNext_k32 : (Rows.fnDiceNextRow.veiledFits Try.prog Try.f3.params.toList (Try.f3.params.toList ++ Rows.fnDiceNextSpec.plain.varTypes Try.prog ++ Try.f3.resultTypes.toList)) = true := by kernel_rfl
theorem pDiceNext_closed : joinedFacts Try.prog 3 Try.f3 Rows.fnDiceNextSpec Rows.fnDiceNextRow = true :=
  facts_of pDiceNext_k1 Try.f_laid Try.f_maps pDiceNext_k4 pDiceNext_k5 pDiceNext_k6 Try.f_stops pDiceNext_k8 Try.f_knobs pDiceNext_k10 pDiceNext_k11 pDiceNext_k12 pDiceNext_k13 pDiceNext_k14 pDiceNext_k15 pDiceNext_k16 pDiceNext_k17 pDiceNext_k18 pDiceNext_k19 pDiceNext_k20 pDiceNext_k21 pDiceNext_k22 (by kernel_rfl) pDiceNext_k24 Try.f_heard Try.f_enter Try.f_lifts Try.f_make rfl rfl pDiceNext_k30 pDiceNext_k31 pDiceNext_k32

set_option maxRecDepth 100000 in
theorem pDiceNext_lifted (os : Os) (started : os.Started) (H : Type) (enc : TypeId × Value → H) :
    ReturnsInHanded {} Try.checked os 3 .any (Rows.fnDiceNextSpec.pre6 enc Try.prog Try.f3 Rows.fnDiceNextRow.domain false) (Rows.fnDiceNextSpec.post enc Try.prog Try.f3 false true false false) := by
  refine returnsInHanded_of_change (C := Try.checked) Try.own started (by kernel_rfl) Try.func3
    (ChangeSpec.witness6 (enc := enc) (C := Try.checked) false ⟨#[], #[.slice none 0 0, .slice none 0 0], []⟩ 8 (by kernel_rfl) (by kernel_rfl) (by kernel_rfl) (by kernel_rfl)) ?_
  intro W base args ds gs before hval0 hW _ _
  have hval : ∀ (j : Nat) t v, Try.f3.params[j]? = some t → args[j]? = some v → Value.okWide Try.prog W .any base t v := hval0
  have hW' := hW
  obtain ⟨p, q, hA0, hV, rfl, _, _⟩ := hW
  have hA : DataW.TrodAll enc Try.prog W 0 (fun _ => true) true Try.f3.params.toList args.toList ds p := hA0
  rw [Try.params3] at hA hval
  obtain ⟨v0, v1, d0, d1, p0, p1, rfl, rfl, rfl, h0, h1⟩ := trodAll_two hA
  obtain ⟨rfl, rfl⟩ := trodVars_none hV
  obtain ⟨A, n, c, rfl, m0, l0, b0⟩ := in_bytes Try.underlying22 Try.underlying5 (by kernel_rfl) (hval 0 _ v0 rfl rfl) h0
  obtain ⟨B, m, d, rfl, m1, l1, b1⟩ := in_bytes Try.underlying22 Try.underlying5 (by kernel_rfl) (hval 1 _ v1 rfl rfl) h1
  refine (lawDiceNext A c n B d m _ m0 l0 b0 m1 l1 b1).mono fun e W' ⟨he, hb⟩ => ⟨_, he, ?_⟩
  exact law_post (tb := 4) Try.laidOut (by kernel_rfl) rfl Try.underlying4 rfl hW' rfl hb

theorem pDiceNext_holds : Rows.FnDiceNextSaid :=
  OpenClaim.holds_of_wide 3 Try.f3 rfl rfl rfl rfl rfl rfl rfl ⟨rfl, rfl, rfl, rfl, rfl⟩ rfl rfl rfl rfl rfl (by kernel_rfl) Try.func3 pDiceNext_closed
    (of_decide_eq_true (by kernel_rfl)) (by unfold Func.isWrapper; first | (rw [if_pos (by decide +kernel)]; kernel_rfl) | (rw [if_neg (by decide +kernel)]; exact ⟨rfl, rfl⟩))
    (fun os started H enc _ => pDiceNext_lifted os started H enc)
#print axioms pDiceNext_holds
end Go.Proofs.Ytkhneligclhgaaa
