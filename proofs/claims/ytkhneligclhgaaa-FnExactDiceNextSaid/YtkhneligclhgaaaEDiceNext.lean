/- The exact law of DiceNext holds of every number. -/
import Derived.Test.YtkhneligclhgaaaMB
import Derived.Test.YtkhneligclhgaaaFx
import Derived.Test.YtkhneligclhgaaaFy
import Derived.Test.YtkhneligclhgaaaFz
import Derived.Test.YtkhneligclhgaaaFw
import Derived.Test.YtkhneligclhgaaaFh
namespace Go.Proofs.Ytkhneligclhgaaa
open Go.ChangeShapes Go.WideShapes Go.ChangeAt Go.RowKit Go.Deep

theorem xDiceNext_k1 : (Rows.fnExactDiceNextRow.wf (OpenSpec.ofChange Rows.fnExactDiceNextSpec)) = true := by kernel_rfl
theorem xDiceNext_k4 : (Try.f8.params.all (Try.prog.readableRec ·)) = true := by kernel_rfl
theorem xDiceNext_k5 : (namedTie Try.prog Rows.fnExactDiceNextRow.named Rows.fnExactDiceNextSpec.vars) = true := by kernel_rfl
theorem xDiceNext_k6 : ((Rows.fnExactDiceNextRow.stops == [])) = true := by kernel_rfl
theorem xDiceNext_k8 : ((Rows.fnExactDiceNextRow.knobs == [])) = true := by kernel_rfl
theorem xDiceNext_k10 : ((Rows.fnExactDiceNextRow.inPlace == Try.prog.inPlace 8)) = true := by kernel_rfl
theorem xDiceNext_k11 : ((Rows.fnExactDiceNextRow.unfollowed == Try.prog.unfollowed 8)) = true := by kernel_rfl
theorem xDiceNext_k12 : ((Rows.fnExactDiceNextRow.recurses == Try.prog.recurses 8)) = true := by kernel_rfl
theorem xDiceNext_k13 : ((Rows.fnExactDiceNextRow.named == Try.prog.varsNamed 8)) = true := by kernel_rfl
theorem xDiceNext_k14 : ((Rows.fnExactDiceNextRow.maps == (Try.f8.params.toList ++ Rows.fnExactDiceNextSpec.plain.varTypes Try.prog).any (Try.prog.mapsRec ·))) = true := by kernel_rfl
theorem xDiceNext_k15 : ((Rows.fnExactDiceNextRow.ifaces == (Try.f8.params.toList ++ Rows.fnExactDiceNextSpec.plain.varTypes Try.prog).any (Try.prog.ifacesRec ·))) = true := by kernel_rfl
theorem xDiceNext_k16 : ((Rows.fnExactDiceNextRow.mapsOut == Try.prog.mapsAmong Try.f8.resultTypes.toList)) = true := by kernel_rfl
theorem xDiceNext_k17 : ((Rows.fnExactDiceNextRow.loops == (Try.f8.params.toList ++ Rows.fnExactDiceNextSpec.plain.varTypes Try.prog).any (Try.prog.loopsFrom ·))) = true := by kernel_rfl
theorem xDiceNext_k18 : ((Rows.fnExactDiceNextRow.wideKeys == (Try.f8.params.toList ++ Rows.fnExactDiceNextSpec.plain.varTypes Try.prog ++ Try.f8.resultTypes.toList).any (Try.prog.wideKeysFrom ·))) = true := by kernel_rfl
theorem xDiceNext_k19 : (Rows.fnExactDiceNextSpec.vars.all (Try.prog.varReadable ·)) = true := by kernel_rfl
theorem xDiceNext_k20 : (Try.f8.resultTypes.all (fun t => Try.prog.readableRec t && decide (t < Try.prog.types.size))) = true := by kernel_rfl
theorem xDiceNext_k21 : ((Rows.fnExactDiceNextRow.ifacesOut == Try.f8.resultTypes.toList.any (Try.prog.ifacesRec ·))) = true := by kernel_rfl
theorem xDiceNext_k22 : ((Rows.fnExactDiceNextRow.loopsOut == Try.f8.resultTypes.toList.any (Try.prog.loopsFrom ·))) = true := by kernel_rfl
theorem xDiceNext_k24 : (Rows.fnExactDiceNextRow.shortTexts.isNone) = true := by kernel_rfl
theorem xDiceNext_k30 : ((Rows.fnExactDiceNextRow.pinned == Rows.fnExactDiceNextRow.pinnedBy)) = true := by kernel_rfl
theorem xDiceNext_k31 : ((Rows.fnExactDiceNextRow.veiled == (Try.f8.params.toList ++ Rows.fnExactDiceNextSpec.plain.varTypes Try.prog ++ Try.f8.resultTypes.toList).any (Try.prog.veiledRec ·))) = true := by kernel_rfl
theorem xDiceNext_k32 : (Rows.fnExactDiceNextRow.veiledFits Try.prog Try.f8.params.toList (Try.f8.params.toList ++ Rows.fnExactDiceNextSpec.plain.varTypes Try.prog ++ Try.f8.resultTypes.toList)) = true := by kernel_rfl
theorem xDiceNext_closed : joinedFacts Try.prog 8 Try.f8 Rows.fnExactDiceNextSpec Rows.fnExactDiceNextRow = true :=
  facts_of xDiceNext_k1 Try.f_laid Try.f_maps xDiceNext_k4 xDiceNext_k5 xDiceNext_k6 Try.f_stops xDiceNext_k8 Try.f_knobs xDiceNext_k10 xDiceNext_k11 xDiceNext_k12 xDiceNext_k13 xDiceNext_k14 xDiceNext_k15 xDiceNext_k16 xDiceNext_k17 xDiceNext_k18 xDiceNext_k19 xDiceNext_k20 xDiceNext_k21 xDiceNext_k22 (by kernel_rfl) xDiceNext_k24 Try.f_heard Try.f_enter Try.f_lifts Try.f_make rfl rfl xDiceNext_k30 xDiceNext_k31 xDiceNext_k32

set_option maxRecDepth 100000 in
theorem xDiceNext_lifted (os : Os) (started : os.Started) (H : Type) (enc : TypeId × Value → H) :
    ReturnsInHanded {} Try.checked os 8 .any (Rows.fnExactDiceNextSpec.pre6 enc Try.prog Try.f8 Rows.fnExactDiceNextRow.domain false) (Rows.fnExactDiceNextSpec.post enc Try.prog Try.f8 false true false false) := by
  refine returnsInHanded_of_change (C := Try.checked) Try.own started (by kernel_rfl) Try.func8
    (ChangeSpec.witness6 (enc := enc) (C := Try.checked) false ⟨#[], #[.int .i64 0], []⟩ 8 (by kernel_rfl) (by kernel_rfl) (by kernel_rfl) (by kernel_rfl)) ?_
  intro W base args ds gs before hval0 hW _ _
  have hval : ∀ (j : Nat) t v, Try.f8.params[j]? = some t → args[j]? = some v → Value.okWide Try.prog W .any base t v := hval0
  have hW' := hW
  obtain ⟨p, q, hA0, hV, rfl, _, _⟩ := hW
  have hA : DataW.TrodAll enc Try.prog W 0 (fun _ => true) true Try.f8.params.toList args.toList ds p := hA0
  rw [Try.params8] at hA hval
  obtain ⟨v0, d0, rfl, rfl, h0⟩ := trodAll_one hA
  obtain ⟨rfl, rfl⟩ := trodVars_none hV
  obtain ⟨s, rfl, _⟩ := open_int Try.underlying3 (hval 0 _ v0 rfl rfl) h0
  refine (exactDiceNext s _).mono fun e W' ⟨he, hb⟩ => ⟨_, he, ?_⟩
  exact law_post (tb := 4) Try.laidOut (by kernel_rfl) rfl Try.underlying4 rfl hW' rfl hb

theorem xDiceNext_holds : Rows.FnExactDiceNextSaid :=
  OpenClaim.holds_of_wide 8 Try.f8 rfl rfl rfl rfl rfl rfl rfl ⟨rfl, rfl, rfl, rfl, rfl⟩ rfl rfl rfl rfl rfl (by kernel_rfl) Try.func8 xDiceNext_closed
    (of_decide_eq_true (by kernel_rfl)) (by unfold Func.isWrapper; first | (rw [if_pos (by decide +kernel)]; kernel_rfl) | (rw [if_neg (by decide +kernel)]; exact ⟨rfl, rfl⟩))
    (fun os started H enc _ => xDiceNext_lifted os started H enc)
#print axioms xDiceNext_holds
end Go.Proofs.Ytkhneligclhgaaa
