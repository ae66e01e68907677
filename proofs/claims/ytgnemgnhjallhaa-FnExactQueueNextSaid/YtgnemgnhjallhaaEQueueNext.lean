/- The exact law of QueueNext holds of all that comes in. -/
import Derived.Test.YtgnemgnhjallhaaMB
import Derived.Test.YtgnemgnhjallhaaFx
import Derived.Test.YtgnemgnhjallhaaFy
import Derived.Test.YtgnemgnhjallhaaFz
import Derived.Test.YtgnemgnhjallhaaFw
import Derived.Test.YtgnemgnhjallhaaVo
namespace Go.Proofs.Ytgnemgnhjallhaa
open Go.ChangeShapes Go.WideShapes Go.ChangeAt Go.RowKit Go.Deep

theorem xQueueNext_k1 : (Rows.fnExactQueueNextRow.wf (OpenSpec.ofChange Rows.fnExactQueueNextSpec)) = true := by kernel_rfl
theorem xQueueNext_k4 : (Try.f9.params.all (Try.prog.readableRec ·)) = true := by kernel_rfl
theorem xQueueNext_k5 : (namedTie Try.prog Rows.fnExactQueueNextRow.named Rows.fnExactQueueNextSpec.vars) = true := by kernel_rfl
theorem xQueueNext_k6 : ((Rows.fnExactQueueNextRow.stops == [])) = true := by kernel_rfl
theorem xQueueNext_k8 : ((Rows.fnExactQueueNextRow.knobs == [])) = true := by kernel_rfl
theorem xQueueNext_k10 : ((Rows.fnExactQueueNextRow.inPlace == Try.prog.inPlace 9)) = true := by kernel_rfl
theorem xQueueNext_k11 : ((Rows.fnExactQueueNextRow.unfollowed == Try.prog.unfollowed 9)) = true := by kernel_rfl
theorem xQueueNext_k12 : ((Rows.fnExactQueueNextRow.recurses == Try.prog.recurses 9)) = true := by kernel_rfl
theorem xQueueNext_k13 : ((Rows.fnExactQueueNextRow.named == Try.prog.varsNamed 9)) = true := by kernel_rfl
theorem xQueueNext_k14 : ((Rows.fnExactQueueNextRow.maps == (Try.f9.params.toList ++ Rows.fnExactQueueNextSpec.plain.varTypes Try.prog).any (Try.prog.mapsRec ·))) = true := by kernel_rfl
theorem xQueueNext_k15 : ((Rows.fnExactQueueNextRow.ifaces == (Try.f9.params.toList ++ Rows.fnExactQueueNextSpec.plain.varTypes Try.prog).any (Try.prog.ifacesRec ·))) = true := by kernel_rfl
theorem xQueueNext_k16 : ((Rows.fnExactQueueNextRow.mapsOut == Try.prog.mapsAmong Try.f9.resultTypes.toList)) = true := by kernel_rfl
theorem xQueueNext_k17 : ((Rows.fnExactQueueNextRow.loops == (Try.f9.params.toList ++ Rows.fnExactQueueNextSpec.plain.varTypes Try.prog).any (Try.prog.loopsFrom ·))) = true := by kernel_rfl
theorem xQueueNext_k18 : ((Rows.fnExactQueueNextRow.wideKeys == (Try.f9.params.toList ++ Rows.fnExactQueueNextSpec.plain.varTypes Try.prog ++ Try.f9.resultTypes.toList).any (Try.prog.wideKeysFrom ·))) = true := by kernel_rfl
theorem xQueueNext_k19 : (Rows.fnExactQueueNextSpec.vars.all (Try.prog.varReadable ·)) = true := by kernel_rfl
theorem xQueueNext_k20 : (Try.f9.resultTypes.all (fun t => Try.prog.readableRec t && decide (t < Try.prog.types.size))) = true := by kernel_rfl
theorem xQueueNext_k21 : ((Rows.fnExactQueueNextRow.ifacesOut == Try.f9.resultTypes.toList.any (Try.prog.ifacesRec ·))) = true := by kernel_rfl
theorem xQueueNext_k22 : ((Rows.fnExactQueueNextRow.loopsOut == Try.f9.resultTypes.toList.any (Try.prog.loopsFrom ·))) = true := by kernel_rfl
theorem xQueueNext_k24 : (Rows.fnExactQueueNextRow.shortTexts.isNone) = true := by kernel_rfl
theorem xQueueNext_k30 : ((Rows.fnExactQueueNextRow.pinned == Rows.fnExactQueueNextRow.pinnedBy)) = true := by kernel_rfl
theorem xQueueNext_k31 : ((Rows.fnExactQueueNextRow.veiled == (Try.f9.params.toList ++ Rows.fnExactQueueNextSpec.plain.varTypes Try.prog ++ Try.f9.resultTypes.toList).any (Try.prog.veiledRec ·))) = true := by kernel_rfl
theorem xQueueNext_k32 : (Rows.fnExactQueueNextRow.veiledFits Try.prog Try.f9.params.toList (Try.f9.params.toList ++ Rows.fnExactQueueNextSpec.plain.varTypes Try.prog ++ Try.f9.resultTypes.toList)) = true := by kernel_rfl
theorem xQueueNext_closed : joinedFacts Try.prog 9 Try.f9 Rows.fnExactQueueNextSpec Rows.fnExactQueueNextRow = true :=
  facts_of xQueueNext_k1 Try.f_laid Try.f_maps xQueueNext_k4 xQueueNext_k5 xQueueNext_k6 Try.f_stops xQueueNext_k8 Try.f_knobs xQueueNext_k10 xQueueNext_k11 xQueueNext_k12 xQueueNext_k13 xQueueNext_k14 xQueueNext_k15 xQueueNext_k16 xQueueNext_k17 xQueueNext_k18 xQueueNext_k19 xQueueNext_k20 xQueueNext_k21 xQueueNext_k22 (by kernel_rfl) xQueueNext_k24 Try.f_heard Try.f_enter Try.f_lifts Try.f_make rfl rfl xQueueNext_k30 xQueueNext_k31 xQueueNext_k32

set_option maxRecDepth 100000 in
theorem xQueueNext_lifted (os : Os) (started : os.Started) (H : Type) (enc : TypeId × Value → H) :
    ReturnsInHanded {} Try.checked os 9 .any (Rows.fnExactQueueNextSpec.pre6 enc Try.prog Try.f9 Rows.fnExactQueueNextRow.domain false) (Rows.fnExactQueueNextSpec.post enc Try.prog Try.f9 false true false false) := by
  refine returnsInHanded_of_change (C := Try.checked) Try.own started (by kernel_rfl) Try.func9
    (ChangeSpec.witness6 (enc := enc) (C := Try.checked) false ⟨#[], #[.slice none 0 0], []⟩ 8 (by kernel_rfl) (by kernel_rfl) (by kernel_rfl) (by kernel_rfl)) ?_
  intro W base args ds gs before hval0 hW _ _
  have hval : ∀ (j : Nat) t v, Try.f9.params[j]? = some t → args[j]? = some v → Value.okWide Try.prog W .any base t v := hval0
  have hW' := hW
  obtain ⟨p, q, hA0, hV, rfl, _, _⟩ := hW
  have hA : DataW.TrodAll enc Try.prog W 0 (fun _ => true) true Try.f9.params.toList args.toList ds p := hA0
  rw [Try.params9] at hA hval
  obtain ⟨v0, d0, rfl, rfl, h0⟩ := trodAll_one hA
  obtain ⟨rfl, rfl⟩ := trodVars_none hV
  obtain ⟨A, a, L, rfl, m0, r0⟩ := in_timeds (hval 0 _ v0 rfl rfl) h0
  refine (exactQueueNext A a L _ m0 r0).mono fun e W' ⟨he, hb⟩ => ⟨_, he, ?_⟩
  exact law_post (tb := 4) Try.laidOut (by kernel_rfl) rfl Try.underlying4 rfl hW' rfl hb

theorem xQueueNext_holds : Rows.FnExactQueueNextSaid :=
  OpenClaim.holds_of_wide 9 Try.f9 rfl rfl rfl rfl rfl rfl rfl ⟨rfl, rfl, rfl, rfl, rfl⟩ rfl rfl rfl rfl rfl (by kernel_rfl) Try.func9 xQueueNext_closed
    (of_decide_eq_true (by kernel_rfl)) (by unfold Func.isWrapper; first | (rw [if_pos (by decide +kernel)]; kernel_rfl) | (rw [if_neg (by decide +kernel)]; exact ⟨rfl, rfl⟩))
    (fun os started H enc _ => xQueueNext_lifted os started H enc)
#print axioms xQueueNext_holds
end Go.Proofs.Ytgnemgnhjallhaa
