/- The exact law of QueueOk holds of all that comes in. -/
import Derived.Test.YtgnemgnhjallhaaMB
import Derived.Test.YtgnemgnhjallhaaFx
import Derived.Test.YtgnemgnhjallhaaFy
import Derived.Test.YtgnemgnhjallhaaFz
import Derived.Test.YtgnemgnhjallhaaFw
import Derived.Test.YtgnemgnhjallhaaVj
namespace Go.Proofs.Ytgnemgnhjallhaa
open Go.ChangeShapes Go.WideShapes Go.ChangeAt Go.RowKit Go.Deep

theorem xQueueOk_k1 : (Rows.fnExactQueueOkRow.wf (OpenSpec.ofChange Rows.fnExactQueueOkSpec)) = true := by kernel_rfl
theorem xQueueOk_k4 : (Try.f7.params.all (Try.prog.readableRec ·)) = true := by kernel_rfl
theorem xQueueOk_k5 : (namedTie Try.prog Rows.fnExactQueueOkRow.named Rows.fnExactQueueOkSpec.vars) = true := by kernel_rfl
theorem xQueueOk_k6 : ((Rows.fnExactQueueOkRow.stops == [])) = true := by kernel_rfl
theorem xQueueOk_k8 : ((Rows.fnExactQueueOkRow.knobs == [])) = true := by kernel_rfl
theorem xQueueOk_k10 : ((Rows.fnExactQueueOkRow.inPlace == Try.prog.inPlace 7)) = true := by kernel_rfl
theorem xQueueOk_k11 : ((Rows.fnExactQueueOkRow.unfollowed == Try.prog.unfollowed 7)) = true := by kernel_rfl
theorem xQueueOk_k12 : ((Rows.fnExactQueueOkRow.recurses == Try.prog.recurses 7)) = true := by kernel_rfl
theorem xQueueOk_k13 : ((Rows.fnExactQueueOkRow.named == Try.prog.varsNamed 7)) = true := by kernel_rfl
theorem xQueueOk_k14 : ((Rows.fnExactQueueOkRow.maps == (Try.f7.params.toList ++ Rows.fnExactQueueOkSpec.plain.varTypes Try.prog).any (Try.prog.mapsRec ·))) = true := by kernel_rfl
theorem xQueueOk_k15 : ((Rows.fnExactQueueOkRow.ifaces == (Try.f7.params.toList ++ Rows.fnExactQueueOkSpec.plain.varTypes Try.prog).any (Try.prog.ifacesRec ·))) = true := by kernel_rfl
theorem xQueueOk_k16 : ((Rows.fnExactQueueOkRow.mapsOut == Try.prog.mapsAmong Try.f7.resultTypes.toList)) = true := by kernel_rfl
theorem xQueueOk_k17 : ((Rows.fnExactQueueOkRow.loops == (Try.f7.params.toList ++ Rows.fnExactQueueOkSpec.plain.varTypes Try.prog).any (Try.prog.loopsFrom ·))) = true := by kernel_rfl
theorem xQueueOk_k18 : ((Rows.fnExactQueueOkRow.wideKeys == (Try.f7.params.toList ++ Rows.fnExactQueueOkSpec.plain.varTypes Try.prog ++ Try.f7.resultTypes.toList).any (Try.prog.wideKeysFrom ·))) = true := by kernel_rfl
theorem xQueueOk_k19 : (Rows.fnExactQueueOkSpec.vars.all (Try.prog.varReadable ·)) = true := by kernel_rfl
theorem xQueueOk_k20 : (Try.f7.resultTypes.all (fun t => Try.prog.readableRec t && decide (t < Try.prog.types.size))) = true := by kernel_rfl
theorem xQueueOk_k21 : ((Rows.fnExactQueueOkRow.ifacesOut == Try.f7.resultTypes.toList.any (Try.prog.ifacesRec ·))) = true := by kernel_rfl
theorem xQueueOk_k22 : ((Rows.fnExactQueueOkRow.loopsOut == Try.f7.resultTypes.toList.any (Try.prog.loopsFrom ·))) = true := by kernel_rfl
theorem xQueueOk_k24 : (Rows.fnExactQueueOkRow.shortTexts.isNone) = true := by kernel_rfl
theorem xQueueOk_k30 : ((Rows.fnExactQueueOkRow.pinned == Rows.fnExactQueueOkRow.pinnedBy)) = true := by kernel_rfl
theorem xQueueOk_k31 : ((Rows.fnExactQueueOkRow.veiled == (Try.f7.params.toList ++ Rows.fnExactQueueOkSpec.plain.varTypes Try.prog ++ Try.f7.resultTypes.toList).any (Try.prog.veiledRec ·))) = true := by kernel_rfl
theorem xQueueOk_k32 : (Rows.fnExactQueueOkRow.veiledFits Try.prog Try.f7.params.toList (Try.f7.params.toList ++ Rows.fnExactQueueOkSpec.plain.varTypes Try.prog ++ Try.f7.resultTypes.toList)) = true := by kernel_rfl
theorem xQueueOk_closed : joinedFacts Try.prog 7 Try.f7 Rows.fnExactQueueOkSpec Rows.fnExactQueueOkRow = true :=
  facts_of xQueueOk_k1 Try.f_laid Try.f_maps xQueueOk_k4 xQueueOk_k5 xQueueOk_k6 Try.f_stops xQueueOk_k8 Try.f_knobs xQueueOk_k10 xQueueOk_k11 xQueueOk_k12 xQueueOk_k13 xQueueOk_k14 xQueueOk_k15 xQueueOk_k16 xQueueOk_k17 xQueueOk_k18 xQueueOk_k19 xQueueOk_k20 xQueueOk_k21 xQueueOk_k22 (by kernel_rfl) xQueueOk_k24 Try.f_heard Try.f_enter Try.f_lifts Try.f_make rfl rfl xQueueOk_k30 xQueueOk_k31 xQueueOk_k32

set_option maxRecDepth 100000 in
theorem xQueueOk_lifted (os : Os) (started : os.Started) (H : Type) (enc : TypeId × Value → H) :
    ReturnsInHanded {} Try.checked os 7 .any (Rows.fnExactQueueOkSpec.pre6 enc Try.prog Try.f7 Rows.fnExactQueueOkRow.domain false) (Rows.fnExactQueueOkSpec.post enc Try.prog Try.f7 false true false false) := by
  refine returnsInHanded_of_change (C := Try.checked) Try.own started (by kernel_rfl) Try.func7
    (ChangeSpec.witness6 (enc := enc) (C := Try.checked) false ⟨#[], #[.slice none 0 0], []⟩ 8 (by kernel_rfl) (by kernel_rfl) (by kernel_rfl) (by kernel_rfl)) ?_
  intro W base args ds gs before hval0 hW _ _
  have hval : ∀ (j : Nat) t v, Try.f7.params[j]? = some t → args[j]? = some v → Value.okWide Try.prog W .any base t v := hval0
  have hW' := hW
  obtain ⟨p, q, hA0, hV, rfl, _, _⟩ := hW
  have hA : DataW.TrodAll enc Try.prog W 0 (fun _ => true) true Try.f7.params.toList args.toList ds p := hA0
  rw [Try.params7] at hA hval
  obtain ⟨v0, d0, rfl, rfl, h0⟩ := trodAll_one hA
  obtain ⟨rfl, rfl⟩ := trodVars_none hV
  obtain ⟨A, a, L, rfl, m0, r0⟩ := in_timeds (hval 0 _ v0 rfl rfl) h0
  refine (exactQueueOk A a L _ m0 r0).mono fun e W' ⟨he, hb⟩ => ⟨_, he, ?_⟩
  exact law_post (tb := 4) Try.laidOut (by kernel_rfl) rfl Try.underlying4 rfl hW' rfl hb

theorem xQueueOk_holds : Rows.FnExactQueueOkSaid :=
  OpenClaim.holds_of_wide 7 Try.f7 rfl rfl rfl rfl rfl rfl rfl ⟨rfl, rfl, rfl, rfl, rfl⟩ rfl rfl rfl rfl rfl (by kernel_rfl) Try.func7 xQueueOk_closed
    (of_decide_eq_true (by kernel_rfl)) (by unfold Func.isWrapper; first | (rw [if_pos (by decide +kernel)]; kernel_rfl) | (rw [if_neg (by decide +kernel)]; exact ⟨rfl, rfl⟩))
    (fun os started H enc _ => xQueueOk_lifted os started H enc)
#print axioms xQueueOk_holds
end Go.Proofs.Ytgnemgnhjallhaa
