/- The exact law of QueueSort holds of all that comes in. -/
import Derived.Test.YtgnemgnhjallhaaMB
import Derived.Test.YtgnemgnhjallhaaFx
import Derived.Test.YtgnemgnhjallhaaFy
import Derived.Test.YtgnemgnhjallhaaFz
import Derived.Test.YtgnemgnhjallhaaFw
import Derived.Test.YtgnemgnhjallhaaVr
namespace Go.Proofs.Ytgnemgnhjallhaa
open Go.ChangeShapes Go.WideShapes Go.ChangeAt Go.RowKit Go.Deep

theorem xQueueSort_k1 : (Rows.fnExactQueueSortRow.wf (OpenSpec.ofChange Rows.fnExactQueueSortSpec)) = true := by kernel_rfl
theorem xQueueSort_k4 : (Try.f11.params.all (Try.prog.readableRec ·)) = true := by kernel_rfl
theorem xQueueSort_k5 : (namedTie Try.prog Rows.fnExactQueueSortRow.named Rows.fnExactQueueSortSpec.vars) = true := by kernel_rfl
theorem xQueueSort_k6 : ((Rows.fnExactQueueSortRow.stops == [])) = true := by kernel_rfl
theorem xQueueSort_k8 : ((Rows.fnExactQueueSortRow.knobs == [])) = true := by kernel_rfl
theorem xQueueSort_k10 : ((Rows.fnExactQueueSortRow.inPlace == Try.prog.inPlace 11)) = true := by kernel_rfl
theorem xQueueSort_k11 : ((Rows.fnExactQueueSortRow.unfollowed == Try.prog.unfollowed 11)) = true := by kernel_rfl
theorem xQueueSort_k12 : ((Rows.fnExactQueueSortRow.recurses == Try.prog.recurses 11)) = true := by kernel_rfl
theorem xQueueSort_k13 : ((Rows.fnExactQueueSortRow.named == Try.prog.varsNamed 11)) = true := by kernel_rfl
theorem xQueueSort_k14 : ((Rows.fnExactQueueSortRow.maps == (Try.f11.params.toList ++ Rows.fnExactQueueSortSpec.plain.varTypes Try.prog).any (Try.prog.mapsRec ·))) = true := by kernel_rfl
theorem xQueueSort_k15 : ((Rows.fnExactQueueSortRow.ifaces == (Try.f11.params.toList ++ Rows.fnExactQueueSortSpec.plain.varTypes Try.prog).any (Try.prog.ifacesRec ·))) = true := by kernel_rfl
theorem xQueueSort_k16 : ((Rows.fnExactQueueSortRow.mapsOut == Try.prog.mapsAmong Try.f11.resultTypes.toList)) = true := by kernel_rfl
theorem xQueueSort_k17 : ((Rows.fnExactQueueSortRow.loops == (Try.f11.params.toList ++ Rows.fnExactQueueSortSpec.plain.varTypes Try.prog).any (Try.prog.loopsFrom ·))) = true := by kernel_rfl
theorem xQueueSort_k18 : ((Rows.fnExactQueueSortRow.wideKeys == (Try.f11.params.toList ++ Rows.fnExactQueueSortSpec.plain.varTypes Try.prog ++ Try.f11.resultTypes.toList).any (Try.prog.wideKeysFrom ·))) = true := by kernel_rfl
theorem xQueueSort_k19 : (Rows.fnExactQueueSortSpec.vars.all (Try.prog.varReadable ·)) = true := by kernel_rfl
theorem xQueueSort_k20 : (Try.f11.resultTypes.all (fun t => Try.prog.readableRec t && decide (t < Try.prog.types.size))) = true := by kernel_rfl
theorem xQueueSort_k21 : ((Rows.fnExactQueueSortRow.ifacesOut == Try.f11.resultTypes.toList.any (Try.prog.ifacesRec ·))) = true := by kernel_rfl
theorem xQueueSort_k22 : ((Rows.fnExactQueueSortRow.loopsOut == Try.f11.resultTypes.toList.any (Try.prog.loopsFrom ·))) = true := by kernel_rfl
theorem xQueueSort_k24 : (Rows.fnExactQueueSortRow.shortTexts.isNone) = true := by kernel_rfl
theorem xQueueSort_k30 : ((Rows.fnExactQueueSortRow.pinned == Rows.fnExactQueueSortRow.pinnedBy)) = true := by kernel_rfl
theorem xQueueSort_k31 : ((Rows.fnExactQueueSortRow.veiled == (Try.f11.params.toList ++ Rows.fnExactQueueSortSpec.plain.varTypes Try.prog ++ Try.f11.resultTypes.toList).any (Try.prog.veiledRec ·))) = true := by kernel_rfl
theorem xQueueSort_k32 : (Rows.fnExactQueueSortRow.veiledFits Try.prog Try.f11.params.toList (Try.f11.params.toList ++ Rows.fnExactQueueSortSpec.plain.varTypes Try.prog ++ Try.f11.resultTypes.toList)) = true := by kernel_rfl
theorem xQueueSort_closed : joinedFacts Try.prog 11 Try.f11 Rows.fnExactQueueSortSpec Rows.fnExactQueueSortRow = true :=
  facts_of xQueueSort_k1 Try.f_laid Try.f_maps xQueueSort_k4 xQueueSort_k5 xQueueSort_k6 Try.f_stops xQueueSort_k8 Try.f_knobs xQueueSort_k10 xQueueSort_k11 xQueueSort_k12 xQueueSort_k13 xQueueSort_k14 xQueueSort_k15 xQueueSort_k16 xQueueSort_k17 xQueueSort_k18 xQueueSort_k19 xQueueSort_k20 xQueueSort_k21 xQueueSort_k22 (by kernel_rfl) xQueueSort_k24 Try.f_heard Try.f_enter Try.f_lifts Try.f_make rfl rfl xQueueSort_k30 xQueueSort_k31 xQueueSort_k32

set_option maxRecDepth 100000 in
theorem xQueueSort_lifted (os : Os) (started : os.Started) (H : Type) (enc : TypeId × Value → H) :
    ReturnsInHanded {} Try.checked os 11 .any (Rows.fnExactQueueSortSpec.pre6 enc Try.prog Try.f11 Rows.fnExactQueueSortRow.domain false) (Rows.fnExactQueueSortSpec.post enc Try.prog Try.f11 false true false false) := by
  refine returnsInHanded_of_change (C := Try.checked) Try.own started (by kernel_rfl) Try.func11
    (ChangeSpec.witness6 (enc := enc) (C := Try.checked) false ⟨#[], #[.slice none 0 0], []⟩ 8 (by kernel_rfl) (by kernel_rfl) (by kernel_rfl) (by kernel_rfl)) ?_
  intro W base args ds gs before hval0 hW _ _
  have hval : ∀ (j : Nat) t v, Try.f11.params[j]? = some t → args[j]? = some v → Value.okWide Try.prog W .any base t v := hval0
  have hW' := hW
  obtain ⟨p, q, hA0, hV, rfl, _, _⟩ := hW
  have hA : DataW.TrodAll enc Try.prog W 0 (fun _ => true) true Try.f11.params.toList args.toList ds p := hA0
  rw [Try.params11] at hA hval
  obtain ⟨v0, d0, rfl, rfl, h0⟩ := trodAll_one hA
  obtain ⟨rfl, rfl⟩ := trodVars_none hV
  obtain ⟨A, a, L, rfl, m0, r0⟩ := in_timeds (hval 0 _ v0 rfl rfl) h0
  refine (exactQueueSort A a L _ m0 r0).mono fun e W' ⟨he, hb⟩ => ⟨_, he, ?_⟩
  exact law_post (tb := 4) Try.laidOut (by kernel_rfl) rfl Try.underlying4 rfl hW' rfl hb

theorem xQueueSort_holds : Rows.FnExactQueueSortSaid :=
  OpenClaim.holds_of_wide 11 Try.f11 rfl rfl rfl rfl rfl rfl rfl ⟨rfl, rfl, rfl, rfl, rfl⟩ rfl rfl rfl rfl rfl (by kernel_rfl) Try.func11 xQueueSort_closed
    (of_decide_eq_true (by kernel_rfl)) (by unfold Func.isWrapper; first | (rw [if_pos (by decide +kernel)]; kernel_rfl) | (rw [if_neg (by decide +kernel)]; exact ⟨rfl, rfl⟩))
    (fun os started H enc _ => xQueueSort_lifted os started H enc)
#print axioms xQueueSort_holds
end Go.Proofs.Ytgnemgnhjallhaa
