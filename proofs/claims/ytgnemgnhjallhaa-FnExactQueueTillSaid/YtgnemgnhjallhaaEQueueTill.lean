/- The exact law of QueueTill holds of all that comes in. -/
import Derived.Test.YtgnemgnhjallhaaMB
import Derived.Test.YtgnemgnhjallhaaFx
import Derived.Test.YtgnemgnhjallhaaFy
import Derived.Test.YtgnemgnhjallhaaFz
import Derived.Test.YtgnemgnhjallhaaFw
import Derived.Test.YtgnemgnhjallhaaVq
namespace Go.Proofs.Ytgnemgnhjallhaa
open Go.ChangeShapes Go.WideShapes Go.ChangeAt Go.RowKit Go.Deep

theorem xQueueTill_k1 : (Rows.fnExactQueueTillRow.wf (OpenSpec.ofChange Rows.fnExactQueueTillSpec)) = true := by kernel_rfl
theorem xQueueTill_k4 : (Try.f10.params.all (Try.prog.readableRec ·)) = true := by kernel_rfl
theorem xQueueTill_k5 : (namedTie Try.prog Rows.fnExactQueueTillRow.named Rows.fnExactQueueTillSpec.vars) = true := by kernel_rfl
theorem xQueueTill_k6 : ((Rows.fnExactQueueTillRow.stops == [])) = true := by kernel_rfl
theorem xQueueTill_k8 : ((Rows.fnExactQueueTillRow.knobs == [])) = true := by kernel_rfl
theorem xQueueTill_k10 : ((Rows.fnExactQueueTillRow.inPlace == Try.prog.inPlace 10)) = true := by kernel_rfl
theorem xQueueTill_k11 : ((Rows.fnExactQueueTillRow.unfollowed == Try.prog.unfollowed 10)) = true := by kernel_rfl
theorem xQueueTill_k12 : ((Rows.fnExactQueueTillRow.recurses == Try.prog.recurses 10)) = true := by kernel_rfl
theorem xQueueTill_k13 : ((Rows.fnExactQueueTillRow.named == Try.prog.varsNamed 10)) = true := by kernel_rfl
theorem xQueueTill_k14 : ((Rows.fnExactQueueTillRow.maps == (Try.f10.params.toList ++ Rows.fnExactQueueTillSpec.plain.varTypes Try.prog).any (Try.prog.mapsRec ·))) = true := by kernel_rfl
theorem xQueueTill_k15 : ((Rows.fnExactQueueTillRow.ifaces == (Try.f10.params.toList ++ Rows.fnExactQueueTillSpec.plain.varTypes Try.prog).any (Try.prog.ifacesRec ·))) = true := by kernel_rfl
theorem xQueueTill_k16 : ((Rows.fnExactQueueTillRow.mapsOut == Try.prog.mapsAmong Try.f10.resultTypes.toList)) = true := by kernel_rfl
theorem xQueueTill_k17 : ((Rows.fnExactQueueTillRow.loops == (Try.f10.params.toList ++ Rows.fnExactQueueTillSpec.plain.varTypes Try.prog).any (Try.prog.loopsFrom ·))) = true := by kernel_rfl
theorem xQueueTill_k18 : ((Rows.fnExactQueueTillRow.wideKeys == (Try.f10.params.toList ++ Rows.fnExactQueueTillSpec.plain.varTypes Try.prog ++ Try.f10.resultTypes.toList).any (Try.prog.wideKeysFrom ·))) = true := by kernel_rfl
theorem xQueueTill_k19 : (Rows.fnExactQueueTillSpec.vars.all (Try.prog.varReadable ·)) = true := by kernel_rfl
theorem xQueueTill_k20 : (Try.f10.resultTypes.all (fun t => Try.prog.readableRec t && decide (t < Try.prog.types.size))) = true := by kernel_rfl
theorem xQueueTill_k21 : ((Rows.fnExactQueueTillRow.ifacesOut == Try.f10.resultTypes.toList.any (Try.prog.ifacesRec ·))) = true := by kernel_rfl
theorem xQueueTill_k22 : ((Rows.fnExactQueueTillRow.loopsOut == Try.f10.resultTypes.toList.any (Try.prog.loopsFrom ·))) = true := by kernel_rfl
theorem xQueueTill_k24 : (Rows.fnExactQueueTillRow.shortTexts.isNone) = true := by kernel_rfl
theorem xQueueTill_k30 : ((Rows.fnExactQueueTillRow.pinned == Rows.fnExactQueueTillRow.pinnedBy)) = true := by kernel_rfl
theorem xQueueTill_k31 : ((Rows.fnExactQueueTillRow.veiled == (Try.f10.params.toList ++ Rows.fnExactQueueTillSpec.plain.varTypes Try.prog ++ Try.f10.resultTypes.toList).any (Try.prog.veiledRec ·))) = true := by kernel_rfl
theorem xQueueTill_k32 : (Rows.fnExactQueueTillRow.veiledFits Try.prog Try.f10.params.toList (Try.f10.params.toList ++ Rows.fnExactQueueTillSpec.plain.varTypes Try.prog ++ Try.f10.resultTypes.toList)) = true := by kernel_rfl
theorem xQueueTill_closed : joinedFacts Try.prog 10 Try.f10 Rows.fnExactQueueTillSpec Rows.fnExactQueueTillRow = true :=
  facts_of xQueueTill_k1 Try.f_laid Try.f_maps xQueueTill_k4 xQueueTill_k5 xQueueTill_k6 Try.f_stops xQueueTill_k8 Try.f_knobs xQueueTill_k10 xQueueTill_k11 xQueueTill_k12 xQueueTill_k13 xQueueTill_k14 xQueueTill_k15 xQueueTill_k16 xQueueTill_k17 xQueueTill_k18 xQueueTill_k19 xQueueTill_k20 xQueueTill_k21 xQueueTill_k22 (by kernel_rfl) xQueueTill_k24 Try.f_heard Try.f_enter Try.f_lifts Try.f_make rfl rfl xQueueTill_k30 xQueueTill_k31 xQueueTill_k32

set_option maxRecDepth 100000 in
theorem xQueueTill_lifted (os : Os) (started : os.Started) (H : Type) (enc : TypeId × Value → H) :
    ReturnsInHanded {} Try.checked os 10 .any (Rows.fnExactQueueTillSpec.pre6 enc Try.prog Try.f10 Rows.fnExactQueueTillRow.domain false) (Rows.fnExactQueueTillSpec.post enc Try.prog Try.f10 false true false false) := by
  refine returnsInHanded_of_change (C := Try.checked) Try.own started (by kernel_rfl) Try.func10
    (ChangeSpec.witness6 (enc := enc) (C := Try.checked) false ⟨#[], #[.slice none 0 0, .int .i64 0], []⟩ 8 (by kernel_rfl) (by kernel_rfl) (by kernel_rfl) (by kernel_rfl)) ?_
  intro W base args ds gs before hval0 hW _ _
  have hval : ∀ (j : Nat) t v, Try.f10.params[j]? = some t → args[j]? = some v → Value.okWide Try.prog W .any base t v := hval0
  have hW' := hW
  obtain ⟨p, q, hA0, hV, rfl, _, _⟩ := hW
  have hA : DataW.TrodAll enc Try.prog W 0 (fun _ => true) true Try.f10.params.toList args.toList ds p := hA0
  rw [Try.params10] at hA hval
  obtain ⟨v0, v1, d0, d1, p0, p1, rfl, rfl, rfl, h0, h1⟩ := trodAll_two hA
  obtain ⟨rfl, rfl⟩ := trodVars_none hV
  obtain ⟨A, a, L, rfl, m0, r0⟩ := in_timeds (hval 0 _ v0 rfl rfl) h0
  obtain ⟨t, rfl, _⟩ := open_int Try.underlying3 (hval 1 _ v1 rfl rfl) h1
  refine (exactQueueTill A a L t _ m0 r0).mono fun e W' ⟨he, hb⟩ => ⟨_, he, ?_⟩
  exact law_post (tb := 4) Try.laidOut (by kernel_rfl) rfl Try.underlying4 rfl hW' rfl hb

theorem xQueueTill_holds : Rows.FnExactQueueTillSaid :=
  OpenClaim.holds_of_wide 10 Try.f10 rfl rfl rfl rfl rfl rfl rfl ⟨rfl, rfl, rfl, rfl, rfl⟩ rfl rfl rfl rfl rfl (by kernel_rfl) Try.func10 xQueueTill_closed
    (of_decide_eq_true (by kernel_rfl)) (by unfold Func.isWrapper; first | (rw [if_pos (by decide +kernel)]; kernel_rfl) | (rw [if_neg (by decide +kernel)]; exact ⟨rfl, rfl⟩))
    (fun os started H enc _ => xQueueTill_lifted os started H enc)
#print axioms xQueueTill_holds
end Go.Proofs.Ytgnemgnhjallhaa
