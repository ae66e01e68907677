/- The exact law of QueueAdd holds of all that comes in. -/
import Derived.Test.YtgnemgnhjallhaaMB
import Derived.Test.YtgnemgnhjallhaaFx
import Derived.Test.YtgnemgnhjallhaaFy
import Derived.Test.YtgnemgnhjallhaaFz
import Derived.Test.YtgnemgnhjallhaaFw
import Derived.Test.YtgnemgnhjallhaaVm
namespace Go.Proofs.Ytgnemgnhjallhaa
open Go.ChangeShapes Go.WideShapes Go.ChangeAt Go.RowKit Go.Deep

theorem xQueueAdd_k1 : (Rows.fnExactQueueAddRow.wf (OpenSpec.ofChange Rows.fnExactQueueAddSpec)) = true := by kernel_rfl
theorem xQueueAdd_k4 : (Try.f8.params.all (Try.prog.readableRec ·)) = true := by kernel_rfl
theorem xQueueAdd_k5 : (namedTie Try.prog Rows.fnExactQueueAddRow.named Rows.fnExactQueueAddSpec.vars) = true := by kernel_rfl
theorem xQueueAdd_k6 : ((Rows.fnExactQueueAddRow.stops == [])) = true := by kernel_rfl
theorem xQueueAdd_k8 : ((Rows.fnExactQueueAddRow.knobs == [])) = true := by kernel_rfl
theorem xQueueAdd_k10 : ((Rows.fnExactQueueAddRow.inPlace == Try.prog.inPlace 8)) = true := by kernel_rfl
theorem xQueueAdd_k11 : ((Rows.fnExactQueueAddRow.unfollowed == Try.prog.unfollowed 8)) = true := by kernel_rfl
theorem xQueueAdd_k12 : ((Rows.fnExactQueueAddRow.recurses == Try.prog.recurses 8)) = true := by kernel_rfl
theorem xQueueAdd_k13 : ((Rows.fnExactQueueAddRow.named == Try.prog.varsNamed 8)) = true := by kernel_rfl
theorem xQueueAdd_k14 : ((Rows.fnExactQueueAddRow.maps == (Try.f8.params.toList ++ Rows.fnExactQueueAddSpec.plain.varTypes Try.prog).any (Try.prog.mapsRec ·))) = true := by kernel_rfl
theorem xQueueAdd_k15 : ((Rows.fnExactQueueAddRow.ifaces == (Try.f8.params.toList ++ Rows.fnExactQueueAddSpec.plain.varTypes Try.prog).any (Try.prog.ifacesRec ·))) = true := by kernel_rfl
theorem xQueueAdd_k16 : ((Rows.fnExactQueueAddRow.mapsOut == Try.prog.mapsAmong Try.f8.resultTypes.toList)) = true := by kernel_rfl
theorem xQueueAdd_k17 : ((Rows.fnExactQueueAddRow.loops == (Try.f8.params.toList ++ Rows.fnExactQueueAddSpec.plain.varTypes Try.prog).any (Try.prog.loopsFrom ·))) = true := by kernel_rfl
theorem xQueueAdd_k18 : ((Rows.fnExactQueueAddRow.wideKeys == (Try.f8.params.toList ++ Rows.fnExactQueueAddSpec.plain.varTypes Try.prog ++ Try.f8.resultTypes.toList).any (Try.prog.wideKeysFrom ·))) = true := by kernel_rfl
theorem xQueueAdd_k19 : (Rows.fnExactQueueAddSpec.vars.all (Try.prog.varReadable ·)) = true := by kernel_rfl
theorem xQueueAdd_k20 : (Try.f8.resultTypes.all (fun t => Try.prog.readableRec t && decide (t < Try.prog.types.size))) = true := by kernel_rfl
theorem xQueueAdd_k21 : ((Rows.fnExactQueueAddRow.ifacesOut == Try.f8.resultTypes.toList.any (Try.prog.ifacesRec ·))) = true := by kernel_rfl
theorem xQueueAdd_k22 : ((Rows.fnExactQueueAddRow.loopsOut == Try.f8.resultTypes.toList.any (Try.prog.loopsFrom ·))) = true := by kernel_rfl
theorem xQueueAdd_k24 : (Rows.fnExactQueueAddRow.shortTexts.isNone) = true := by kernel_rfl
theorem xQueueAdd_k30 : ((Rows.fnExactQueueAddRow.pinned == Rows.fnExactQueueAddRow.pinnedBy)) = true := by kernel_rfl
theorem xQueueAdd_k31 : ((Rows.fnExactQueueAddRow.veiled == (Try.f8.params.toList ++ Rows.fnExactQueueAddSpec.plain.varTypes Try.prog ++ Try.f8.resultTypes.toList).any (Try.prog.veiledRec ·))) = true := by kernel_rfl
theorem xQueueAdd_k32 : (Rows.fnExactQueueAddRow.veiledFits Try.prog Try.f8.params.toList (Try.f8.params.toList ++ Rows.fnExactQueueAddSpec.plain.varTypes Try.prog ++ Try.f8.resultTypes.toList)) = true := by kernel_rfl
theorem xQueueAdd_closed : joinedFacts Try.prog 8 Try.f8 Rows.fnExactQueueAddSpec Rows.fnExactQueueAddRow = true :=
  facts_of xQueueAdd_k1 Try.f_laid Try.f_maps xQueueAdd_k4 xQueueAdd_k5 xQueueAdd_k6 Try.f_stops xQueueAdd_k8 Try.f_knobs xQueueAdd_k10 xQueueAdd_k11 xQueueAdd_k12 xQueueAdd_k13 xQueueAdd_k14 xQueueAdd_k15 xQueueAdd_k16 xQueueAdd_k17 xQueueAdd_k18 xQueueAdd_k19 xQueueAdd_k20 xQueueAdd_k21 xQueueAdd_k22 (by kernel_rfl) xQueueAdd_k24 Try.f_heard Try.f_enter Try.f_lifts Try.f_make rfl rfl xQueueAdd_k30 xQueueAdd_k31 xQueueAdd_k32

set_option maxRecDepth 100000 in
theorem xQueueAdd_lifted (os : Os) (started : os.Started) (H : Type) (enc : TypeId × Value → H) :
    ReturnsInHanded {} Try.checked os 8 .any (Rows.fnExactQueueAddSpec.pre6 enc Try.prog Try.f8 Rows.fnExactQueueAddRow.domain false) (Rows.fnExactQueueAddSpec.post enc Try.prog Try.f8 false true false false) := by
  refine returnsInHanded_of_change (C := Try.checked) Try.own started (by kernel_rfl) Try.func8
    (ChangeSpec.witness6 (enc := enc) (C := Try.checked) false ⟨#[], #[.slice none 0 0, .agg #[.int .i64 0, .int .i64 0, .int .i64 0]], []⟩ 8 (by kernel_rfl) (by kernel_rfl) (by kernel_rfl) (by kernel_rfl)) ?_
  intro W base args ds gs before hval0 hW _ _
  have hval : ∀ (j : Nat) t v, Try.f8.params[j]? = some t → args[j]? = some v → Value.okWide Try.prog W .any base t v := hval0
  have hW' := hW
  obtain ⟨p, q, hA0, hV, rfl, _, _⟩ := hW
  have hA : DataW.TrodAll enc Try.prog W 0 (fun _ => true) true Try.f8.params.toList args.toList ds p := hA0
  rw [Try.params8] at hA hval
  obtain ⟨v0, v1, d0, d1, p0, p1, rfl, rfl, rfl, h0, h1⟩ := trodAll_two hA
  obtain ⟨rfl, rfl⟩ := trodVars_none hV
  obtain ⟨A, a, L, rfl, m0, r0⟩ := in_timeds (hval 0 _ v0 rfl rfl) h0
  obtain ⟨x, rfl⟩ := in_timed (hval 1 _ v1 rfl rfl) h1
  refine (exactQueueAdd A a L x _ m0 r0).mono fun e W' ⟨he, hb⟩ => ⟨_, he, ?_⟩
  exact law_post (tb := 4) Try.laidOut (by kernel_rfl) rfl Try.underlying4 rfl hW' rfl hb

theorem xQueueAdd_holds : Rows.FnExactQueueAddSaid :=
  OpenClaim.holds_of_wide 8 Try.f8 rfl rfl rfl rfl rfl rfl rfl ⟨rfl, rfl, rfl, rfl, rfl⟩ rfl rfl rfl rfl rfl (by kernel_rfl) Try.func8 xQueueAdd_closed
    (of_decide_eq_true (by kernel_rfl)) (by unfold Func.isWrapper; first | (rw [if_pos (by decide +kernel)]; kernel_rfl) | (rw [if_neg (by decide +kernel)]; exact ⟨rfl, rfl⟩))
    (fun os started H enc _ => xQueueAdd_lifted os started H enc)
#print axioms xQueueAdd_holds
end Go.Proofs.Ytgnemgnhjallhaa
