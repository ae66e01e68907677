/- The exact law of CheckStable holds of all checksums that come in. -/
import Derived.Test.YtgbnoemoangofaaMB
import Derived.Test.YtgbnoemoangofaaFx
import Derived.Test.YtgbnoemoangofaaFy
import Derived.Test.YtgbnoemoangofaaFz
import Derived.Test.YtgbnoemoangofaaFw
import Derived.Test.YtgbnoemoangofaaYk
namespace Go.Proofs.Ytgbnoemoangofaa
open Go.ChangeShapes Go.WideShapes Go.ChangeAt Go.RowKit Go.Deep

theorem xCheckStable_k1 : (Rows.fnExactCheckStableRow.wf (OpenSpec.ofChange Rows.fnExactCheckStableSpec)) = true := by kernel_rfl
theorem xCheckStable_k4 : (Try.f8.params.all (Try.prog.readableRec ·)) = true := by kernel_rfl
theorem xCheckStable_k5 : (namedTie Try.prog Rows.fnExactCheckStableRow.named Rows.fnExactCheckStableSpec.vars) = true := by kernel_rfl
theorem xCheckStable_k6 : ((Rows.fnExactCheckStableRow.stops == [])) = true := by kernel_rfl
theorem xCheckStable_k8 : ((Rows.fnExactCheckStableRow.knobs == [])) = true := by kernel_rfl
theorem xCheckStable_k10 : ((Rows.fnExactCheckStableRow.inPlace == Try.prog.inPlace 8)) = true := by kernel_rfl
theorem xCheckStable_k11 : ((Rows.fnExactCheckStableRow.unfollowed == Try.prog.unfollowed 8)) = true := by kernel_rfl
theorem xCheckStable_k12 : ((Rows.fnExactCheckStableRow.recurses == Try.prog.recurses 8)) = true := by kernel_rfl
theorem xCheckStable_k13 : ((Rows.fnExactCheckStableRow.named == Try.prog.varsNamed 8)) = true := by kernel_rfl
theorem xCheckStable_k14 : ((Rows.fnExactCheckStableRow.maps == (Try.f8.params.toList ++ Rows.fnExactCheckStableSpec.plain.varTypes Try.prog).any (Try.prog.mapsRec ·))) = true := by kernel_rfl
theorem xCheckStable_k15 : ((Rows.fnExactCheckStableRow.ifaces == (Try.f8.params.toList ++ Rows.fnExactCheckStableSpec.plain.varTypes Try.prog).any (Try.prog.ifacesRec ·))) = true := by kernel_rfl
theorem xCheckStable_k16 : ((Rows.fnExactCheckStableRow.mapsOut == Try.prog.mapsAmong Try.f8.resultTypes.toList)) = true := by kernel_rfl
theorem xCheckStable_k17 : ((Rows.fnExactCheckStableRow.loops == (Try.f8.params.toList ++ Rows.fnExactCheckStableSpec.plain.varTypes Try.prog).any (Try.prog.loopsFrom ·))) = true := by kernel_rfl
theorem xCheckStable_k18 : ((Rows.fnExactCheckStableRow.wideKeys == (Try.f8.params.toList ++ Rows.fnExactCheckStableSpec.plain.varTypes Try.prog ++ Try.f8.resultTypes.toList).any (Try.prog.wideKeysFrom ·))) = true := by kernel_rfl
theorem xCheckStable_k19 : (Rows.fnExactCheckStableSpec.vars.all (Try.prog.varReadable ·)) = true := by kernel_rfl
theorem xCheckStable_k20 : (Try.f8.resultTypes.all (fun t => Try.prog.readableRec t && decide (t < Try.prog.types.size))) = true := by kernel_rfl
theorem xCheckStable_k21 : ((Rows.fnExactCheckStableRow.ifacesOut == Try.f8.resultTypes.toList.any (Try.prog.ifacesRec ·))) = true := by kernel_rfl
theorem xCheckStable_k22 : ((Rows.fnExactCheckStableRow.loopsOut == Try.f8.resultTypes.toList.any (Try.prog.loopsFrom ·))) = true := by kernel_rfl
theorem xCheckStable_k24 : (Rows.fnExactCheckStableRow.shortTexts.isNone) = true := by kernel_rfl
theorem xCheckStable_k30 : ((Rows.fnExactCheckStableRow.pinned == Rows.fnExactCheckStableRow.pinnedBy)) = true := by kernel_rfl
theorem xCheckStable_k31 : ((Rows.fnExactCheckStableRow.veiled == (Try.f8.params.toList ++ Rows.fnExactCheckStableSpec.plain.varTypes Try.prog ++ Try.f8.resultTypes.toList).any (Try.prog.veiledRec ·))) = true := by kernel_rfl
theorem xCheckStable_k32 : (Rows.fnExactCheckStableRow.veiledFits Try.prog Try.f8.params.toList (Try.f8.params.toList ++ Rows.fnExactCheckStableSpec.plain.varTypes Try.prog ++ Try.f8.resultTypes.toList)) = true := by kernel_rfl
theorem xCheckStable_closed : joinedFacts Try.prog 8 Try.f8 Rows.fnExactCheckStableSpec Rows.fnExactCheckStableRow = true :=
  facts_of xCheckStable_k1 Try.f_laid Try.f_maps xCheckStable_k4 xCheckStable_k5 xCheckStable_k6 Try.f_stops xCheckStable_k8 Try.f_knobs xCheckStable_k10 xCheckStable_k11 xCheckStable_k12 xCheckStable_k13 xCheckStable_k14 xCheckStable_k15 xCheckStable_k16 xCheckStable_k17 xCheckStable_k18 xCheckStable_k19 xCheckStable_k20 xCheckStable_k21 xCheckStable_k22 (by kernel_rfl) xCheckStable_k24 Try.f_heard Try.f_enter Try.f_lifts Try.f_make rfl rfl xCheckStable_k30 xCheckStable_k31 xCheckStable_k32

set_option maxRecDepth 100000 in
theorem xCheckStable_lifted (os : Os) (started : os.Started) (H : Type) (enc : TypeId × Value → H) :
    ReturnsInHanded {} Try.checked os 8 .any (Rows.fnExactCheckStableSpec.pre6 enc Try.prog Try.f8 Rows.fnExactCheckStableRow.domain false) (Rows.fnExactCheckStableSpec.post enc Try.prog Try.f8 false true false false) := by
  refine returnsInHanded_of_change (C := Try.checked) Try.own started (by kernel_rfl) Try.func8
    (ChangeSpec.witness6 (enc := enc) (C := Try.checked) false ⟨#[], #[.slice none 0 0], []⟩ 8 (by kernel_rfl) (by kernel_rfl) (by kernel_rfl) (by kernel_rfl)) ?_
  intro W base args ds gs before hval0 hW _ _
  have hval : ∀ (j : Nat) t v, Try.f8.params[j]? = some t → args[j]? = some v → Value.okWide Try.prog W .any base t v := hval0
  have hW' := hW
  obtain ⟨p, q, hA0, hV, rfl, _, _⟩ := hW
  have hA : DataW.TrodAll enc Try.prog W 0 (fun _ => true) true Try.f8.params.toList args.toList ds p := hA0
  rw [Try.params8] at hA hval
  obtain ⟨v0, d0, rfl, rfl, h0⟩ := trodAll_one hA
  obtain ⟨rfl, rfl⟩ := trodVars_none hV
  obtain ⟨A, a, L, rfl, m0, r0⟩ := in_checks (hval 0 _ v0 rfl rfl) h0
  refine (exactCheckStable A a L _ m0 r0).mono fun e W' ⟨he, hb⟩ => ⟨_, he, ?_⟩
  exact law_post (tb := 4) Try.laidOut (by kernel_rfl) rfl Try.underlying4 rfl hW' rfl hb

theorem xCheckStable_holds : Rows.FnExactCheckStableSaid :=
  OpenClaim.holds_of_wide 8 Try.f8 rfl rfl rfl rfl rfl rfl rfl ⟨rfl, rfl, rfl, rfl, rfl⟩ rfl rfl rfl rfl rfl (by kernel_rfl) Try.func8 xCheckStable_closed
    (of_decide_eq_true (by kernel_rfl)) (by unfold Func.isWrapper; first | (rw [if_pos (by decide +kernel)]; kernel_rfl) | (rw [if_neg (by decide +kernel)]; exact ⟨rfl, rfl⟩))
    (fun os started H enc _ => xCheckStable_lifted os started H enc)
#print axioms xCheckStable_holds
end Go.Proofs.Ytgbnoemoangofaa
