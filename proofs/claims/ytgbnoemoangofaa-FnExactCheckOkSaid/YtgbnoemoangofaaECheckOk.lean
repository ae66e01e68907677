/- The exact law of CheckOk holds of all checksums that come in. -/
import Derived.Test.YtgbnoemoangofaaMB
import Derived.Test.YtgbnoemoangofaaFx
import Derived.Test.YtgbnoemoangofaaFy
import Derived.Test.YtgbnoemoangofaaFz
import Derived.Test.YtgbnoemoangofaaFw
import Derived.Test.YtgbnoemoangofaaYk
namespace Go.Proofs.Ytgbnoemoangofaa
open Go.ChangeShapes Go.WideShapes Go.ChangeAt Go.RowKit Go.Deep

theorem xCheckOk_k1 : (Rows.fnExactCheckOkRow.wf (OpenSpec.ofChange Rows.fnExactCheckOkSpec)) = true := by kernel_rfl
theorem xCheckOk_k4 : (Try.f6.params.all (Try.prog.readableRec ·)) = true := by kernel_rfl
theorem xCheckOk_k5 : (namedTie Try.prog Rows.fnExactCheckOkRow.named Rows.fnExactCheckOkSpec.vars) = true := by kernel_rfl
theorem xCheckOk_k6 : ((Rows.fnExactCheckOkRow.stops == [])) = true := by kernel_rfl
theorem xCheckOk_k8 : ((Rows.fnExactCheckOkRow.knobs == [])) = true := by kernel_rfl
theorem xCheckOk_k10 : ((Rows.fnExactCheckOkRow.inPlace == Try.prog.inPlace 6)) = true := by kernel_rfl
theorem xCheckOk_k11 : ((Rows.fnExactCheckOkRow.unfollowed == Try.prog.unfollowed 6)) = true := by kernel_rfl
theorem xCheckOk_k12 : ((Rows.fnExactCheckOkRow.recurses == Try.prog.recurses 6)) = true := by kernel_rfl
theorem xCheckOk_k13 : ((Rows.fnExactCheckOkRow.named == Try.prog.varsNamed 6)) = true := by kernel_rfl
theorem xCheckOk_k14 : ((Rows.fnExactCheckOkRow.maps == (Try.f6.params.toList ++ Rows.fnExactCheckOkSpec.plain.varTypes Try.prog).any (Try.prog.mapsRec ·))) = true := by kernel_rfl
theorem xCheckOk_k15 : ((Rows.fnExactCheckOkRow.ifaces == (Try.f6.params.toList ++ Rows.fnExactCheckOkSpec.plain.varTypes Try.prog).any (Try.prog.ifacesRec ·))) = true := by kernel_rfl
theorem xCheckOk_k16 : ((Rows.fnExactCheckOkRow.mapsOut == Try.prog.mapsAmong Try.f6.resultTypes.toList)) = true := by kernel_rfl
theorem xCheckOk_k17 : ((Rows.fnExactCheckOkRow.loops == (Try.f6.params.toList ++ Rows.fnExactCheckOkSpec.plain.varTypes Try.prog).any (Try.prog.loopsFrom ·))) = true := by kernel_rfl
theorem xCheckOk_k18 : ((Rows.fnExactCheckOkRow.wideKeys == (Try.f6.params.toList ++ Rows.fnExactCheckOkSpec.plain.varTypes Try.prog ++ Try.f6.resultTypes.toList).any (Try.prog.wideKeysFrom ·))) = true := by kernel_rfl
theorem xCheckOk_k19 : (Rows.fnExactCheckOkSpec.vars.all (Try.prog.varReadable ·)) = true := by kernel_rfl
theorem xCheckOk_k20 : (Try.f6.resultTypes.all (fun t => Try.prog.readableRec t && decide (t < Try.prog.types.size))) = true := by kernel_rfl
theorem xCheckOk_k21 : ((Rows.fnExactCheckOkRow.ifacesOut == Try.f6.resultTypes.toList.any (Try.prog.ifacesRec ·))) = true := by kernel_rfl
theorem xCheckOk_k22 : ((Rows.fnExactCheckOkRow.loopsOut == Try.f6.resultTypes.toList.any (Try.prog.loopsFrom ·))) = true := by kernel_rfl
theorem xCheckOk_k24 : (Rows.fnExactCheckOkRow.shortTexts.isNone) = true := by kernel_rfl
theorem xCheckOk_k30 : ((Rows.fnExactCheckOkRow.pinned == Rows.fnExactCheckOkRow.pinnedBy)) = true := by kernel_rfl
theorem xCheckOk_k31 : ((Rows.fnExactCheckOkRow.veiled == (Try.f6.params.toList ++ Rows.fnExactCheckOkSpec.plain.varTypes Try.prog ++ Try.f6.resultTypes.toList).any (Try.prog.veiledRec ·))) = true := by kernel_rfl
theorem xCheckOk_k32 : (Rows.fnExactCheckOkRow.veiledFits Try.prog Try.f6.params.toList (Try.f6.params.toList ++ Rows.fnExactCheckOkSpec.plain.varTypes Try.prog ++ Try.f6.resultTypes.toList)) = true := by kernel_rfl
theorem xCheckOk_closed : joinedFacts Try.prog 6 Try.f6 Rows.fnExactCheckOkSpec Rows.fnExactCheckOkRow = true :=
  facts_of xCheckOk_k1 Try.f_laid Try.f_maps xCheckOk_k4 xCheckOk_k5 xCheckOk_k6 Try.f_stops xCheckOk_k8 Try.f_knobs xCheckOk_k10 xCheckOk_k11 xCheckOk_k12 xCheckOk_k13 xCheckOk_k14 xCheckOk_k15 xCheckOk_k16 xCheckOk_k17 xCheckOk_k18 xCheckOk_k19 xCheckOk_k20 xCheckOk_k21 xCheckOk_k22 (by kernel_rfl) xCheckOk_k24 Try.f_heard Try.f_enter Try.f_lifts Try.f_make rfl rfl xCheckOk_k30 xCheckOk_k31 xCheckOk_k32

set_option maxRecDepth 100000 in
theorem xCheckOk_lifted (os : Os) (started : os.Started) (H : Type) (enc : TypeId × Value → H) :
    ReturnsInHanded {} Try.checked os 6 .any (Rows.fnExactCheckOkSpec.pre6 enc Try.prog Try.f6 Rows.fnExactCheckOkRow.domain false) (Rows.fnExactCheckOkSpec.post enc Try.prog Try.f6 false true false false) := by
  refine returnsInHanded_of_change (C := Try.checked) Try.own started (by kernel_rfl) Try.func6
    (ChangeSpec.witness6 (enc := enc) (C := Try.checked) false ⟨#[], #[.slice none 0 0], []⟩ 8 (by kernel_rfl) (by kernel_rfl) (by kernel_rfl) (by kernel_rfl)) ?_
  intro W base args ds gs before hval0 hW _ _
  have hval : ∀ (j : Nat) t v, Try.f6.params[j]? = some t → args[j]? = some v → Value.okWide Try.prog W .any base t v := hval0
  have hW' := hW
  obtain ⟨p, q, hA0, hV, rfl, _, _⟩ := hW
  have hA : DataW.TrodAll enc Try.prog W 0 (fun _ => true) true Try.f6.params.toList args.toList ds p := hA0
  rw [Try.params6] at hA hval
  obtain ⟨v0, d0, rfl, rfl, h0⟩ := trodAll_one hA
  obtain ⟨rfl, rfl⟩ := trodVars_none hV
  obtain ⟨A, a, L, rfl, m0, r0⟩ := in_checks (hval 0 _ v0 rfl rfl) h0
  refine (exactCheckOk A a L _ m0 r0).mono fun e W' ⟨he, hb⟩ => ⟨_, he, ?_⟩
  exact law_post (tb := 4) Try.laidOut (by kernel_rfl) rfl Try.underlying4 rfl hW' rfl hb

theorem xCheckOk_holds : Rows.FnExactCheckOkSaid :=
  OpenClaim.holds_of_wide 6 Try.f6 rfl rfl rfl rfl rfl rfl rfl ⟨rfl, rfl, rfl, rfl, rfl⟩ rfl rfl rfl rfl rfl (by kernel_rfl) Try.func6 xCheckOk_closed
    (of_decide_eq_true (by kernel_rfl)) (by unfold Func.isWrapper; first | (rw [if_pos (by decide +kernel)]; kernel_rfl) | (rw [if_neg (by decide +kernel)]; exact ⟨rfl, rfl⟩))
    (fun os started H enc _ => xCheckOk_lifted os started H enc)
#print axioms xCheckOk_holds
end Go.Proofs.Ytgbnoemoangofaa
