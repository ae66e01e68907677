/- The exact law of CheckCut holds of all checksums and every place that come in. -/
import Derived.Test.YtgbnoemoangofaaMB
import Derived.Test.YtgbnoemoangofaaFx
import Derived.Test.YtgbnoemoangofaaFy
import Derived.Test.YtgbnoemoangofaaFz
import Derived.Test.YtgbnoemoangofaaFw
import Derived.Test.YtgbnoemoangofaaYk
namespace Go.Proofs.Ytgbnoemoangofaa
open Go.ChangeShapes Go.WideShapes Go.ChangeAt Go.RowKit Go.Deep

theorem xCheckCut_k1 : (Rows.fnExactCheckCutRow.wf (OpenSpec.ofChange Rows.fnExactCheckCutSpec)) = true := by kernel_rfl
theorem xCheckCut_k4 : (Try.f9.params.all (Try.prog.readableRec ·)) = true := by kernel_rfl
theorem xCheckCut_k5 : (namedTie Try.prog Rows.fnExactCheckCutRow.named Rows.fnExactCheckCutSpec.vars) = true := by kernel_rfl
theorem xCheckCut_k6 : ((Rows.fnExactCheckCutRow.stops == [])) = true := by kernel_rfl
theorem xCheckCut_k8 : ((Rows.fnExactCheckCutRow.knobs == [])) = true := by kernel_rfl
theorem xCheckCut_k10 : ((Rows.fnExactCheckCutRow.inPlace == Try.prog.inPlace 9)) = true := by kernel_rfl
theorem xCheckCut_k11 : ((Rows.fnExactCheckCutRow.unfollowed == Try.prog.unfollowed 9)) = true := by kernel_rfl
theorem xCheckCut_k12 : ((Rows.fnExactCheckCutRow.recurses == Try.prog.recurses 9)) = true := by kernel_rfl
theorem xCheckCut_k13 : ((Rows.fnExactCheckCutRow.named == Try.prog.varsNamed 9)) = true := by kernel_rfl
theorem xCheckCut_k14 : ((Rows.fnExactCheckCutRow.maps == (Try.f9.params.toList ++ Rows.fnExactCheckCutSpec.plain.varTypes Try.prog).any (Try.prog.mapsRec ·))) = true := by kernel_rfl
theorem xCheckCut_k15 : ((Rows.fnExactCheckCutRow.ifaces == (Try.f9.params.toList ++ Rows.fnExactCheckCutSpec.plain.varTypes Try.prog).any (Try.prog.ifacesRec ·))) = true := by kernel_rfl
theorem xCheckCut_k16 : ((Rows.fnExactCheckCutRow.mapsOut == Try.prog.mapsAmong Try.f9.resultTypes.toList)) = true := by kernel_rfl
theorem xCheckCut_k17 : ((Rows.fnExactCheckCutRow.loops == (Try.f9.params.toList ++ Rows.fnExactCheckCutSpec.plain.varTypes Try.prog).any (Try.prog.loopsFrom ·))) = true := by kernel_rfl
theorem xCheckCut_k18 : ((Rows.fnExactCheckCutRow.wideKeys == (Try.f9.params.toList ++ Rows.fnExactCheckCutSpec.plain.varTypes Try.prog ++ Try.f9.resultTypes.toList).any (Try.prog.wideKeysFrom ·))) = true := by kernel_rfl
theorem xCheckCut_k19 : (Rows.fnExactCheckCutSpec.vars.all (Try.prog.varReadable ·)) = true := by kernel_rfl
theorem xCheckCut_k20 : (Try.f9.resultTypes.all (fun t => Try.prog.readableRec t && decide (t < Try.prog.types.size))) = true := by kernel_rfl
theorem xCheckCut_k21 : ((Rows.fnExactCheckCutRow.ifacesOut == Try.f9.resultTypes.toList.any (Try.prog.ifacesRec ·))) = true := by kernel_rfl
theorem xCheckCut_k22 : ((Rows.fnExactCheckCutRow.loopsOut == Try.f9.resultTypes.toList.any (Try.prog.loopsFrom ·))) = true := by kernel_rfl
theorem xCheckCut_k24 : (Rows.fnExactCheckCutRow.shortTexts.isNone) = true := by kernel_rfl
theorem xCheckCut_k30 : ((Rows.fnExactCheckCutRow.pinned == Rows.fnExactCheckCutRow.pinnedBy)) = true := by kernel_rfl
theorem xCheckCut_k31 : ((Rows.fnExactCheckCutRow.veiled == (Try.f9.params.toList ++ Rows.fnExactCheckCutSpec.plain.varTypes Try.prog ++ Try.f9.resultTypes.toList).any (Try.prog.veiledRec ·))) = true := by kernel_rfl
theorem xCheckCut_k32 : (Rows.fnExactCheckCutRow.veiledFits Try.prog Try.f9.params.toList (Try.f9.params.toList ++ Rows.fnExactCheckCutSpec.plain.varTypes Try.prog ++ Try.f9.resultTypes.toList)) = true := by kernel_rfl
theorem xCheckCut_closed : joinedFacts Try.prog 9 Try.f9 Rows.fnExactCheckCutSpec Rows.fnExactCheckCutRow = true :=
  facts_of xCheckCut_k1 Try.f_laid Try.f_maps xCheckCut_k4 xCheckCut_k5 xCheckCut_k6 Try.f_stops xCheckCut_k8 Try.f_knobs xCheckCut_k10 xCheckCut_k11 xCheckCut_k12 xCheckCut_k13 xCheckCut_k14 xCheckCut_k15 xCheckCut_k16 xCheckCut_k17 xCheckCut_k18 xCheckCut_k19 xCheckCut_k20 xCheckCut_k21 xCheckCut_k22 (by kernel_rfl) xCheckCut_k24 Try.f_heard Try.f_enter Try.f_lifts Try.f_make rfl rfl xCheckCut_k30 xCheckCut_k31 xCheckCut_k32

set_option maxRecDepth 100000 in
theorem xCheckCut_lifted (os : Os) (started : os.Started) (H : Type) (enc : TypeId × Value → H) :
    ReturnsInHanded {} Try.checked os 9 .any (Rows.fnExactCheckCutSpec.pre6 enc Try.prog Try.f9 Rows.fnExactCheckCutRow.domain false) (Rows.fnExactCheckCutSpec.post enc Try.prog Try.f9 false true false false) := by
  refine returnsInHanded_of_change (C := Try.checked) Try.own started (by kernel_rfl) Try.func9
    (ChangeSpec.witness6 (enc := enc) (C := Try.checked) false ⟨#[], #[.slice none 0 0, .int .i64 0], []⟩ 8 (by kernel_rfl) (by kernel_rfl) (by kernel_rfl) (by kernel_rfl)) ?_
  intro W base args ds gs before hval0 hW _ _
  have hval : ∀ (j : Nat) t v, Try.f9.params[j]? = some t → args[j]? = some v → Value.okWide Try.prog W .any base t v := hval0
  have hW' := hW
  obtain ⟨p, q, hA0, hV, rfl, _, _⟩ := hW
  have hA : DataW.TrodAll enc Try.prog W 0 (fun _ => true) true Try.f9.params.toList args.toList ds p := hA0
  rw [Try.params9] at hA hval
  obtain ⟨v0, v1, d0, d1, p0, p1, rfl, rfl, rfl, h0, h1⟩ := trodAll_two hA
  obtain ⟨rfl, rfl⟩ := trodVars_none hV
  obtain ⟨A, a, L, rfl, m0, r0⟩ := in_checks (hval 0 _ v0 rfl rfl) h0
  obtain ⟨t, rfl, _⟩ := open_int Try.underlying3 (hval 1 _ v1 rfl rfl) h1
  refine (exactCheckCut A a L t _ m0 r0).mono fun e W' ⟨he, hb⟩ => ⟨_, he, ?_⟩
  exact law_post (tb := 4) Try.laidOut (by kernel_rfl) rfl Try.underlying4 rfl hW' rfl hb

theorem xCheckCut_holds : Rows.FnExactCheckCutSaid :=
  OpenClaim.holds_of_wide 9 Try.f9 rfl rfl rfl rfl rfl rfl rfl ⟨rfl, rfl, rfl, rfl, rfl⟩ rfl rfl rfl rfl rfl (by kernel_rfl) Try.func9 xCheckCut_closed
    (of_decide_eq_true (by kernel_rfl)) (by unfold Func.isWrapper; first | (rw [if_pos (by decide +kernel)]; kernel_rfl) | (rw [if_neg (by decide +kernel)]; exact ⟨rfl, rfl⟩))
    (fun os started H enc _ => xCheckCut_lifted os started H enc)
#print axioms xCheckCut_holds
end Go.Proofs.Ytgbnoemoangofaa
