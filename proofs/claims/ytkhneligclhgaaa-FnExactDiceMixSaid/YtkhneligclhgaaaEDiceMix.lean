/- The exact law of DiceMix holds of all numbers that come in. -/
import Derived.Test.YtkhneligclhgaaaMB
import Derived.Test.YtkhneligclhgaaaFx
import Derived.Test.YtkhneligclhgaaaFy
import Derived.Test.YtkhneligclhgaaaFz
import Derived.Test.YtkhneligclhgaaaFw
import Derived.Test.YtkhneligclhgaaaFi
namespace Go.Proofs.Ytkhneligclhgaaa
open Go.ChangeShapes Go.WideShapes Go.ChangeAt Go.RowKit Go.Deep

theorem xDiceMix_k1 : (Rows.fnExactDiceMixRow.wf (OpenSpec.ofChange Rows.fnExactDiceMixSpec)) = true := by kernel_rfl
theorem xDiceMix_k4 : (Try.f10.params.all (Try.prog.readableRec ·)) = true := by kernel_rfl
theorem xDiceMix_k5 : (namedTie Try.prog Rows.fnExactDiceMixRow.named Rows.fnExactDiceMixSpec.vars) = true := by kernel_rfl
theorem xDiceMix_k6 : ((Rows.fnExactDiceMixRow.stops == [])) = true := by kernel_rfl
theorem xDiceMix_k8 : ((Rows.fnExactDiceMixRow.knobs == [])) = true := by kernel_rfl
theorem xDiceMix_k10 : ((Rows.fnExactDiceMixRow.inPlace == Try.prog.inPlace 10)) = true := by kernel_rfl
theorem xDiceMix_k11 : ((Rows.fnExactDiceMixRow.unfollowed == Try.prog.unfollowed 10)) = true := by kernel_rfl
theorem xDiceMix_k12 : ((Rows.fnExactDiceMixRow.recurses == Try.prog.recurses 10)) = true := by kernel_rfl
theorem xDiceMix_k13 : ((Rows.fnExactDiceMixRow.named == Try.prog.varsNamed 10)) = true := by kernel_rfl
theorem xDiceMix_k14 : ((Rows.fnExactDiceMixRow.maps == (Try.f10.params.toList ++ Rows.fnExactDiceMixSpec.plain.varTypes Try.prog).any (Try.prog.mapsRec ·))) = true := by kernel_rfl
theorem xDiceMix_k15 : ((Rows.fnExactDiceMixRow.ifaces == (Try.f10.params.toList ++ Rows.fnExactDiceMixSpec.plain.varTypes Try.prog).any (Try.prog.ifacesRec ·))) = true := by kernel_rfl
theorem xDiceMix_k16 : ((Rows.fnExactDiceMixRow.mapsOut == Try.prog.mapsAmong Try.f10.resultTypes.toList)) = true := by kernel_rfl
theorem xDiceMix_k17 : ((Rows.fnExactDiceMixRow.loops == (Try.f10.params.toList ++ Rows.fnExactDiceMixSpec.plain.varTypes Try.prog).any (Try.prog.loopsFrom ·))) = true := by kernel_rfl
theorem xDiceMix_k18 : ((Rows.fnExactDiceMixRow.wideKeys == (Try.f10.params.toList ++ Rows.fnExactDiceMixSpec.plain.varTypes Try.prog ++ Try.f10.resultTypes.toList).any (Try.prog.wideKeysFrom ·))) = true := by kernel_rfl
theorem xDiceMix_k19 : (Rows.fnExactDiceMixSpec.vars.all (Try.prog.varReadable ·)) = true := by kernel_rfl
theorem xDiceMix_k20 : (Try.f10.resultTypes.all (fun t => Try.prog.readableRec t && decide (t < Try.prog.types.size))) = true := by kernel_rfl
theorem xDiceMix_k21 : ((Rows.fnExactDiceMixRow.ifacesOut == Try.f10.resultTypes.toList.any (Try.prog.ifacesRec ·))) = true := by kernel_rfl
theorem xDiceMix_k22 : ((Rows.fnExactDiceMixRow.loopsOut == Try.f10.resultTypes.toList.any (Try.prog.loopsFrom ·))) = true := by kernel_rfl
theorem xDiceMix_k24 : (Rows.fnExactDiceMixRow.shortTexts.isNone) = true := by kernel_rfl
theorem xDiceMix_k30 : ((Rows.fnExactDiceMixRow.pinned == Rows.fnExactDiceMixRow.pinnedBy)) = true := by kernel_rfl
theorem xDiceMix_k31 : ((Rows.fnExactDiceMixRow.veiled == (Try.f10.params.toList ++ Rows.fnExactDiceMixSpec.plain.varTypes Try.prog ++ Try.f10.resultTypes.toList).any (Try.prog.veiledRec ·))) = true := by kernel_rfl
theorem xDiceMix_k32 : (Rows.fnExactDiceMixRow.veiledFits Try.prog Try.f10.params.toList (Try.f10.params.toList ++ Rows.fnExactDiceMixSpec.plain.varTypes Try.prog ++ Try.f10.resultTypes.toList)) = true := by kernel_rfl
theorem xDiceMix_closed : joinedFacts Try.prog 10 Try.f10 Rows.fnExactDiceMixSpec Rows.fnExactDiceMixRow = true :=
  facts_of xDiceMix_k1 Try.f_laid Try.f_maps xDiceMix_k4 xDiceMix_k5 xDiceMix_k6 Try.f_stops xDiceMix_k8 Try.f_knobs xDiceMix_k10 xDiceMix_k11 xDiceMix_k12 xDiceMix_k13 xDiceMix_k14 xDiceMix_k15 xDiceMix_k16 xDiceMix_k17 xDiceMix_k18 xDiceMix_k19 xDiceMix_k20 xDiceMix_k21 xDiceMix_k22 (by kernel_rfl) xDiceMix_k24 Try.f_heard Try.f_enter Try.f_lifts Try.f_make rfl rfl xDiceMix_k30 xDiceMix_k31 xDiceMix_k32

set_option maxRecDepth 100000 in
theorem xDiceMix_lifted (os : Os) (started : os.Started) (H : Type) (enc : TypeId × Value → H) :
    ReturnsInHanded {} Try.checked os 10 .any (Rows.fnExactDiceMixSpec.pre6 enc Try.prog Try.f10 Rows.fnExactDiceMixRow.domain false) (Rows.fnExactDiceMixSpec.post enc Try.prog Try.f10 false true false false) := by
  refine returnsInHanded_of_change (C := Try.checked) Try.own started (by kernel_rfl) Try.func10
    (ChangeSpec.witness6 (enc := enc) (C := Try.checked) false ⟨#[], #[.slice none 0 0], []⟩ 8 (by kernel_rfl) (by kernel_rfl) (by kernel_rfl) (by kernel_rfl)) ?_
  intro W base args ds gs before hval0 hW _ _
  have hval : ∀ (j : Nat) t v, Try.f10.params[j]? = some t → args[j]? = some v → Value.okWide Try.prog W .any base t v := hval0
  have hW' := hW
  obtain ⟨p, q, hA0, hV, rfl, _, _⟩ := hW
  have hA : DataW.TrodAll enc Try.prog W 0 (fun _ => true) true Try.f10.params.toList args.toList ds p := hA0
  rw [Try.params10] at hA hval
  obtain ⟨v0, d0, rfl, rfl, h0⟩ := trodAll_one hA
  obtain ⟨rfl, rfl⟩ := trodVars_none hV
  obtain ⟨A, a, L, rfl, m0, r0⟩ := ints_inD Try.underlying30 Try.underlying3 (by kernel_rfl) (hval 0 _ v0 rfl rfl) h0
  refine (exactDiceMix A a L _ m0 r0).mono fun e W' ⟨he, hb⟩ => ⟨_, he, ?_⟩
  exact law_post (tb := 4) Try.laidOut (by kernel_rfl) rfl Try.underlying4 rfl hW' rfl hb

theorem xDiceMix_holds : Rows.FnExactDiceMixSaid :=
  OpenClaim.holds_of_wide 10 Try.f10 rfl rfl rfl rfl rfl rfl rfl ⟨rfl, rfl, rfl, rfl, rfl⟩ rfl rfl rfl rfl rfl (by kernel_rfl) Try.func10 xDiceMix_closed
    (of_decide_eq_true (by kernel_rfl)) (by unfold Func.isWrapper; first | (rw [if_pos (by decide +kernel)]; kernel_rfl) | (rw [if_neg (by decide +kernel)]; exact ⟨rfl, rfl⟩))
    (fun os started H enc _ => xDiceMix_lifted os started H enc)
#print axioms xDiceMix_holds
end Go.Proofs.Ytkhneligclhgaaa
