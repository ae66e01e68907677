import Derived.Test.YtameldhdegcpoaaMB
import Derived.Test.YtameldhdegcpoaaNI
import Derived.Test.YtameldhdegcpoaaHd
import Derived.Test.YtameldhdegcpoaaIl
namespace Go.Proofs.Ytameldhdegcpoaa
open Go.ChangeShapes Go.WideShapes Go.ChangeAt Go.RowKit Go.Deep
theorem xAheadCodes_k1 : (Rows.fnExactAheadCodesRow.wf (OpenSpec.ofChange Rows.fnExactAheadCodesSpec)) = true := by kernel_rfl
theorem xAheadCodes_k4 : (Try.f5.params.all (Try.prog.readableRec ·)) = true := by kernel_rfl
theorem xAheadCodes_k5 : (namedTie Try.prog Rows.fnExactAheadCodesRow.named Rows.fnExactAheadCodesSpec.vars) = true := by kernel_rfl
theorem xAheadCodes_k6 : ((Rows.fnExactAheadCodesRow.stops == [])) = true := by kernel_rfl
theorem xAheadCodes_k8 : ((Rows.fnExactAheadCodesRow.knobs == [])) = true := by kernel_rfl
theorem xAheadCodes_k10 : ((Rows.fnExactAheadCodesRow.inPlace == Try.prog.inPlace 5)) = true := by kernel_rfl
theorem xAheadCodes_k11 : ((Rows.fnExactAheadCodesRow.unfollowed == Try.prog.unfollowed 5)) = true := by kernel_rfl
theorem xAheadCodes_k12 : ((Rows.fnExactAheadCodesRow.recurses == Try.prog.recurses 5)) = true := by kernel_rfl
theorem xAheadCodes_k13 : ((Rows.fnExactAheadCodesRow.named == Try.prog.varsNamed 5)) = true := by kernel_rfl
theorem xAheadCodes_k14 : ((Rows.fnExactAheadCodesRow.maps == (Try.f5.params.toList ++ Rows.fnExactAheadCodesSpec.plain.varTypes Try.prog).any (Try.prog.mapsRec ·))) = true := by kernel_rfl
theorem xAheadCodes_k15 : ((Rows.fnExactAheadCodesRow.ifaces == (Try.f5.params.toList ++ Rows.fnExactAheadCodesSpec.plain.varTypes Try.prog).any (Try.prog.ifacesRec ·))) = true := by kernel_rfl
theorem xAheadCodes_k16 : ((Rows.fnExactAheadCodesRow.mapsOut == Try.prog.mapsAmong Try.f5.resultTypes.toList)) = true := by kernel_rfl
theorem xAheadCodes_k17 : ((Rows.fnExactAheadCodesRow.loops == (Try.f5.params.toList ++ Rows.fnExactAheadCodesSpec.plain.varTypes Try.prog).any (Try.prog.loopsFrom ·))) = true := by kernel_rfl
theorem xAheadCodes_k18 : ((Rows.fnExactAheadCodesRow.wideKeys == (Try.f5.params.toList ++ Rows.fnExactAheadCodesSpec.plain.varTypes Try.prog ++ Try.f5.resultTypes.toList).any (Try.prog.wideKeysFrom ·))) = true := by kernel_rfl
theorem xAheadCodes_k19 : (Rows.fnExactAheadCodesSpec.vars.all (Try.prog.varReadable ·)) = true := by kernel_rfl
theorem xAheadCodes_k20 : (Try.f5.resultTypes.all (fun t => Try.prog.readableRec t && decide (t < Try.prog.types.size))) = true := by kernel_rfl
theorem xAheadCodes_k21 : ((Rows.fnExactAheadCodesRow.ifacesOut == Try.f5.resultTypes.toList.any (Try.prog.ifacesRec ·))) = true := by kernel_rfl
theorem xAheadCodes_k22 : ((Rows.fnExactAheadCodesRow.loopsOut == Try.f5.resultTypes.toList.any (Try.prog.loopsFrom ·))) = true := by kernel_rfl
theorem xAheadCodes_k24 : (Rows.fnExactAheadCodesRow.shortTexts.isNone) = true := by kernel_rfl
theorem xAheadCodes_k30 : ((Rows.fnExactAheadCodesRow.pinned == Rows.fnExactAheadCodesRow.pinnedBy)) = true := by kernel_rfl
theorem xAheadCodes_k31 : ((Rows.fnExactAheadCodesRow.veiled == (Try.f5.params.toList ++ Rows.fnExactAheadCodesSpec.plain.varTypes Try.prog ++ Try.f5.resultTypes.toList).any (Try.prog.veiledRec ·))) = true := by kernel_rfl
theorem xAheadCodes_k32 : (Rows.fnExactAheadCodesRow.veiledFits Try.prog Try.f5.params.toList (Try.f5.params.toList ++ Rows.fnExactAheadCodesSpec.plain.varTypes Try.prog ++ Try.f5.resultTypes.toList)) = true := by kernel_rfl
theorem xAheadCodes_closed : joinedFacts Try.prog 5 Try.f5 Rows.fnExactAheadCodesSpec Rows.fnExactAheadCodesRow = true :=
 facts_of xAheadCodes_k1 Try.f_laid Try.f_maps xAheadCodes_k4 xAheadCodes_k5 xAheadCodes_k6 Try.f_stops xAheadCodes_k8 Try.f_knobs xAheadCodes_k10 xAheadCodes_k11 xAheadCodes_k12 xAheadCodes_k13 xAheadCodes_k14 xAheadCodes_k15 xAheadCodes_k16 xAheadCodes_k17 xAheadCodes_k18 xAheadCodes_k19 xAheadCodes_k20 xAheadCodes_k21 xAheadCodes_k22 (by kernel_rfl) xAheadCodes_k24 Try.f_heard Try.f_enter Try.f_lifts Try.f_make rfl rfl xAheadCodes_k30 xAheadCodes_k31 xAheadCodes_k32
set_option maxRecDepth 100000 in
theorem xAheadCodes_lifted (os : Os) (started : os.Started) (H : Type) (enc : TypeId × Value → H) :
 ReturnsInHanded {} Try.checked os 5 .any (Rows.fnExactAheadCodesSpec.pre6 enc Try.prog Try.f5 Rows.fnExactAheadCodesRow.domain false) (Rows.fnExactAheadCodesSpec.post enc Try.prog Try.f5 false true false false) := by
 refine returnsInHanded_of_change (C := Try.checked) Try.own started (by kernel_rfl) Try.func5
  (ChangeSpec.witness6 (enc := enc) (C := Try.checked) false ⟨#[], #[.agg #[.slice none 0 0, .slice none 0 0, .int .i64 0]], []⟩ 8 (by kernel_rfl) (by kernel_rfl) (by kernel_rfl) (by kernel_rfl)) ?_
 intro W base args ds gs before hval0 hW _ _
 have hval : ∀ (j : Nat) t v, Try.f5.params[j]? = some t → args[j]? = some v → Value.okWide Try.prog W .any base t v := hval0
 have hW' := hW
 obtain ⟨p, q, hA0, hV, rfl, _, _⟩ := hW
 have hA : DataW.TrodAll enc Try.prog W 0 (fun _ => true) true Try.f5.params.toList args.toList ds p := hA0
 rw [Try.params5] at hA hval
 obtain ⟨v0, d0, rfl, rfl, h0⟩ := trodAll_one hA
 obtain ⟨rfl, rfl⟩ := trodVars_none hV
 obtain ⟨A, a, B, b, D, T, k, rfl, mD0, mW0, rD0, rW0⟩ := in_ahead (hval 0 _ v0 rfl rfl) h0
 refine (exactAheadCodes A a B b D T k _ mD0 mW0 rD0 rW0).mono fun e W' ⟨he, hb⟩ => ⟨_, he, ?_⟩
 exact law_post (tb := 4) Try.laidOut (by kernel_rfl) rfl Try.underlying4 rfl hW' rfl hb
theorem xAheadCodes_holds : Rows.FnExactAheadCodesSaid :=
 OpenClaim.holds_of_wide 5 Try.f5 rfl rfl rfl rfl rfl rfl rfl ⟨rfl, rfl, rfl, rfl, rfl⟩ rfl rfl rfl rfl rfl (by kernel_rfl) Try.func5 xAheadCodes_closed
  (of_decide_eq_true (by kernel_rfl)) (by unfold Func.isWrapper; first | (rw [if_pos (by decide +kernel)]; kernel_rfl) | (rw [if_neg (by decide +kernel)]; exact ⟨rfl, rfl⟩))
  (fun os started H enc _ => xAheadCodes_lifted os started H enc)
#print axioms xAheadCodes_holds
end Go.Proofs.Ytameldhdegcpoaa
