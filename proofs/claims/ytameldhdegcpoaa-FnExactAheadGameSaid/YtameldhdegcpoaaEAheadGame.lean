import Derived.Test.YtameldhdegcpoaaMB
import Derived.Test.YtameldhdegcpoaaNI
import Derived.Test.YtameldhdegcpoaaId
namespace Go.Proofs.Ytameldhdegcpoaa
open Go.ChangeShapes Go.WideShapes Go.ChangeAt Go.RowKit Go.Deep
theorem xAheadGame_k1 : (Rows.fnExactAheadGameRow.wf (OpenSpec.ofChange Rows.fnExactAheadGameSpec)) = true := by kernel_rfl
theorem xAheadGame_k4 : (Try.f3.params.all (Try.prog.readableRec ·)) = true := by kernel_rfl
theorem xAheadGame_k5 : (namedTie Try.prog Rows.fnExactAheadGameRow.named Rows.fnExactAheadGameSpec.vars) = true := by kernel_rfl
theorem xAheadGame_k6 : ((Rows.fnExactAheadGameRow.stops == [])) = true := by kernel_rfl
theorem xAheadGame_k8 : ((Rows.fnExactAheadGameRow.knobs == [])) = true := by kernel_rfl
theorem xAheadGame_k10 : ((Rows.fnExactAheadGameRow.inPlace == Try.prog.inPlace 3)) = true := by kernel_rfl
theorem xAheadGame_k11 : ((Rows.fnExactAheadGameRow.unfollowed == Try.prog.unfollowed 3)) = true := by kernel_rfl
theorem xAheadGame_k12 : ((Rows.fnExactAheadGameRow.recurses == Try.prog.recurses 3)) = true := by kernel_rfl
theorem xAheadGame_k13 : ((Rows.fnExactAheadGameRow.named == Try.prog.varsNamed 3)) = true := by kernel_rfl
theorem xAheadGame_k14 : ((Rows.fnExactAheadGameRow.maps == (Try.f3.params.toList ++ Rows.fnExactAheadGameSpec.plain.varTypes Try.prog).any (Try.prog.mapsRec ·))) = true := by kernel_rfl
theorem xAheadGame_k15 : ((Rows.fnExactAheadGameRow.ifaces == (Try.f3.params.toList ++ Rows.fnExactAheadGameSpec.plain.varTypes Try.prog).any (Try.prog.ifacesRec ·))) = true := by kernel_rfl
theorem xAheadGame_k16 : ((Rows.fnExactAheadGameRow.mapsOut == Try.prog.mapsAmong Try.f3.resultTypes.toList)) = true := by kernel_rfl
theorem xAheadGame_k17 : ((Rows.fnExactAheadGameRow.loops == (Try.f3.params.toList ++ Rows.fnExactAheadGameSpec.plain.varTypes Try.prog).any (Try.prog.loopsFrom ·))) = true := by kernel_rfl
theorem xAheadGame_k18 : ((Rows.fnExactAheadGameRow.wideKeys == (Try.f3.params.toList ++ Rows.fnExactAheadGameSpec.plain.varTypes Try.prog ++ Try.f3.resultTypes.toList).any (Try.prog.wideKeysFrom ·))) = true := by kernel_rfl
theorem xAheadGame_k19 : (Rows.fnExactAheadGameSpec.vars.all (Try.prog.varReadable ·)) = true := by kernel_rfl
theorem xAheadGame_k20 : (Try.f3.resultTypes.all (fun t => Try.prog.readableRec t && decide (t < Try.prog.types.size))) = true := by kernel_rfl
theorem xAheadGame_k21 : ((Rows.fnExactAheadGameRow.ifacesOut == Try.f3.resultTypes.toList.any (Try.prog.ifacesRec ·))) = true := by kernel_rfl
theorem xAheadGame_k22 : ((Rows.fnExactAheadGameRow.loopsOut == Try.f3.resultTypes.toList.any (Try.prog.loopsFrom ·))) = true := by kernel_rfl
theorem xAheadGame_k24 : (Rows.fnExactAheadGameRow.shortTexts.isNone) = true := by kernel_rfl
theorem xAheadGame_k30 : ((Rows.fnExactAheadGameRow.pinned == Rows.fnExactAheadGameRow.pinnedBy)) = true := by kernel_rfl
theorem xAheadGame_k31 : ((Rows.fnExactAheadGameRow.veiled == (Try.f3.params.toList ++ Rows.fnExactAheadGameSpec.plain.varTypes Try.prog ++ Try.f3.resultTypes.toList).any (Try.prog.veiledRec ·))) = true := by kernel_rfl
theorem xAheadGame_k32 : (Rows.fnExactAheadGameRow.veiledFits Try.prog Try.f3.params.toList (Try.f3.params.toList ++ Rows.fnExactAheadGameSpec.plain.varTypes Try.prog ++ Try.f3.resultTypes.toList)) = true := by kernel_rfl
theorem xAheadGame_closed : joinedFacts Try.prog 3 Try.f3 Rows.fnExactAheadGameSpec Rows.fnExactAheadGameRow = true :=
 facts_of xAheadGame_k1 Try.f_laid Try.f_maps xAheadGame_k4 xAheadGame_k5 xAheadGame_k6 Try.f_stops xAheadGame_k8 Try.f_knobs xAheadGame_k10 xAheadGame_k11 xAheadGame_k12 xAheadGame_k13 xAheadGame_k14 xAheadGame_k15 xAheadGame_k16 xAheadGame_k17 xAheadGame_k18 xAheadGame_k19 xAheadGame_k20 xAheadGame_k21 xAheadGame_k22 (by kernel_rfl) xAheadGame_k24 Try.f_heard Try.f_enter Try.f_lifts Try.f_make rfl rfl xAheadGame_k30 xAheadGame_k31 xAheadGame_k32
set_option maxRecDepth 100000 in
theorem xAheadGame_lifted (os : Os) (started : os.Started) (H : Type) (enc : TypeId × Value → H) :
 ReturnsInHanded {} Try.checked os 3 .any (Rows.fnExactAheadGameSpec.pre6 enc Try.prog Try.f3 Rows.fnExactAheadGameRow.domain false) (Rows.fnExactAheadGameSpec.post enc Try.prog Try.f3 false true false false) := by
 refine returnsInHanded_of_change (C := Try.checked) Try.own started (by kernel_rfl) Try.func3
  (ChangeSpec.witness6 (enc := enc) (C := Try.checked) false ⟨#[], #[.agg #[.slice none 0 0, .slice none 0 0, .int .i64 0]], []⟩ 8 (by kernel_rfl) (by kernel_rfl) (by kernel_rfl) (by kernel_rfl)) ?_
 intro W base args ds gs before hval0 hW _ _
 have hval : ∀ (j : Nat) t v, Try.f3.params[j]? = some t → args[j]? = some v → Value.okWide Try.prog W .any base t v := hval0
 have hW' := hW
 obtain ⟨p, q, hA0, hV, rfl, _, _⟩ := hW
 have hA : DataW.TrodAll enc Try.prog W 0 (fun _ => true) true Try.f3.params.toList args.toList ds p := hA0
 rw [Try.params3] at hA hval
 obtain ⟨v0, d0, rfl, rfl, h0⟩ := trodAll_one hA
 obtain ⟨rfl, rfl⟩ := trodVars_none hV
 obtain ⟨A, a, B, b, D, W, k, rfl, mD0, mW0, rD0, rW0⟩ := in_ahead (hval 0 _ v0 rfl rfl) h0
 refine (exactAheadGame A a B b D W k _ mD0 mW0 rD0 rW0).mono fun e W' ⟨he, hb⟩ => ⟨_, he, ?_⟩
 exact law_post (tb := 4) Try.laidOut (by kernel_rfl) rfl Try.underlying4 rfl hW' rfl hb
theorem xAheadGame_holds : Rows.FnExactAheadGameSaid :=
 OpenClaim.holds_of_wide 3 Try.f3 rfl rfl rfl rfl rfl rfl rfl ⟨rfl, rfl, rfl, rfl, rfl⟩ rfl rfl rfl rfl rfl (by kernel_rfl) Try.func3 xAheadGame_closed
  (of_decide_eq_true (by kernel_rfl)) (by unfold Func.isWrapper; first | (rw [if_pos (by decide +kernel)]; kernel_rfl) | (rw [if_neg (by decide +kernel)]; exact ⟨rfl, rfl⟩))
  (fun os started H enc _ => xAheadGame_lifted os started H enc)
#print axioms xAheadGame_holds
end Go.Proofs.Ytameldhdegcpoaa
