import Derived.Test.YtameldhdegcpoaaMB
import Derived.Test.YtameldhdegcpoaaNI
import Derived.Test.YtameldhdegcpoaaIh
namespace Go.Proofs.Ytameldhdegcpoaa
open Go.ChangeShapes Go.WideShapes Go.ChangeAt Go.RowKit Go.Deep
theorem xAheadSure_k1 : (Rows.fnExactAheadSureRow.wf (OpenSpec.ofChange Rows.fnExactAheadSureSpec)) = true := by kernel_rfl
theorem xAheadSure_k4 : (Try.f4.params.all (Try.prog.readableRec ·)) = true := by kernel_rfl
theorem xAheadSure_k5 : (namedTie Try.prog Rows.fnExactAheadSureRow.named Rows.fnExactAheadSureSpec.vars) = true := by kernel_rfl
theorem xAheadSure_k6 : ((Rows.fnExactAheadSureRow.stops == [])) = true := by kernel_rfl
theorem xAheadSure_k8 : ((Rows.fnExactAheadSureRow.knobs == [])) = true := by kernel_rfl
theorem xAheadSure_k10 : ((Rows.fnExactAheadSureRow.inPlace == Try.prog.inPlace 4)) = true := by kernel_rfl
theorem xAheadSure_k11 : ((Rows.fnExactAheadSureRow.unfollowed == Try.prog.unfollowed 4)) = true := by kernel_rfl
theorem xAheadSure_k12 : ((Rows.fnExactAheadSureRow.recurses == Try.prog.recurses 4)) = true := by kernel_rfl
theorem xAheadSure_k13 : ((Rows.fnExactAheadSureRow.named == Try.prog.varsNamed 4)) = true := by kernel_rfl
theorem xAheadSure_k14 : ((Rows.fnExactAheadSureRow.maps == (Try.f4.params.toList ++ Rows.fnExactAheadSureSpec.plain.varTypes Try.prog).any (Try.prog.mapsRec ·))) = true := by kernel_rfl
theorem xAheadSure_k15 : ((Rows.fnExactAheadSureRow.ifaces == (Try.f4.params.toList ++ Rows.fnExactAheadSureSpec.plain.varTypes Try.prog).any (Try.prog.ifacesRec ·))) = true := by kernel_rfl
theorem xAheadSure_k16 : ((Rows.fnExactAheadSureRow.mapsOut == Try.prog.mapsAmong Try.f4.resultTypes.toList)) = true := by kernel_rfl
theorem xAheadSure_k17 : ((Rows.fnExactAheadSureRow.loops == (Try.f4.params.toList ++ Rows.fnExactAheadSureSpec.plain.varTypes Try.prog).any (Try.prog.loopsFrom ·))) = true := by kernel_rfl
theorem xAheadSure_k18 : ((Rows.fnExactAheadSureRow.wideKeys == (Try.f4.params.toList ++ Rows.fnExactAheadSureSpec.plain.varTypes Try.prog ++ Try.f4.resultTypes.toList).any (Try.prog.wideKeysFrom ·))) = true := by kernel_rfl
theorem xAheadSure_k19 : (Rows.fnExactAheadSureSpec.vars.all (Try.prog.varReadable ·)) = true := by kernel_rfl
theorem xAheadSure_k20 : (Try.f4.resultTypes.all (fun t => Try.prog.readableRec t && decide (t < Try.prog.types.size))) = true := by kernel_rfl
theorem xAheadSure_k21 : ((Rows.fnExactAheadSureRow.ifacesOut == Try.f4.resultTypes.toList.any (Try.prog.ifacesRec ·))) = true := by kernel_rfl
theorem xAheadSure_k22 : ((Rows.fnExactAheadSureRow.loopsOut == Try.f4.resultTypes.toList.any (Try.prog.loopsFrom ·))) = true := by kernel_rfl
theorem xAheadSure_k24 : (Rows.fnExactAheadSureRow.shortTexts.isNone) = true := by kernel_rfl
theorem xAheadSure_k30 : ((Rows.fnExactAheadSureRow.pinned == Rows.fnExactAheadSureRow.pinnedBy)) = true := by kernel_rfl
theorem xAheadSure_k31 : ((Rows.fnExactAheadSureRow.veiled == (Try.f4.params.toList ++ Rows.fnExactAheadSureSpec.plain.varTypes Try.prog ++ Try.f4.resultTypes.toList).any (Try.prog.veiledRec ·))) = true := by kernel_rfl
theorem xAheadSure_k32 : (Rows.fnExactAheadSureRow.veiledFits Try.prog Try.f4.params.toList (Try.f4.params.toList ++ Rows.fnExactAheadSureSpec.plain.varTypes Try.prog ++ Try.f4.resultTypes.toList)) = true := by kernel_rfl
theorem xAheadSure_closed : joinedFacts Try.prog 4 Try.f4 Rows.fnExactAheadSureSpec Rows.fnExactAheadSureRow = true :=
 facts_of xAheadSure_k1 Try.f_laid Try.f_maps xAheadSure_k4 xAheadSure_k5 xAheadSure_k6 Try.f_stops xAheadSure_k8 Try.f_knobs xAheadSure_k10 xAheadSure_k11 xAheadSure_k12 xAheadSure_k13 xAheadSure_k14 xAheadSure_k15 xAheadSure_k16 xAheadSure_k17 xAheadSure_k18 xAheadSure_k19 xAheadSure_k20 xAheadSure_k21 xAheadSure_k22 (by kernel_rfl) xAheadSure_k24 Try.f_heard Try.f_enter Try.f_lifts Try.f_make rfl rfl xAheadSure_k30 xAheadSure_k31 xAheadSure_k32
set_option maxRecDepth 100000 in
theorem xAheadSure_lifted (os : Os) (started : os.Started) (H : Type) (enc : TypeId × Value → H) :
 ReturnsInHanded {} Try.checked os 4 .any (Rows.fnExactAheadSureSpec.pre6 enc Try.prog Try.f4 Rows.fnExactAheadSureRow.domain false) (Rows.fnExactAheadSureSpec.post enc Try.prog Try.f4 false true false false) := by
 refine returnsInHanded_of_change (C := Try.checked) Try.own started (by kernel_rfl) Try.func4
  (ChangeSpec.witness6 (enc := enc) (C := Try.checked) false ⟨#[], #[.agg #[.slice none 0 0, .slice none 0 0, .int .i64 0]], []⟩ 8 (by kernel_rfl) (by kernel_rfl) (by kernel_rfl) (by kernel_rfl)) ?_
 intro W base args ds gs before hval0 hW _ _
 have hval : ∀ (j : Nat) t v, Try.f4.params[j]? = some t → args[j]? = some v → Value.okWide Try.prog W .any base t v := hval0
 have hW' := hW
 obtain ⟨p, q, hA0, hV, rfl, _, _⟩ := hW
 have hA : DataW.TrodAll enc Try.prog W 0 (fun _ => true) true Try.f4.params.toList args.toList ds p := hA0
 rw [Try.params4] at hA hval
 obtain ⟨v0, d0, rfl, rfl, h0⟩ := trodAll_one hA
 obtain ⟨rfl, rfl⟩ := trodVars_none hV
 obtain ⟨A, a, B, b, D, W, k, rfl, mD0, mW0, rD0, rW0⟩ := in_ahead (hval 0 _ v0 rfl rfl) h0
 refine (exactAheadSure A a B b D W k _ mD0 mW0 rD0 rW0).mono fun e W' ⟨he, hb⟩ => ⟨_, he, ?_⟩
 exact law_post (tb := 4) Try.laidOut (by kernel_rfl) rfl Try.underlying4 rfl hW' rfl hb
theorem xAheadSure_holds : Rows.FnExactAheadSureSaid :=
 OpenClaim.holds_of_wide 4 Try.f4 rfl rfl rfl rfl rfl rfl rfl ⟨rfl, rfl, rfl, rfl, rfl⟩ rfl rfl rfl rfl rfl (by kernel_rfl) Try.func4 xAheadSure_closed
  (of_decide_eq_true (by kernel_rfl)) (by unfold Func.isWrapper; first | (rw [if_pos (by decide +kernel)]; kernel_rfl) | (rw [if_neg (by decide +kernel)]; exact ⟨rfl, rfl⟩))
  (fun os started H enc _ => xAheadSure_lifted os started H enc)
#print axioms xAheadSure_holds
end Go.Proofs.Ytameldhdegcpoaa
