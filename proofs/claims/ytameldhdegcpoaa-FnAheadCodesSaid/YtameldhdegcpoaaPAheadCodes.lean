import Derived.Test.YtameldhdegcpoaaMB
import Derived.Test.YtameldhdegcpoaaNI
import Derived.Test.YtameldhdegcpoaaMM
import Derived.Test.YtameldhdegcpoaaLj
namespace Go.Proofs.Ytameldhdegcpoaa
open Go.ChangeShapes Go.WideShapes Go.ChangeAt Go.RowKit Go.Deep
theorem pAheadCodes_k1 : (Rows.fnAheadCodesRow.wf (OpenSpec.ofChange Rows.fnAheadCodesSpec)) = true := by kernel_rfl
theorem pAheadCodes_k4 : (Try.f10.params.all (Try.prog.readableRec ·)) = true := by kernel_rfl
theorem pAheadCodes_k5 : (namedTie Try.prog Rows.fnAheadCodesRow.named Rows.fnAheadCodesSpec.vars) = true := by kernel_rfl
theorem pAheadCodes_k6 : ((Rows.fnAheadCodesRow.stops == [])) = true := by kernel_rfl
theorem pAheadCodes_k8 : ((Rows.fnAheadCodesRow.knobs == [])) = true := by kernel_rfl
theorem pAheadCodes_k10 : ((Rows.fnAheadCodesRow.inPlace == Try.prog.inPlace 10)) = true := by kernel_rfl
theorem pAheadCodes_k11 : ((Rows.fnAheadCodesRow.unfollowed == Try.prog.unfollowed 10)) = true := by kernel_rfl
theorem pAheadCodes_k12 : ((Rows.fnAheadCodesRow.recurses == Try.prog.recurses 10)) = true := by kernel_rfl
theorem pAheadCodes_k13 : ((Rows.fnAheadCodesRow.named == Try.prog.varsNamed 10)) = true := by kernel_rfl
theorem pAheadCodes_k14 : ((Rows.fnAheadCodesRow.maps == (Try.f10.params.toList ++ Rows.fnAheadCodesSpec.plain.varTypes Try.prog).any (Try.prog.mapsRec ·))) = true := by kernel_rfl
theorem pAheadCodes_k15 : ((Rows.fnAheadCodesRow.ifaces == (Try.f10.params.toList ++ Rows.fnAheadCodesSpec.plain.varTypes Try.prog).any (Try.prog.ifacesRec ·))) = true := by kernel_rfl
theorem pAheadCodes_k16 : ((Rows.fnAheadCodesRow.mapsOut == Try.prog.mapsAmong Try.f10.resultTypes.toList)) = true := by kernel_rfl
theorem pAheadCodes_k17 : ((Rows.fnAheadCodesRow.loops == (Try.f10.params.toList ++ Rows.fnAheadCodesSpec.plain.varTypes Try.prog).any (Try.prog.loopsFrom ·))) = true := by kernel_rfl
theorem pAheadCodes_k18 : ((Rows.fnAheadCodesRow.wideKeys == (Try.f10.params.toList ++ Rows.fnAheadCodesSpec.plain.varTypes Try.prog ++ Try.f10.resultTypes.toList).any (Try.prog.wideKeysFrom ·))) = true := by kernel_rfl
theorem pAheadCodes_k19 : (Rows.fnAheadCodesSpec.vars.all (Try.prog.varReadable ·)) = true := by kernel_rfl
theorem pAheadCodes_k20 : (Try.f10.resultTypes.all (fun t => Try.prog.readableRec t && decide (t < Try.prog.types.size))) = true := by kernel_rfl
theorem pAheadCodes_k21 : ((Rows.fnAheadCodesRow.ifacesOut == Try.f10.resultTypes.toList.any (Try.prog.ifacesRec ·))) = true := by kernel_rfl
theorem pAheadCodes_k22 : ((Rows.fnAheadCodesRow.loopsOut == Try.f10.resultTypes.toList.any (Try.prog.loopsFrom ·))) = true := by kernel_rfl
theorem pAheadCodes_k24 : (Rows.fnAheadCodesRow.shortTexts.isNone) = true := by kernel_rfl
theorem pAheadCodes_k30 : ((Rows.fnAheadCodesRow.pinned == Rows.fnAheadCodesRow.pinnedBy)) = true := by kernel_rfl
theorem pAheadCodes_k31 : ((Rows.fnAheadCodesRow.veiled == (Try.f10.params.toList ++ Rows.fnAheadCodesSpec.plain.varTypes Try.prog ++ Try.f10.resultTypes.toList).any (Try.prog.veiledRec ·))) = true := by kernel_rfl
theorem pAheadCodes_k32 : (Rows.fnAheadCodesRow.veiledFits Try.prog Try.f10.params.toList (Try.f10.params.toList ++ Rows.fnAheadCodesSpec.plain.varTypes Try.prog ++ Try.f10.resultTypes.toList)) = true := by kernel_rfl
theorem pAheadCodes_closed : joinedFacts Try.prog 10 Try.f10 Rows.fnAheadCodesSpec Rows.fnAheadCodesRow = true :=
 facts_of pAheadCodes_k1 Try.f_laid Try.f_maps pAheadCodes_k4 pAheadCodes_k5 pAheadCodes_k6 Try.f_stops pAheadCodes_k8 Try.f_knobs pAheadCodes_k10 pAheadCodes_k11 pAheadCodes_k12 pAheadCodes_k13 pAheadCodes_k14 pAheadCodes_k15 pAheadCodes_k16 pAheadCodes_k17 pAheadCodes_k18 pAheadCodes_k19 pAheadCodes_k20 pAheadCodes_k21 pAheadCodes_k22 (by kernel_rfl) pAheadCodes_k24 Try.f_heard Try.f_enter Try.f_lifts Try.f_make rfl rfl pAheadCodes_k30 pAheadCodes_k31 pAheadCodes_k32
set_option maxRecDepth 100000 in
theorem pAheadCodes_lifted (os : Os) (started : os.Started) (H : Type) (enc : TypeId × Value → H) :
 ReturnsInHanded {} Try.checked os 10 .any (Rows.fnAheadCodesSpec.pre6 enc Try.prog Try.f10 Rows.fnAheadCodesRow.domain false) (Rows.fnAheadCodesSpec.post enc Try.prog Try.f10 false true false false) := by
 refine returnsInHanded_of_change (C := Try.checked) Try.own started (by kernel_rfl) Try.func10
  (ChangeSpec.witness6 (enc := enc) (C := Try.checked) false ⟨#[], #[.slice none 0 0], []⟩ 8 (by kernel_rfl) (by kernel_rfl) (by kernel_rfl) (by kernel_rfl)) ?_
 intro W base args ds gs before hval0 hW _ _
 have hval : ∀ (j : Nat) t v, Try.f10.params[j]? = some t → args[j]? = some v → Value.okWide Try.prog W .any base t v := hval0
 have hW' := hW
 obtain ⟨p, q, hA0, hV, rfl, _, _⟩ := hW
 have hA : DataW.TrodAll enc Try.prog W 0 (fun _ => true) true Try.f10.params.toList args.toList ds p := hA0
 rw [Try.params10] at hA hval
 obtain ⟨v0, d0, rfl, rfl, h0⟩ := trodAll_one hA
 obtain ⟨rfl, rfl⟩ := trodVars_none hV
 obtain ⟨A, n, c, rfl, m0, l0, b0⟩ := in_bytes Try.underlying43 Try.underlying5 (by kernel_rfl) (hval 0 _ v0 rfl rfl) h0
 refine (lawAheadCodes m0 l0 b0).mono fun e W' ⟨he, hb⟩ => ⟨_, he, ?_⟩
 exact law_post (tb := 4) Try.laidOut (by kernel_rfl) rfl Try.underlying4 rfl hW' rfl hb
theorem pAheadCodes_holds : Rows.FnAheadCodesSaid :=
 OpenClaim.holds_of_wide 10 Try.f10 rfl rfl rfl rfl rfl rfl rfl ⟨rfl, rfl, rfl, rfl, rfl⟩ rfl rfl rfl rfl rfl (by kernel_rfl) Try.func10 pAheadCodes_closed
  (of_decide_eq_true (by kernel_rfl)) (by unfold Func.isWrapper; first | (rw [if_pos (by decide +kernel)]; kernel_rfl) | (rw [if_neg (by decide +kernel)]; exact ⟨rfl, rfl⟩))
  (fun os started H enc _ => pAheadCodes_lifted os started H enc)
#print axioms pAheadCodes_holds
end Go.Proofs.Ytameldhdegcpoaa
