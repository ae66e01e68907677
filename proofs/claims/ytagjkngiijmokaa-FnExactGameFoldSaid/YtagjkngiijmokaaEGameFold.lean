/- The exact law of GameFold holds of all requests that come in. -/
import Derived.Test.YtagjkngiijmokaaMB
import Derived.Test.YtagjkngiijmokaaNI
import Derived.Test.YtagjkngiijmokaaMS
namespace Go.Proofs.Ytagjkngiijmokaa
open Go.ChangeShapes Go.WideShapes Go.ChangeAt Go.RowKit Go.Deep

theorem xGameFold_k1 : (Rows.fnExactGameFoldRow.wf (OpenSpec.ofChange Rows.fnExactGameFoldSpec)) = true := by kernel_rfl
theorem xGameFold_k4 : (Try.f5.params.all (Try.prog.readableRec ·)) = true := by kernel_rfl
theorem xGameFold_k5 : (namedTie Try.prog Rows.fnExactGameFoldRow.named Rows.fnExactGameFoldSpec.vars) = true := by kernel_rfl
theorem xGameFold_k6 : ((Rows.fnExactGameFoldRow.stops == [])) = true := by kernel_rfl
theorem xGameFold_k8 : ((Rows.fnExactGameFoldRow.knobs == [])) = true := by kernel_rfl
theorem xGameFold_k10 : ((Rows.fnExactGameFoldRow.inPlace == Try.prog.inPlace 5)) = true := by kernel_rfl
theorem xGameFold_k11 : ((Rows.fnExactGameFoldRow.unfollowed == Try.prog.unfollowed 5)) = true := by kernel_rfl
theorem xGameFold_k12 : ((Rows.fnExactGameFoldRow.recurses == Try.prog.recurses 5)) = true := by kernel_rfl
theorem xGameFold_k13 : ((Rows.fnExactGameFoldRow.named == Try.prog.varsNamed 5)) = true := by kernel_rfl
theorem xGameFold_k14 : ((Rows.fnExactGameFoldRow.maps == (Try.f5.params.toList ++ Rows.fnExactGameFoldSpec.plain.varTypes Try.prog).any (Try.prog.mapsRec ·))) = true := by kernel_rfl
theorem xGameFold_k15 : ((Rows.fnExactGameFoldRow.ifaces == (Try.f5.params.toList ++ Rows.fnExactGameFoldSpec.plain.varTypes Try.prog).any (Try.prog.ifacesRec ·))) = true := by kernel_rfl
theorem xGameFold_k16 : ((Rows.fnExactGameFoldRow.mapsOut == Try.prog.mapsAmong Try.f5.resultTypes.toList)) = true := by kernel_rfl
theorem xGameFold_k17 : ((Rows.fnExactGameFoldRow.loops == (Try.f5.params.toList ++ Rows.fnExactGameFoldSpec.plain.varTypes Try.prog).any (Try.prog.loopsFrom ·))) = true := by kernel_rfl
theorem xGameFold_k18 : ((Rows.fnExactGameFoldRow.wideKeys == (Try.f5.params.toList ++ Rows.fnExactGameFoldSpec.plain.varTypes Try.prog ++ Try.f5.resultTypes.toList).any (Try.prog.wideKeysFrom ·))) = true := by kernel_rfl
theorem xGameFold_k19 : (Rows.fnExactGameFoldSpec.vars.all (Try.prog.varReadable ·)) = true := by kernel_rfl
theorem xGameFold_k20 : (Try.f5.resultTypes.all (fun t => Try.prog.readableRec t && decide (t < Try.prog.types.size))) = true := by kernel_rfl
theorem xGameFold_k21 : ((Rows.fnExactGameFoldRow.ifacesOut == Try.f5.resultTypes.toList.any (Try.prog.ifacesRec ·))) = true := by kernel_rfl
theorem xGameFold_k22 : ((Rows.fnExactGameFoldRow.loopsOut == Try.f5.resultTypes.toList.any (Try.prog.loopsFrom ·))) = true := by kernel_rfl
theorem xGameFold_k24 : (Rows.fnExactGameFoldRow.shortTexts.isNone) = true := by kernel_rfl
theorem xGameFold_k30 : ((Rows.fnExactGameFoldRow.pinned == Rows.fnExactGameFoldRow.pinnedBy)) = true := by kernel_rfl
theorem xGameFold_k31 : ((Rows.fnExactGameFoldRow.veiled == (Try.f5.params.toList ++ Rows.fnExactGameFoldSpec.plain.varTypes Try.prog ++ Try.f5.resultTypes.toList).any (Try.prog.veiledRec ·))) = true := by kernel_rfl
theorem xGameFold_k32 : (Rows.fnExactGameFoldRow.veiledFits Try.prog Try.f5.params.toList (Try.f5.params.toList ++ Rows.fnExactGameFoldSpec.plain.varTypes Try.prog ++ Try.f5.resultTypes.toList)) = true := by kernel_rfl
theorem xGameFold_closed : joinedFacts Try.prog 5 Try.f5 Rows.fnExactGameFoldSpec Rows.fnExactGameFoldRow = true :=
 facts_of xGameFold_k1 Try.f_laid Try.f_maps xGameFold_k4 xGameFold_k5 xGameFold_k6 Try.f_stops xGameFold_k8 Try.f_knobs xGameFold_k10 xGameFold_k11 xGameFold_k12 xGameFold_k13 xGameFold_k14 xGameFold_k15 xGameFold_k16 xGameFold_k17 xGameFold_k18 xGameFold_k19 xGameFold_k20 xGameFold_k21 xGameFold_k22 (by kernel_rfl) xGameFold_k24 Try.f_heard Try.f_enter Try.f_lifts Try.f_make rfl rfl xGameFold_k30 xGameFold_k31 xGameFold_k32

set_option maxRecDepth 100000 in
theorem xGameFold_lifted (os : Os) (started : os.Started) (H : Type) (enc : TypeId × Value → H) :
 ReturnsInHanded {} Try.checked os 5 .any (Rows.fnExactGameFoldSpec.pre6 enc Try.prog Try.f5 Rows.fnExactGameFoldRow.domain false) (Rows.fnExactGameFoldSpec.post enc Try.prog Try.f5 false true false false) := by
 refine returnsInHanded_of_change (C := Try.checked) Try.own started (by kernel_rfl) Try.func5
  (ChangeSpec.witness6 (enc := enc) (C := Try.checked) false ⟨#[], #[.slice none 0 0], []⟩ 8 (by kernel_rfl) (by kernel_rfl) (by kernel_rfl) (by kernel_rfl)) ?_
 intro W base args ds gs before hval0 hW _ _
 have hval : ∀ (j : Nat) t v, Try.f5.params[j]? = some t → args[j]? = some v → Value.okWide Try.prog W .any base t v := hval0
 have hW' := hW
 obtain ⟨p, q, hA0, hV, rfl, _, _⟩ := hW
 have hA : DataW.TrodAll enc Try.prog W 0 (fun _ => true) true Try.f5.params.toList args.toList ds p := hA0
 rw [Try.params5] at hA hval
 obtain ⟨v0, d0, rfl, rfl, h0⟩ := trodAll_one hA
 obtain ⟨rfl, rfl⟩ := trodVars_none hV
 obtain ⟨A, c, P, rfl, m0, k0, r0⟩ := reqs_in (hval 0 _ v0 rfl rfl) h0
 refine (exactGameFold A c P _ m0 k0 r0).mono fun e W' ⟨he, hb⟩ => ⟨_, he, ?_⟩
 exact law_post (tb := 4) Try.laidOut (by kernel_rfl) rfl Try.underlying4 rfl hW' rfl hb

theorem xGameFold_holds : Rows.FnExactGameFoldSaid :=
 OpenClaim.holds_of_wide 5 Try.f5 rfl rfl rfl rfl rfl rfl rfl ⟨rfl, rfl, rfl, rfl, rfl⟩ rfl rfl rfl rfl rfl (by kernel_rfl) Try.func5 xGameFold_closed
  (of_decide_eq_true (by kernel_rfl)) (by unfold Func.isWrapper; first | (rw [if_pos (by decide +kernel)]; kernel_rfl) | (rw [if_neg (by decide +kernel)]; exact ⟨rfl, rfl⟩))
  (fun os started H enc _ => xGameFold_lifted os started H enc)
#print axioms xGameFold_holds
end Go.Proofs.Ytagjkngiijmokaa
