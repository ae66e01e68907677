/- Numbers mix in any order, and each turns back itself: of every code that comes in. -/
import Derived.Test.YtkhneligclhgaaaMB
import Derived.Test.YtkhneligclhgaaaFx
import Derived.Test.YtkhneligclhgaaaFy
import Derived.Test.YtkhneligclhgaaaFz
import Derived.Test.YtkhneligclhgaaaFw
import Derived.Test.YtkhneligclhgaaaMM
import Derived.Test.YtkhneligclhgaaaFn
namespace Go.Proofs.Ytkhneligclhgaaa
open Go.ChangeShapes Go.WideShapes Go.ChangeAt Go.RowKit Go.Deep

theorem pDiceMix_k1 : (Rows.fnDiceMixRow.wf (OpenSpec.ofChange Rows.fnDiceMixSpec)) = true := by kernel_rfl
theorem pDiceMix_k4 : (Try.f5.params.all (Try.prog.readableRec ·)) = true := by kernel_rfl
theorem pDiceMix_k5 : (namedTie Try.prog Rows.fnDiceMixRow.named Rows.fnDiceMixSpec.vars) = true := by kernel_rfl
theorem pDiceMix_k6 : ((Rows.fnDiceMixRow.stops == [])) = true := by kernel_rfl
theorem pDiceMix_k8 : ((Rows.fnDiceMixRow.knobs == [])) = true := by kernel_rfl
theorem pDiceMix_k10 : ((Rows.fnDiceMixRow.inPlace == Try.prog.inPlace 5)) = true := by kernel_rfl
theorem pDiceMix_k11 : ((Rows.fnDiceMixRow.unfollowed == Try.prog.unfollowed 5)) = true := by kernel_rfl
theorem pDiceMix_k12 : ((Rows.fnDiceMixRow.recurses == Try.prog.recurses 5)) = true := by kernel_rfl
theorem pDiceMix_k13 : ((Rows.fnDiceMixRow.named == Try.prog.varsNamed 5)) = true := by kernel_rfl
theorem pDiceMix_k14 : ((Rows.fnDiceMixRow.maps == (Try.f5.params.toList ++ Rows.fnDiceMixSpec.plain.varTypes Try.prog).any (Try.prog.mapsRec ·))) = true := by kernel_rfl
theorem pDiceMix_k15 : ((Rows.fnDiceMixRow.ifaces == (Try.f5.params.toList ++ Rows.fnDiceMixSpec.plain.varTypes Try.prog).any (Try.prog.ifacesRec ·))) = true := by kernel_rfl
theorem pDiceMix_k16 : ((Rows.fnDiceMixRow.mapsOut == Try.prog.mapsAmong Try.f5.resultTypes.toList)) = true := by kernel_rfl
theorem pDiceMix_k17 : ((Rows.fnDiceMixRow.loops == (Try.f5.params.toList ++ Rows.fnDiceMixSpec.plain.varTypes Try.prog).any (Try.prog.loopsFrom ·))) = true := by kernel_rfl
theorem pDiceMix_k18 : ((Rows.fnDiceMixRow.wideKeys == (Try.f5.params.toList ++ Rows.fnDiceMixSpec.plain.varTypes Try.prog ++ Try.f5.resultTypes.toList).any (Try.prog.wideKeysFrom ·))) = true := by kernel_rfl
theorem pDiceMix_k19 : (Rows.fnDiceMixSpec.vars.all (Try.prog.varReadable ·)) = true := by kernel_rfl
theorem pDiceMix_k20 : (Try.f5.resultTypes.all (fun t => Try.prog.readableRec t && decide (t < Try.prog.types.size))) = true := by kernel_rfl
theorem pDiceMix_k21 : ((Rows.fnDiceMixRow.ifacesOut == Try.f5.resultTypes.toList.any (Try.prog.ifacesRec ·))) = true := by kernel_rfl
theorem pDiceMix_k22 : ((Rows.fnDiceMixRow.loopsOut == Try.f5.resultTypes.toList.any (Try.prog.loopsFrom ·))) = true := by kernel_rfl
theorem pDiceMix_k24 : (Rows.fnDiceMixRow.shortTexts.isNone) = true := by kernel_rfl
theorem pDiceMix_k30 : ((Rows.fnDiceMixRow.pinned == Rows.fnDiceMixRow.pinnedBy)) = true := by kernel_rfl
theorem pDiceMix_k31 : ((Rows.fnDiceMixRow.veiled == (Try.f5.params.toList ++ Rows.fnDiceMixSpec.plain.varTypes Try.prog ++ Try.f5.resultTypes.toList).any (Try.prog.veiledRec ·))) = true := by kernel_rfl
theorem pDiceMix_k32 : (Rows.fnDiceMixRow.veiledFits Try.prog Try.f5.params.toList (Try.f5.params.toList ++ Rows.fnDiceMixSpec.plain.varTypes Try.prog ++ Try.f5.resultTypes.toList)) = true := by kernel_rfl
theorem pDiceMix_closed : joinedFacts Try.prog 5 Try.f5 Rows.fnDiceMixSpec Rows.fnDiceMixRow = true :=
  facts_of pDiceMix_k1 Try.f_laid Try.f_maps pDiceMix_k4 pDiceMix_k5 pDiceMix_k6 Try.f_stops pDiceMix_k8 Try.f_knobs pDiceMix_k10 pDiceMix_k11 pDiceMix_k12 pDiceMix_k13 pDiceMix_k14 pDiceMix_k15 pDiceMix_k16 pDiceMix_k17 pDiceMix_k18 pDiceMix_k19 pDiceMix_k20 pDiceMix_k21 pDiceMix_k22 (by kernel_rfl) pDiceMix_k24 Try.f_heard Try.f_enter Try.f_lifts Try.f_make rfl rfl pDiceMix_k30 pDiceMix_k31 pDiceMix_k32

set_option maxRecDepth 100000 in
theorem pDiceMix_lifted (os : Os) (started : os.Started) (H : Type) (enc : TypeId × Value → H) :
    ReturnsInHanded {} Try.checked os 5 .any (Rows.fnDiceMixSpec.pre6 enc Try.prog Try.f5 Rows.fnDiceMixRow.domain false) (Rows.fnDiceMixSpec.post enc Try.prog Try.f5 false true false false) := by
  refine returnsInHanded_of_change (C := Try.checked) Try.own started (by kernel_rfl) Try.func5
    (ChangeSpec.witness6 (enc := enc) (C := Try.checked) false ⟨#[], #[.slice none 0 0], []⟩ 8 (by kernel_rfl) (by kernel_rfl) (by kernel_rfl) (by kernel_rfl)) ?_
  intro W base args ds gs before hval0 hW _ _
  have hval : ∀ (j : Nat) t v, Try.f5.params[j]? = some t → args[j]? = some v → Value.okWide Try.prog W .any base t v := hval0
  have hW' := hW
  obtain ⟨p, q, hA0, hV, rfl, _, _⟩ := hW
  have hA : DataW.TrodAll enc Try.prog W 0 (fun _ => true) true Try.f5.params.toList args.toList ds p := hA0
  rw [Try.params5] at hA hval
  obtain ⟨v0, d0, rfl, rfl, h0⟩ := trodAll_one hA
  obtain ⟨rfl, rfl⟩ := trodVars_none hV
  obtain ⟨A, n, c, rfl, m0, l0, b0⟩ := in_bytes Try.underlying22 Try.underlying5 (by kernel_rfl) (hval 0 _ v0 rfl rfl) h0
  refine (lawDiceMix A c n _ m0 l0 b0).mono fun e W' ⟨he, hb⟩ => ⟨_, he, ?_⟩
  exact law_post (tb := 4) Try.laidOut (by kernel_rfl) rfl Try.underlying4 rfl hW' rfl hb

theorem pDiceMix_holds : Rows.FnDiceMixSaid :=
  OpenClaim.holds_of_wide 5 Try.f5 rfl rfl rfl rfl rfl rfl rfl ⟨rfl, rfl, rfl, rfl, rfl⟩ rfl rfl rfl rfl rfl (by kernel_rfl) Try.func5 pDiceMix_closed
    (of_decide_eq_true (by kernel_rfl)) (by unfold Func.isWrapper; first | (rw [if_pos (by decide +kernel)]; kernel_rfl) | (rw [if_neg (by decide +kernel)]; exact ⟨rfl, rfl⟩))
    (fun os started H enc _ => pDiceMix_lifted os started H enc)
#print axioms pDiceMix_holds
end Go.Proofs.Ytkhneligclhgaaa
