/- Sorted is what was there, in order: of every code that comes in. -/
import Derived.Test.YtgnemgnhjallhaaMB
import Derived.Test.YtgnemgnhjallhaaFx
import Derived.Test.YtgnemgnhjallhaaFy
import Derived.Test.YtgnemgnhjallhaaFz
import Derived.Test.YtgnemgnhjallhaaFw
import Derived.Test.YtgnemgnhjallhaaMM
import Derived.Test.YtgnemgnhjallhaaVz
namespace Go.Proofs.Ytgnemgnhjallhaa
open Go.ChangeShapes Go.WideShapes Go.ChangeAt Go.RowKit Go.Deep

theorem pQueueSort_k1 : (Rows.fnQueueSortRow.wf (OpenSpec.ofChange Rows.fnQueueSortSpec)) = true := by kernel_rfl
theorem pQueueSort_k4 : (Try.f6.params.all (Try.prog.readableRec ·)) = true := by kernel_rfl
theorem pQueueSort_k5 : (namedTie Try.prog Rows.fnQueueSortRow.named Rows.fnQueueSortSpec.vars) = true := by kernel_rfl
theorem pQueueSort_k6 : ((Rows.fnQueueSortRow.stops == [])) = true := by kernel_rfl
theorem pQueueSort_k8 : ((Rows.fnQueueSortRow.knobs == [])) = true := by kernel_rfl
theorem pQueueSort_k10 : ((Rows.fnQueueSortRow.inPlace == Try.prog.inPlace 6)) = true := by kernel_rfl
theorem pQueueSort_k11 : ((Rows.fnQueueSortRow.unfollowed == Try.prog.unfollowed 6)) = true := by kernel_rfl
theorem pQueueSort_k12 : ((Rows.fnQueueSortRow.recurses == Try.prog.recurses 6)) = true := by kernel_rfl
theorem pQueueSort_k13 : ((Rows.fnQueueSortRow.named == Try.prog.varsNamed 6)) = true := by kernel_rfl
theorem pQueueSort_k14 : ((Rows.fnQueueSortRow.maps == (Try.f6.params.toList ++ Rows.fnQueueSortSpec.plain.varTypes Try.prog).any (Try.prog.mapsRec ·))) = true := by kernel_rfl
theorem pQueueSort_k15 : ((Rows.fnQueueSortRow.ifaces == (Try.f6.params.toList ++ Rows.fnQueueSortSpec.plain.varTypes Try.prog).any (Try.prog.ifacesRec ·))) = true := by kernel_rfl
theorem pQueueSort_k16 : ((Rows.fnQueueSortRow.mapsOut == Try.prog.mapsAmong Try.f6.resultTypes.toList)) = true := by kernel_rfl
theorem pQueueSort_k17 : ((Rows.fnQueueSortRow.loops == (Try.f6.params.toList ++ Rows.fnQueueSortSpec.plain.varTypes Try.prog).any (Try.prog.loopsFrom ·))) = true := by kernel_rfl
theorem pQueueSort_k18 : ((Rows.fnQueueSortRow.wideKeys == (Try.f6.params.toList ++ Rows.fnQueueSortSpec.plain.varTypes Try.prog ++ Try.f6.resultTypes.toList).any (Try.prog.wideKeysFrom ·))) = true := by kernel_rfl
theorem pQueueSort_k19 : (Rows.fnQueueSortSpec.vars.all (Try.prog.varReadable ·)) = true := by kernel_rfl
theorem pQueueSort_k20 : (Try.f6.resultTypes.all (fun t => Try.prog.readableRec t && decide (t < Try.prog.types.size))) = true := by kernel_rfl
theorem pQueueSort_k21 : ((Rows.fnQueueSortRow.ifacesOut == Try.f6.resultTypes.toList.any (Try.prog.ifacesRec ·))) = true := by kernel_rfl
theorem pQueueSort_k22 : ((Rows.fnQueueSortRow.loopsOut == Try.f6.resultTypes.toList.any (Try.prog.loopsFrom ·))) = true := by kernel_rfl
theorem pQueueSort_k24 : (Rows.fnQueueSortRow.shortTexts.isNone) = true := by kernel_rfl
theorem pQueueSort_k30 : ((Rows.fnQueueSortRow.pinned == Rows.fnQueueSortRow.pinnedBy)) = true := by kernel_rfl
theorem pQueueSort_k31 : ((Rows.fnQueueSortRow.veiled == (Try.f6.params.toList ++ Rows.fnQueueSortSpec.plain.varTypes Try.prog ++ Try.f6.resultTypes.toList).any (Try.prog.veiledRec ·))) = true := by kernel_rfl
theorem pQueueSort_k32 : (Rows.fnQueueSortRow.veiledFits Try.prog Try.f6.params.toList (Try.f6.params.toList ++ Rows.fnQueueSortSpec.plain.varTypes Try.prog ++ Try.f6.resultTypes.toList)) = true := by kernel_rfl
theorem pQueueSort_closed : joinedFacts Try.prog 6 Try.f6 Rows.fnQueueSortSpec Rows.fnQueueSortRow = true :=
  facts_of pQueueSort_k1 Try.f_laid Try.f_maps pQueueSort_k4 pQueueSort_k5 pQueueSort_k6 Try.f_stops pQueueSort_k8 Try.f_knobs pQueueSort_k10 pQueueSort_k11 pQueueSort_k12 pQueueSort_k13 pQueueSort_k14 pQueueSort_k15 pQueueSort_k16 pQueueSort_k17 pQueueSort_k18 pQueueSort_k19 pQueueSort_k20 pQueueSort_k21 pQueueSort_k22 (by kernel_rfl) pQueueSort_k24 Try.f_heard Try.f_enter Try.f_lifts Try.f_make rfl rfl pQueueSort_k30 pQueueSort_k31 pQueueSort_k32

set_option maxRecDepth 100000 in
theorem pQueueSort_lifted (os : Os) (started : os.Started) (H : Type) (enc : TypeId × Value → H) :
    ReturnsInHanded {} Try.checked os 6 .any (Rows.fnQueueSortSpec.pre6 enc Try.prog Try.f6 Rows.fnQueueSortRow.domain false) (Rows.fnQueueSortSpec.post enc Try.prog Try.f6 false true false false) := by
  refine returnsInHanded_of_change (C := Try.checked) Try.own started (by kernel_rfl) Try.func6
    (ChangeSpec.witness6 (enc := enc) (C := Try.checked) false ⟨#[], #[.slice none 0 0], []⟩ 8 (by kernel_rfl) (by kernel_rfl) (by kernel_rfl) (by kernel_rfl)) ?_
  intro W base args ds gs before hval0 hW _ _
  have hval : ∀ (j : Nat) t v, Try.f6.params[j]? = some t → args[j]? = some v → Value.okWide Try.prog W .any base t v := hval0
  have hW' := hW
  obtain ⟨p, q, hA0, hV, rfl, _, _⟩ := hW
  have hA : DataW.TrodAll enc Try.prog W 0 (fun _ => true) true Try.f6.params.toList args.toList ds p := hA0
  rw [Try.params6] at hA hval
  obtain ⟨v0, d0, rfl, rfl, h0⟩ := trodAll_one hA
  obtain ⟨rfl, rfl⟩ := trodVars_none hV
  obtain ⟨A, n, c, rfl, m0, l0, b0⟩ := in_bytes Try.underlying22 Try.underlying5 (by kernel_rfl) (hval 0 _ v0 rfl rfl) h0
  refine (lawQueueSort A c n _ m0 l0 b0).mono fun e W' ⟨he, hb⟩ => ⟨_, he, ?_⟩
  exact law_post (tb := 4) Try.laidOut (by kernel_rfl) rfl Try.underlying4 rfl hW' rfl hb

theorem pQueueSort_holds : Rows.FnQueueSortSaid :=
  OpenClaim.holds_of_wide 6 Try.f6 rfl rfl rfl rfl rfl rfl rfl ⟨rfl, rfl, rfl, rfl, rfl⟩ rfl rfl rfl rfl rfl (by kernel_rfl) Try.func6 pQueueSort_closed
    (of_decide_eq_true (by kernel_rfl)) (by unfold Func.isWrapper; first | (rw [if_pos (by decide +kernel)]; kernel_rfl) | (rw [if_neg (by decide +kernel)]; exact ⟨rfl, rfl⟩))
    (fun os started H enc _ => pQueueSort_lifted os started H enc)
#print axioms pQueueSort_holds
end Go.Proofs.Ytgnemgnhjallhaa
