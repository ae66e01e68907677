/- The next is the first due: of every code that comes in. -/
import Derived.Test.YtgnemgnhjallhaaMB
import Derived.Test.YtgnemgnhjallhaaFx
import Derived.Test.YtgnemgnhjallhaaFy
import Derived.Test.YtgnemgnhjallhaaFz
import Derived.Test.YtgnemgnhjallhaaFw
import Derived.Test.YtgnemgnhjallhaaMM
import Derived.Test.YtgnemgnhjallhaaVw
namespace Go.Proofs.Ytgnemgnhjallhaa
open Go.ChangeShapes Go.WideShapes Go.ChangeAt Go.RowKit Go.Deep

theorem pQueueNext_k1 : (Rows.fnQueueNextRow.wf (OpenSpec.ofChange Rows.fnQueueNextSpec)) = true := by kernel_rfl
theorem pQueueNext_k4 : (Try.f4.params.all (Try.prog.readableRec ·)) = true := by kernel_rfl
theorem pQueueNext_k5 : (namedTie Try.prog Rows.fnQueueNextRow.named Rows.fnQueueNextSpec.vars) = true := by kernel_rfl
theorem pQueueNext_k6 : ((Rows.fnQueueNextRow.stops == [])) = true := by kernel_rfl
theorem pQueueNext_k8 : ((Rows.fnQueueNextRow.knobs == [])) = true := by kernel_rfl
theorem pQueueNext_k10 : ((Rows.fnQueueNextRow.inPlace == Try.prog.inPlace 4)) = true := by kernel_rfl
theorem pQueueNext_k11 : ((Rows.fnQueueNextRow.unfollowed == Try.prog.unfollowed 4)) = true := by kernel_rfl
theorem pQueueNext_k12 : ((Rows.fnQueueNextRow.recurses == Try.prog.recurses 4)) = true := by kernel_rfl
theorem pQueueNext_k13 : ((Rows.fnQueueNextRow.named == Try.prog.varsNamed 4)) = true := by kernel_rfl
theorem pQueueNext_k14 : ((Rows.fnQueueNextRow.maps == (Try.f4.params.toList ++ Rows.fnQueueNextSpec.plain.varTypes Try.prog).any (Try.prog.mapsRec ·))) = true := by kernel_rfl
theorem pQueueNext_k15 : ((Rows.fnQueueNextRow.ifaces == (Try.f4.params.toList ++ Rows.fnQueueNextSpec.plain.varTypes Try.prog).any (Try.prog.ifacesRec ·))) = true := by kernel_rfl
theorem pQueueNext_k16 : ((Rows.fnQueueNextRow.mapsOut == Try.prog.mapsAmong Try.f4.resultTypes.toList)) = true := by kernel_rfl
theorem pQueueNext_k17 : ((Rows.fnQueueNextRow.loops == (Try.f4.params.toList ++ Rows.fnQueueNextSpec.plain.varTypes Try.prog).any (Try.prog.loopsFrom ·))) = true := by kernel_rfl
theorem pQueueNext_k18 : ((Rows.fnQueueNextRow.wideKeys == (Try.f4.params.toList ++ Rows.fnQueueNextSpec.plain.varTypes Try.prog ++ Try.f4.resultTypes.toList).any (Try.prog.wideKeysFrom ·))) = true := by kernel_rfl
theorem pQueueNext_k19 : (Rows.fnQueueNextSpec.vars.all (Try.prog.varReadable ·)) = true := by kernel_rfl
theorem pQueueNext_k20 : (Try.f4.resultTypes.all (fun t => Try.prog.readableRec t && decide (t < Try.prog.types.size))) = true := by kernel_rfl
theorem pQueueNext_k21 : ((Rows.fnQueueNextRow.ifacesOut == Try.f4.resultTypes.toList.any (Try.prog.ifacesRec ·))) = true := by kernel_rfl
theorem pQueueNext_k22 : ((Rows.fnQueueNextRow.loopsOut == Try.f4.resultTypes.toList.any (Try.prog.loopsFrom ·))) = true := by kernel_rfl
theorem pQueueNext_k24 : (Rows.fnQueueNextRow.shortTexts.isNone) = true := by kernel_rfl
theorem pQueueNext_k30 : ((Rows.fnQueueNextRow.pinned == Rows.fnQueueNextRow.pinnedBy)) = true := by kernel_rfl
theorem pQueueNext_k31 : ((Rows.fnQueueNextRow.veiled == (Try.f4.params.toList ++ Rows.fnQueueNextSpec.plain.varTypes Try.prog ++ Try.f4.resultTypes.toList).any (Try.prog.veiledRec ·))) = true := by kernel_rfl
theorem pQueueNext_k32 : (Rows.fnQueueNextRow.veiledFits Try.prog Try.f4.params.toList (Try.f4.params.toList ++ Rows.fnQueueNextSpec.plain.varTypes Try.prog ++ Try.f4.resultTypes.toList)) = true := by kernel_rfl
theorem pQueueNext_closed : joinedFacts Try.prog 4 Try.f4 Rows.fnQueueNextSpec Rows.fnQueueNextRow = true :=
  facts_of pQueueNext_k1 Try.f_laid Try.f_maps pQueueNext_k4 pQueueNext_k5 pQueueNext_k6 Try.f_stops pQueueNext_k8 Try.f_knobs pQueueNext_k10 pQueueNext_k11 pQueueNext_k12 pQueueNext_k13 pQueueNext_k14 pQueueNext_k15 pQueueNext_k16 pQueueNext_k17 pQueueNext_k18 pQueueNext_k19 pQueueNext_k20 pQueueNext_k21 pQueueNext_k22 (by kernel_rfl) pQueueNext_k24 Try.f_heard Try.f_enter Try.f_lifts Try.f_make rfl rfl pQueueNext_k30 pQueueNext_k31 pQueueNext_k32

set_option maxRecDepth 100000 in
theorem pQueueNext_lifted (os : Os) (started : os.Started) (H : Type) (enc : TypeId × Value → H) :
    ReturnsInHanded {} Try.checked os 4 .any (Rows.fnQueueNextSpec.pre6 enc Try.prog Try.f4 Rows.fnQueueNextRow.domain false) (Rows.fnQueueNextSpec.post enc Try.prog Try.f4 false true false false) := by
  refine returnsInHanded_of_change (C := Try.checked) Try.own started (by kernel_rfl) Try.func4
    (ChangeSpec.witness6 (enc := enc) (C := Try.checked) false ⟨#[], #[.slice none 0 0], []⟩ 8 (by kernel_rfl) (by kernel_rfl) (by kernel_rfl) (by kernel_rfl)) ?_
  intro W base args ds gs before hval0 hW _ _
  have hval : ∀ (j : Nat) t v, Try.f4.params[j]? = some t → args[j]? = some v → Value.okWide Try.prog W .any base t v := hval0
  have hW' := hW
  obtain ⟨p, q, hA0, hV, rfl, _, _⟩ := hW
  have hA : DataW.TrodAll enc Try.prog W 0 (fun _ => true) true Try.f4.params.toList args.toList ds p := hA0
  rw [Try.params4] at hA hval
  obtain ⟨v0, d0, rfl, rfl, h0⟩ := trodAll_one hA
  obtain ⟨rfl, rfl⟩ := trodVars_none hV
  obtain ⟨A, n, c, rfl, m0, l0, b0⟩ := in_bytes Try.underlying22 Try.underlying5 (by kernel_rfl) (hval 0 _ v0 rfl rfl) h0
  refine (lawQueueNext A c n _ m0 l0 b0).mono fun e W' ⟨he, hb⟩ => ⟨_, he, ?_⟩
  exact law_post (tb := 4) Try.laidOut (by kernel_rfl) rfl Try.underlying4 rfl hW' rfl hb

theorem pQueueNext_holds : Rows.FnQueueNextSaid :=
  OpenClaim.holds_of_wide 4 Try.f4 rfl rfl rfl rfl rfl rfl rfl ⟨rfl, rfl, rfl, rfl, rfl⟩ rfl rfl rfl rfl rfl (by kernel_rfl) Try.func4 pQueueNext_closed
    (of_decide_eq_true (by kernel_rfl)) (by unfold Func.isWrapper; first | (rw [if_pos (by decide +kernel)]; kernel_rfl) | (rw [if_neg (by decide +kernel)]; exact ⟨rfl, rfl⟩))
    (fun os started H enc _ => pQueueNext_lifted os started H enc)
#print axioms pQueueNext_holds
end Go.Proofs.Ytgnemgnhjallhaa
