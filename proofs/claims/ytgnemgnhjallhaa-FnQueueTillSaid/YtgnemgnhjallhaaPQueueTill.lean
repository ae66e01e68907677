/- What is due till a time is taken, and nothing else: of every code that comes in. -/
import Derived.Test.YtgnemgnhjallhaaMB
import Derived.Test.YtgnemgnhjallhaaFx
import Derived.Test.YtgnemgnhjallhaaFy
import Derived.Test.YtgnemgnhjallhaaFz
import Derived.Test.YtgnemgnhjallhaaFw
import Derived.Test.YtgnemgnhjallhaaMM
import Derived.Test.YtgnemgnhjallhaaVx
namespace Go.Proofs.Ytgnemgnhjallhaa
open Go.ChangeShapes Go.WideShapes Go.ChangeAt Go.RowKit Go.Deep

theorem pQueueTill_k1 : (Rows.fnQueueTillRow.wf (OpenSpec.ofChange Rows.fnQueueTillSpec)) = true := by kernel_rfl
theorem pQueueTill_k4 : (Try.f5.params.all (Try.prog.readableRec ·)) = true := by kernel_rfl
theorem pQueueTill_k5 : (namedTie Try.prog Rows.fnQueueTillRow.named Rows.fnQueueTillSpec.vars) = true := by kernel_rfl
theorem pQueueTill_k6 : ((Rows.fnQueueTillRow.stops == [])) = true := by kernel_rfl
theorem pQueueTill_k8 : ((Rows.fnQueueTillRow.knobs == [])) = true := by kernel_rfl
theorem pQueueTill_k10 : ((Rows.fnQueueTillRow.inPlace == Try.prog.inPlace 5)) = true := by kernel_rfl
theorem pQueueTill_k11 : ((Rows.fnQueueTillRow.unfollowed == Try.prog.unfollowed 5)) = true := by kernel_rfl
theorem pQueueTill_k12 : ((Rows.fnQueueTillRow.recurses == Try.prog.recurses 5)) = true := by kernel_rfl
theorem pQueueTill_k13 : ((Rows.fnQueueTillRow.named == Try.prog.varsNamed 5)) = true := by kernel_rfl
theorem pQueueTill_k14 : ((Rows.fnQueueTillRow.maps == (Try.f5.params.toList ++ Rows.fnQueueTillSpec.plain.varTypes Try.prog).any (Try.prog.mapsRec ·))) = true := by kernel_rfl
theorem pQueueTill_k15 : ((Rows.fnQueueTillRow.ifaces == (Try.f5.params.toList ++ Rows.fnQueueTillSpec.plain.varTypes Try.prog).any (Try.prog.ifacesRec ·))) = true := by kernel_rfl
theorem pQueueTill_k16 : ((Rows.fnQueueTillRow.mapsOut == Try.prog.mapsAmong Try.f5.resultTypes.toList)) = true := by kernel_rfl
theorem pQueueTill_k17 : ((Rows.fnQueueTillRow.loops == (Try.f5.params.toList ++ Rows.fnQueueTillSpec.plain.varTypes Try.prog).any (Try.prog.loopsFrom ·))) = true := by kernel_rfl
theorem pQueueTill_k18 : ((Rows.fnQueueTillRow.wideKeys == (Try.f5.params.toList ++ Rows.fnQueueTillSpec.plain.varTypes Try.prog ++ Try.f5.resultTypes.toList).any (Try.prog.wideKeysFrom ·))) = true := by kernel_rfl
theorem pQueueTill_k19 : (Rows.fnQueueTillSpec.vars.all (Try.prog.varReadable ·)) = true := by kernel_rfl
theorem pQueueTill_k20 : (Try.f5.resultTypes.all (fun t => Try.prog.readableRec t && decide (t < Try.prog.types.size))) = true := by kernel_rfl
theorem pQueueTill_k21 : ((Rows.fnQueueTillRow.ifacesOut == Try.f5.resultTypes.toList.any (Try.prog.ifacesRec ·))) = true := by kernel_rfl
theorem pQueueTill_k22 : ((Rows.fnQueueTillRow.loopsOut == Try.f5.resultTypes.toList.any (Try.prog.loopsFrom ·))) = true := by kernel_rfl
theorem pQueueTill_k24 : (Rows.fnQueueTillRow.shortTexts.isNone) = true := by kernel_rfl
theorem pQueueTill_k30 : ((Rows.fnQueueTillRow.pinned == Rows.fnQueueTillRow.pinnedBy)) = true := by kernel_rfl
theorem pQueueTill_k31 : ((Rows.fnQueueTillRow.veiled == (Try.f5.params.toList ++ Rows.fnQueueTillSpec.plain.varTypes Try.prog ++ Try.f5.resultTypes.toList).any (Try.prog.veiledRec ·))) = true := by kernel_rfl
theorem pQueueTill_k32 : (Rows.fnQueueTillRow.veiledFits Try.prog Try.f5.params.toList (Try.f5.params.toList ++ Rows.fnQueueTillSpec.plain.varTypes Try.prog ++ Try.f5.resultTypes.toList)) = true := by kernel_rfl
theorem pQueueTill_closed : joinedFacts Try.prog 5 Try.f5 Rows.fnQueueTillSpec Rows.fnQueueTillRow = true :=
  facts_of pQueueTill_k1 Try.f_laid Try.f_maps pQueueTill_k4 pQueueTill_k5 pQueueTill_k6 Try.f_stops pQueueTill_k8 Try.f_knobs pQueueTill_k10 pQueueTill_k11 pQueueTill_k12 pQueueTill_k13 pQueueTill_k14 pQueueTill_k15 pQueueTill_k16 pQueueTill_k17 pQueueTill_k18 pQueueTill_k19 pQueueTill_k20 pQueueTill_k21 pQueueTill_k22 (by kernel_rfl) pQueueTill_k24 Try.f_heard Try.f_enter Try.f_lifts Try.f_make rfl rfl pQueueTill_k30 pQueueTill_k31 pQueueTill_k32

set_option maxRecDepth 100000 in
theorem pQueueTill_lifted (os : Os) (started : os.Started) (H : Type) (enc : TypeId × Value → H) :
    ReturnsInHanded {} Try.checked os 5 .any (Rows.fnQueueTillSpec.pre6 enc Try.prog Try.f5 Rows.fnQueueTillRow.domain false) (Rows.fnQueueTillSpec.post enc Try.prog Try.f5 false true false false) := by
  refine returnsInHanded_of_change (C := Try.checked) Try.own started (by kernel_rfl) Try.func5
    (ChangeSpec.witness6 (enc := enc) (C := Try.checked) false ⟨#[], #[.slice none 0 0], []⟩ 8 (by kernel_rfl) (by kernel_rfl) (by kernel_rfl) (by kernel_rfl)) ?_
  intro W base args ds gs before hval0 hW _ _
  have hval : ∀ (j : Nat) t v, Try.f5.params[j]? = some t → args[j]? = some v → Value.okWide Try.prog W .any base t v := hval0
  have hW' := hW
  obtain ⟨p, q, hA0, hV, rfl, _, _⟩ := hW
  have hA : DataW.TrodAll enc Try.prog W 0 (fun _ => true) true Try.f5.params.toList args.toList ds p := hA0
  rw [Try.params5] at hA hval
  obtain ⟨v0, d0, rfl, rfl, h0⟩ := trodAll_one hA
  obtain ⟨rfl, rfl⟩ := trodVars_none hV
  obtain ⟨A, n, c, rfl, m0, l0, b0⟩ := in_bytes Try.underlying22 Try.underlying5 (by kernel_rfl) (hval 0 _ v0 rfl rfl) h0
  refine (lawQueueTill A c n _ m0 l0 b0).mono fun e W' ⟨he, hb⟩ => ⟨_, he, ?_⟩
  exact law_post (tb := 4) Try.laidOut (by kernel_rfl) rfl Try.underlying4 rfl hW' rfl hb

theorem pQueueTill_holds : Rows.FnQueueTillSaid :=
  OpenClaim.holds_of_wide 5 Try.f5 rfl rfl rfl rfl rfl rfl rfl ⟨rfl, rfl, rfl, rfl, rfl⟩ rfl rfl rfl rfl rfl (by kernel_rfl) Try.func5 pQueueTill_closed
    (of_decide_eq_true (by kernel_rfl)) (by unfold Func.isWrapper; first | (rw [if_pos (by decide +kernel)]; kernel_rfl) | (rw [if_neg (by decide +kernel)]; exact ⟨rfl, rfl⟩))
    (fun os started H enc _ => pQueueTill_lifted os started H enc)
#print axioms pQueueTill_holds
end Go.Proofs.Ytgnemgnhjallhaa
