/- Requests are in order, at every two codes. No condition. -/
import Derived.Test.YtephmhgjhjheaaaLaw
import Derived.Test.YtephmhgjhjheaaaRq
import Derived.Test.YtephmhgjhjheaaaFx
import Derived.Test.YtephmhgjhjheaaaFy
import Derived.Test.YtephmhgjhjheaaaFz
import Derived.Test.YtephmhgjhjheaaaFw
import Derived.Test.YtephmhgjhjheaaaTv
namespace Go.Proofs.Ytephmhgjhjheaaa
open Go.ChangeShapes Go.WideShapes Go.ChangeAt Go.RowKit Go.Deep

theorem pReqLess_k1 : (Rows.fnReqLessRow.wf (OpenSpec.ofChange Rows.fnReqLessSpec)) = true := by kernel_rfl
theorem pReqLess_k4 : (Try.f3.params.all (Try.prog.readableRec ·)) = true := by kernel_rfl
theorem pReqLess_k5 : (namedTie Try.prog Rows.fnReqLessRow.named Rows.fnReqLessSpec.vars) = true := by kernel_rfl
theorem pReqLess_k6 : ((Rows.fnReqLessRow.stops == [])) = true := by kernel_rfl
theorem pReqLess_k8 : ((Rows.fnReqLessRow.knobs == [])) = true := by kernel_rfl
theorem pReqLess_k10 : ((Rows.fnReqLessRow.inPlace == Try.prog.inPlace 3)) = true := by kernel_rfl
theorem pReqLess_k11 : ((Rows.fnReqLessRow.unfollowed == Try.prog.unfollowed 3)) = true := by kernel_rfl
theorem pReqLess_k12 : ((Rows.fnReqLessRow.recurses == Try.prog.recurses 3)) = true := by kernel_rfl
theorem pReqLess_k13 : ((Rows.fnReqLessRow.named == Try.prog.varsNamed 3)) = true := by kernel_rfl
theorem pReqLess_k14 : ((Rows.fnReqLessRow.maps == (Try.f3.params.toList ++ Rows.fnReqLessSpec.plain.varTypes Try.prog).any (Try.prog.mapsRec ·))) = true := by kernel_rfl
theorem pReqLess_k15 : ((Rows.fnReqLessRow.ifaces == (Try.f3.params.toList ++ Rows.fnReqLessSpec.plain.varTypes Try.prog).any (Try.prog.ifacesRec ·))) = true := by kernel_rfl
theorem pReqLess_k16 : ((Rows.fnReqLessRow.mapsOut == Try.prog.mapsAmong Try.f3.resultTypes.toList)) = true := by kernel_rfl
theorem pReqLess_k17 : ((Rows.fnReqLessRow.loops == (Try.f3.params.toList ++ Rows.fnReqLessSpec.plain.varTypes Try.prog).any (Try.prog.loopsFrom ·))) = true := by kernel_rfl
theorem pReqLess_k18 : ((Rows.fnReqLessRow.wideKeys == (Try.f3.params.toList ++ Rows.fnReqLessSpec.plain.varTypes Try.prog ++ Try.f3.resultTypes.toList).any (Try.prog.wideKeysFrom ·))) = true := by kernel_rfl
theorem pReqLess_k19 : (Rows.fnReqLessSpec.vars.all (Try.prog.varReadable ·)) = true := by kernel_rfl
theorem pReqLess_k20 : (Try.f3.resultTypes.all (fun t => Try.prog.readableRec t && decide (t < Try.prog.types.size))) = true := by kernel_rfl
theorem pReqLess_k21 : ((Rows.fnReqLessRow.ifacesOut == Try.f3.resultTypes.toList.any (Try.prog.ifacesRec ·))) = true := by kernel_rfl
theorem pReqLess_k22 : ((Rows.fnReqLessRow.loopsOut == Try.f3.resultTypes.toList.any (Try.prog.loopsFrom ·))) = true := by kernel_rfl
theorem pReqLess_k24 : (Rows.fnReqLessRow.shortTexts.isNone) = true := by kernel_rfl
theorem pReqLess_k30 : ((Rows.fnReqLessRow.pinned == Rows.fnReqLessRow.pinnedBy)) = true := by kernel_rfl
theorem pReqLess_k31 : ((Rows.fnReqLessRow.veiled == (Try.f3.params.toList ++ Rows.fnReqLessSpec.plain.varTypes Try.prog ++ Try.f3.resultTypes.toList).any (Try.prog.veiledRec ·))) = true := by kernel_rfl
theorem pReqLess_k32 : (Rows.fnReqLessRow.veiledFits Try.prog Try.f3.params.toList (Try.f3.params.toList ++ Rows.fnReqLessSpec.plain.varTypes Try.prog ++ Try.f3.resultTypes.toList)) = true := by kernel_rfl
theorem pReqLess_closed : joinedFacts Try.prog 3 Try.f3 Rows.fnReqLessSpec Rows.fnReqLessRow = true :=
  facts_of pReqLess_k1 Try.f_laid Try.f_maps pReqLess_k4 pReqLess_k5 pReqLess_k6 Try.f_stops pReqLess_k8 Try.f_knobs pReqLess_k10 pReqLess_k11 pReqLess_k12 pReqLess_k13 pReqLess_k14 pReqLess_k15 pReqLess_k16 pReqLess_k17 pReqLess_k18 pReqLess_k19 pReqLess_k20 pReqLess_k21 pReqLess_k22 Try.f_keys pReqLess_k24 Try.f_heard Try.f_enter Try.f_lifts Try.f_make rfl rfl pReqLess_k30 pReqLess_k31 pReqLess_k32

set_option maxRecDepth 100000 in
theorem pReqLess_lifted (os : Os) (started : os.Started) (H : Type) (enc : TypeId × Value → H) :
    ReturnsInHanded {} Try.checked os 3 .any (Rows.fnReqLessSpec.pre6 enc Try.prog Try.f3 Rows.fnReqLessRow.domain false) (Rows.fnReqLessSpec.post enc Try.prog Try.f3 false true false false) := by
  refine returnsInHanded_of_change (C := Try.checked) Try.own started (by kernel_rfl) Try.func3
    (ChangeSpec.witness6 (enc := enc) (C := Try.checked) false ⟨#[], #[.slice none 0 0, .slice none 0 0], []⟩ 8 (by kernel_rfl) (by kernel_rfl) (by kernel_rfl) (by kernel_rfl)) ?_
  intro W base args ds gs before hval0 hW _ _
  have hval : ∀ (j : Nat) t v, Try.f3.params[j]? = some t → args[j]? = some v → Value.okWide Try.prog W .any base t v := hval0
  have hW' := hW
  obtain ⟨p, q, hA0, hV, rfl, _, _⟩ := hW
  have hA : DataW.TrodAll enc Try.prog W 0 (fun _ => true) true Try.f3.params.toList args.toList ds p := hA0
  rw [Try.params3] at hA hval
  obtain ⟨v0, v1, d0, d1, p0, p1, rfl, rfl, rfl, h0, h1⟩ := trodAll_two hA
  obtain ⟨rfl, rfl⟩ := trodVars_none hV
  obtain ⟨A, n, c, rfl, m0, l0, b0⟩ := in_bytes Try.underlying22 Try.underlying5 (by kernel_rfl) (hval 0 _ v0 rfl rfl) h0
  obtain ⟨B, m, d, rfl, m1, l1, b1⟩ := in_bytes Try.underlying22 Try.underlying5 (by kernel_rfl) (hval 1 _ v1 rfl rfl) h1
  refine (lawReqLess m0 m1 l0 l1 b0 b1).mono fun e W' ⟨he, hb⟩ => ⟨_, he, ?_⟩
  exact law_post (tb := 4) Try.laidOut (by kernel_rfl) rfl Try.underlying4 rfl hW' rfl hb

theorem pReqLess_holds : Rows.FnReqLessSaid :=
  OpenClaim.holds_of_wide 3 Try.f3 rfl rfl rfl rfl rfl rfl rfl ⟨rfl, rfl, rfl, rfl, rfl⟩ rfl rfl rfl rfl rfl (by kernel_rfl) Try.func3 pReqLess_closed
    (of_decide_eq_true (by kernel_rfl)) (by unfold Func.isWrapper; first | (rw [if_pos (by decide +kernel)]; kernel_rfl) | (rw [if_neg (by decide +kernel)]; exact ⟨rfl, rfl⟩))
    (fun os started H enc _ => pReqLess_lifted os started H enc)
#print axioms pReqLess_holds
end Go.Proofs.Ytephmhgjhjheaaa
