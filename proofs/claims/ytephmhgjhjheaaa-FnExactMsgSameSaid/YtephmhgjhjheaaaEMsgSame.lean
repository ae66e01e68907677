/- MsgSame, at every two letters: the program's answer is the model's, and the letters are as they were. No condition. -/
import Derived.Test.YtephmhgjhjheaaaLaw
import Derived.Test.YtephmhgjhjheaaaRq
import Derived.Test.YtephmhgjhjheaaaFx
import Derived.Test.YtephmhgjhjheaaaFy
import Derived.Test.YtephmhgjhjheaaaFz
import Derived.Test.YtephmhgjhjheaaaFw
import Derived.Test.YtephmhgjhjheaaaV
import Derived.Test.YtephmhgjhjheaaaUp
namespace Go.Proofs.Ytephmhgjhjheaaa
open Go.ChangeShapes Go.WideShapes Go.ChangeAt Go.RowKit Go.Deep

theorem xMsgSame_k1 : (Rows.fnExactMsgSameRow.wf (OpenSpec.ofChange Rows.fnExactMsgSameSpec)) = true := by kernel_rfl
theorem xMsgSame_k4 : (Try.f14.params.all (Try.prog.readableRec ·)) = true := by kernel_rfl
theorem xMsgSame_k5 : (namedTie Try.prog Rows.fnExactMsgSameRow.named Rows.fnExactMsgSameSpec.vars) = true := by kernel_rfl
theorem xMsgSame_k6 : ((Rows.fnExactMsgSameRow.stops == [])) = true := by kernel_rfl
theorem xMsgSame_k8 : ((Rows.fnExactMsgSameRow.knobs == [])) = true := by kernel_rfl
theorem xMsgSame_k10 : ((Rows.fnExactMsgSameRow.inPlace == Try.prog.inPlace 14)) = true := by kernel_rfl
theorem xMsgSame_k11 : ((Rows.fnExactMsgSameRow.unfollowed == Try.prog.unfollowed 14)) = true := by kernel_rfl
theorem xMsgSame_k12 : ((Rows.fnExactMsgSameRow.recurses == Try.prog.recurses 14)) = true := by kernel_rfl
theorem xMsgSame_k13 : ((Rows.fnExactMsgSameRow.named == Try.prog.varsNamed 14)) = true := by kernel_rfl
theorem xMsgSame_k14 : ((Rows.fnExactMsgSameRow.maps == (Try.f14.params.toList ++ Rows.fnExactMsgSameSpec.plain.varTypes Try.prog).any (Try.prog.mapsRec ·))) = true := by kernel_rfl
theorem xMsgSame_k15 : ((Rows.fnExactMsgSameRow.ifaces == (Try.f14.params.toList ++ Rows.fnExactMsgSameSpec.plain.varTypes Try.prog).any (Try.prog.ifacesRec ·))) = true := by kernel_rfl
theorem xMsgSame_k16 : ((Rows.fnExactMsgSameRow.mapsOut == Try.prog.mapsAmong Try.f14.resultTypes.toList)) = true := by kernel_rfl
theorem xMsgSame_k17 : ((Rows.fnExactMsgSameRow.loops == (Try.f14.params.toList ++ Rows.fnExactMsgSameSpec.plain.varTypes Try.prog).any (Try.prog.loopsFrom ·))) = true := by kernel_rfl
theorem xMsgSame_k18 : ((Rows.fnExactMsgSameRow.wideKeys == (Try.f14.params.toList ++ Rows.fnExactMsgSameSpec.plain.varTypes Try.prog ++ Try.f14.resultTypes.toList).any (Try.prog.wideKeysFrom ·))) = true := by kernel_rfl
theorem xMsgSame_k19 : (Rows.fnExactMsgSameSpec.vars.all (Try.prog.varReadable ·)) = true := by kernel_rfl
theorem xMsgSame_k20 : (Try.f14.resultTypes.all (fun t => Try.prog.readableRec t && decide (t < Try.prog.types.size))) = true := by kernel_rfl
theorem xMsgSame_k21 : ((Rows.fnExactMsgSameRow.ifacesOut == Try.f14.resultTypes.toList.any (Try.prog.ifacesRec ·))) = true := by kernel_rfl
theorem xMsgSame_k22 : ((Rows.fnExactMsgSameRow.loopsOut == Try.f14.resultTypes.toList.any (Try.prog.loopsFrom ·))) = true := by kernel_rfl
theorem xMsgSame_k24 : (Rows.fnExactMsgSameRow.shortTexts.isNone) = true := by kernel_rfl
theorem xMsgSame_k30 : ((Rows.fnExactMsgSameRow.pinned == Rows.fnExactMsgSameRow.pinnedBy)) = true := by kernel_rfl
theorem xMsgSame_k31 : ((Rows.fnExactMsgSameRow.veiled == (Try.f14.params.toList ++ Rows.fnExactMsgSameSpec.plain.varTypes Try.prog ++ Try.f14.resultTypes.toList).any (Try.prog.veiledRec ·))) = true := by kernel_rfl
theorem xMsgSame_k32 : (Rows.fnExactMsgSameRow.veiledFits Try.prog Try.f14.params.toList (Try.f14.params.toList ++ Rows.fnExactMsgSameSpec.plain.varTypes Try.prog ++ Try.f14.resultTypes.toList)) = true := by kernel_rfl
theorem xMsgSame_closed : joinedFacts Try.prog 14 Try.f14 Rows.fnExactMsgSameSpec Rows.fnExactMsgSameRow = true :=
  facts_of xMsgSame_k1 Try.f_laid Try.f_maps xMsgSame_k4 xMsgSame_k5 xMsgSame_k6 Try.f_stops xMsgSame_k8 Try.f_knobs xMsgSame_k10 xMsgSame_k11 xMsgSame_k12 xMsgSame_k13 xMsgSame_k14 xMsgSame_k15 xMsgSame_k16 xMsgSame_k17 xMsgSame_k18 xMsgSame_k19 xMsgSame_k20 xMsgSame_k21 xMsgSame_k22 Try.f_keys xMsgSame_k24 Try.f_heard Try.f_enter Try.f_lifts Try.f_make rfl rfl xMsgSame_k30 xMsgSame_k31 xMsgSame_k32

set_option maxRecDepth 100000 in
theorem xMsgSame_lifted (os : Os) (started : os.Started) (H : Type) (enc : TypeId × Value → H) :
    ReturnsInHanded {} Try.checked os 14 .any (Rows.fnExactMsgSameSpec.pre6 enc Try.prog Try.f14 Rows.fnExactMsgSameRow.domain false) (Rows.fnExactMsgSameSpec.post enc Try.prog Try.f14 false true false false) := by
  refine returnsInHanded_of_change (C := Try.checked) Try.own started (by kernel_rfl) Try.func14
    (ChangeSpec.witness6 (enc := enc) (C := Try.checked) false ⟨#[], #[.agg #[.int .i64 0, .int .i64 0, .int .i64 0, .int .i64 0, .int .i64 0, .int .i64 0, .int .i64 0, .int .i64 0, .int .i64 0, .slice none 0 0, .slice none 0 0], .agg #[.int .i64 0, .int .i64 0, .int .i64 0, .int .i64 0, .int .i64 0, .int .i64 0, .int .i64 0, .int .i64 0, .int .i64 0, .slice none 0 0, .slice none 0 0]], []⟩ 8 (by kernel_rfl) (by kernel_rfl) (by kernel_rfl) (by kernel_rfl)) ?_
  intro W base args ds gs before hval0 hW _ _
  have hval : ∀ (j : Nat) t v, Try.f14.params[j]? = some t → args[j]? = some v → Value.okWide Try.prog W .any base t v := hval0
  have hW' := hW
  obtain ⟨p, q, hA0, hV, rfl, _, _⟩ := hW
  have hA : DataW.TrodAll enc Try.prog W 0 (fun _ => true) true Try.f14.params.toList args.toList ds p := hA0
  rw [Try.params14] at hA hval
  obtain ⟨v0, v1, d0, d1, p0, p1, rfl, rfl, rfl, h0, h1⟩ := trodAll_two hA
  obtain ⟨rfl, rfl⟩ := trodVars_none hV
  obtain ⟨a, rfl, r0⟩ := in_msg (hval 0 _ v0 rfl rfl) h0
  obtain ⟨b, rfl, r1⟩ := in_msg (hval 1 _ v1 rfl rfl) h1
  refine (exactMsgSame a b W r0 r1).mono fun e W' ⟨he, hb⟩ => ⟨_, he, ?_⟩
  exact law_post (tb := 4) Try.laidOut (by kernel_rfl) rfl Try.underlying4 rfl hW' rfl hb

theorem xMsgSame_holds : Rows.FnExactMsgSameSaid :=
  OpenClaim.holds_of_wide 14 Try.f14 rfl rfl rfl rfl rfl rfl rfl ⟨rfl, rfl, rfl, rfl, rfl⟩ rfl rfl rfl rfl rfl (by kernel_rfl) Try.func14 xMsgSame_closed
    (of_decide_eq_true (by kernel_rfl)) (by unfold Func.isWrapper; first | (rw [if_pos (by decide +kernel)]; kernel_rfl) | (rw [if_neg (by decide +kernel)]; exact ⟨rfl, rfl⟩))
    (fun os started H enc _ => xMsgSame_lifted os started H enc)
#print axioms xMsgSame_holds
end Go.Proofs.Ytephmhgjhjheaaa
