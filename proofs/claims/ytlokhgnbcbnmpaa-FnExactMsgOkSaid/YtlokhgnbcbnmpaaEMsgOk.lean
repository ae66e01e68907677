/- The exact law of MsgOk holds of every letter that comes in. -/
import Derived.Test.YtlokhgnbcbnmpaaMB
import Derived.Test.YtlokhgnbcbnmpaaFx
import Derived.Test.YtlokhgnbcbnmpaaFy
import Derived.Test.YtlokhgnbcbnmpaaFz
import Derived.Test.YtlokhgnbcbnmpaaFw
import Derived.Test.YtlokhgnbcbnmpaaMG
import Derived.Test.YtlokhgnbcbnmpaaOh
namespace Go.Proofs.Ytlokhgnbcbnmpaa
open Go.ChangeShapes Go.WideShapes Go.ChangeAt Go.RowKit Go.Deep

theorem xMsgOk_k1 : (Rows.fnExactMsgOkRow.wf (OpenSpec.ofChange Rows.fnExactMsgOkSpec)) = true := by kernel_rfl
theorem xMsgOk_k4 : (Try.f3.params.all (Try.prog.readableRec ·)) = true := by kernel_rfl
theorem xMsgOk_k5 : (namedTie Try.prog Rows.fnExactMsgOkRow.named Rows.fnExactMsgOkSpec.vars) = true := by kernel_rfl
theorem xMsgOk_k6 : ((Rows.fnExactMsgOkRow.stops == [])) = true := by kernel_rfl
theorem xMsgOk_k8 : ((Rows.fnExactMsgOkRow.knobs == [])) = true := by kernel_rfl
theorem xMsgOk_k10 : ((Rows.fnExactMsgOkRow.inPlace == Try.prog.inPlace 3)) = true := by kernel_rfl
theorem xMsgOk_k11 : ((Rows.fnExactMsgOkRow.unfollowed == Try.prog.unfollowed 3)) = true := by kernel_rfl
theorem xMsgOk_k12 : ((Rows.fnExactMsgOkRow.recurses == Try.prog.recurses 3)) = true := by kernel_rfl
theorem xMsgOk_k13 : ((Rows.fnExactMsgOkRow.named == Try.prog.varsNamed 3)) = true := by kernel_rfl
theorem xMsgOk_k14 : ((Rows.fnExactMsgOkRow.maps == (Try.f3.params.toList ++ Rows.fnExactMsgOkSpec.plain.varTypes Try.prog).any (Try.prog.mapsRec ·))) = true := by kernel_rfl
theorem xMsgOk_k15 : ((Rows.fnExactMsgOkRow.ifaces == (Try.f3.params.toList ++ Rows.fnExactMsgOkSpec.plain.varTypes Try.prog).any (Try.prog.ifacesRec ·))) = true := by kernel_rfl
theorem xMsgOk_k16 : ((Rows.fnExactMsgOkRow.mapsOut == Try.prog.mapsAmong Try.f3.resultTypes.toList)) = true := by kernel_rfl
theorem xMsgOk_k17 : ((Rows.fnExactMsgOkRow.loops == (Try.f3.params.toList ++ Rows.fnExactMsgOkSpec.plain.varTypes Try.prog).any (Try.prog.loopsFrom ·))) = true := by kernel_rfl
theorem xMsgOk_k18 : ((Rows.fnExactMsgOkRow.wideKeys == (Try.f3.params.toList ++ Rows.fnExactMsgOkSpec.plain.varTypes Try.prog ++ Try.f3.resultTypes.toList).any (Try.prog.wideKeysFrom ·))) = true := by kernel_rfl
theorem xMsgOk_k19 : (Rows.fnExactMsgOkSpec.vars.all (Try.prog.varReadable ·)) = true := by kernel_rfl
theorem xMsgOk_k20 : (Try.f3.resultTypes.all (fun t => Try.prog.readableRec t && decide (t < Try.prog.types.size))) = true := by kernel_rfl
theorem xMsgOk_k21 : ((Rows.fnExactMsgOkRow.ifacesOut == Try.f3.resultTypes.toList.any (Try.prog.ifacesRec ·))) = true := by kernel_rfl
theorem xMsgOk_k22 : ((Rows.fnExactMsgOkRow.loopsOut == Try.f3.resultTypes.toList.any (Try.prog.loopsFrom ·))) = true := by kernel_rfl
theorem xMsgOk_k24 : (Rows.fnExactMsgOkRow.shortTexts.isNone) = true := by kernel_rfl
theorem xMsgOk_k30 : ((Rows.fnExactMsgOkRow.pinned == Rows.fnExactMsgOkRow.pinnedBy)) = true := by kernel_rfl
theorem xMsgOk_k31 : ((Rows.fnExactMsgOkRow.veiled == (Try.f3.params.toList ++ Rows.fnExactMsgOkSpec.plain.varTypes Try.prog ++ Try.f3.resultTypes.toList).any (Try.prog.veiledRec ·))) = true := by kernel_rfl
theorem xMsgOk_k32 : (Rows.fnExactMsgOkRow.veiledFits Try.prog Try.f3.params.toList (Try.f3.params.toList ++ Rows.fnExactMsgOkSpec.plain.varTypes Try.prog ++ Try.f3.resultTypes.toList)) = true := by kernel_rfl
theorem xMsgOk_closed : joinedFacts Try.prog 3 Try.f3 Rows.fnExactMsgOkSpec Rows.fnExactMsgOkRow = true :=
  facts_of xMsgOk_k1 Try.f_laid Try.f_maps xMsgOk_k4 xMsgOk_k5 xMsgOk_k6 Try.f_stops xMsgOk_k8 Try.f_knobs xMsgOk_k10 xMsgOk_k11 xMsgOk_k12 xMsgOk_k13 xMsgOk_k14 xMsgOk_k15 xMsgOk_k16 xMsgOk_k17 xMsgOk_k18 xMsgOk_k19 xMsgOk_k20 xMsgOk_k21 xMsgOk_k22 Try.f_keys xMsgOk_k24 Try.f_heard Try.f_enter Try.f_lifts Try.f_make rfl rfl xMsgOk_k30 xMsgOk_k31 xMsgOk_k32

set_option maxRecDepth 100000 in
theorem xMsgOk_lifted (os : Os) (started : os.Started) (H : Type) (enc : TypeId × Value → H) :
    ReturnsInHanded {} Try.checked os 3 .any (Rows.fnExactMsgOkSpec.pre6 enc Try.prog Try.f3 Rows.fnExactMsgOkRow.domain false) (Rows.fnExactMsgOkSpec.post enc Try.prog Try.f3 false true false false) := by
  refine returnsInHanded_of_change (C := Try.checked) Try.own started (by kernel_rfl) Try.func3
    (ChangeSpec.witness6 (enc := enc) (C := Try.checked) false ⟨#[], #[.agg #[.int .i64 0, .int .i64 0, .int .i64 0, .int .i64 0, .int .i64 0, .int .i64 0, .int .i64 0, .int .i64 0, .int .i64 0, .slice none 0 0, .slice none 0 0]], []⟩ 8 (by kernel_rfl) (by kernel_rfl) (by kernel_rfl) (by kernel_rfl)) ?_
  intro W base args ds gs before hval0 hW _ _
  have hval : ∀ (j : Nat) t v, Try.f3.params[j]? = some t → args[j]? = some v → Value.okWide Try.prog W .any base t v := hval0
  have hW' := hW
  obtain ⟨p, q, hA0, hV, rfl, _, _⟩ := hW
  have hA : DataW.TrodAll enc Try.prog W 0 (fun _ => true) true Try.f3.params.toList args.toList ds p := hA0
  rw [Try.params3] at hA hval
  obtain ⟨v0, d0, rfl, rfl, h0⟩ := trodAll_one hA
  obtain ⟨rfl, rfl⟩ := trodVars_none hV
  obtain ⟨p, rfl, r0⟩ := in_msg (hval 0 _ v0 rfl rfl) h0
  refine (exactMsgOk p _ r0).mono fun e W' ⟨he, hb⟩ => ⟨_, he, ?_⟩
  exact law_post (tb := 4) Try.laidOut (by kernel_rfl) rfl Try.underlying4 rfl hW' rfl hb

theorem xMsgOk_holds : Rows.FnExactMsgOkSaid :=
  OpenClaim.holds_of_wide 3 Try.f3 rfl rfl rfl rfl rfl rfl rfl ⟨rfl, rfl, rfl, rfl, rfl⟩ rfl rfl rfl rfl rfl (by kernel_rfl) Try.func3 xMsgOk_closed
    (of_decide_eq_true (by kernel_rfl)) (by unfold Func.isWrapper; first | (rw [if_pos (by decide +kernel)]; kernel_rfl) | (rw [if_neg (by decide +kernel)]; exact ⟨rfl, rfl⟩))
    (fun os started H enc _ => xMsgOk_lifted os started H enc)
#print axioms xMsgOk_holds
end Go.Proofs.Ytlokhgnbcbnmpaa
