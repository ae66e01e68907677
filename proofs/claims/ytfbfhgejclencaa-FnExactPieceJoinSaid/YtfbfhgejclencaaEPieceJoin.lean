/- The exact law of PieceJoin holds of all that comes in. -/
import Derived.Test.YtfbfhgejclencaaMB
import Derived.Test.YtfbfhgejclencaaFx
import Derived.Test.YtfbfhgejclencaaFy
import Derived.Test.YtfbfhgejclencaaFz
import Derived.Test.YtfbfhgejclencaaFw
import Derived.Test.YtfbfhgejclencaaPg
namespace Go.Proofs.Ytfbfhgejclencaa
open Go.ChangeShapes Go.WideShapes Go.ChangeAt Go.RowKit Go.Deep

theorem xPieceJoin_k1 : (Rows.fnExactPieceJoinRow.wf (OpenSpec.ofChange Rows.fnExactPieceJoinSpec)) = true := by kernel_rfl
theorem xPieceJoin_k4 : (Try.f4.params.all (Try.prog.readableRec ·)) = true := by kernel_rfl
theorem xPieceJoin_k5 : (namedTie Try.prog Rows.fnExactPieceJoinRow.named Rows.fnExactPieceJoinSpec.vars) = true := by kernel_rfl
theorem xPieceJoin_k6 : ((Rows.fnExactPieceJoinRow.stops == [])) = true := by kernel_rfl
theorem xPieceJoin_k8 : ((Rows.fnExactPieceJoinRow.knobs == [])) = true := by kernel_rfl
theorem xPieceJoin_k10 : ((Rows.fnExactPieceJoinRow.inPlace == Try.prog.inPlace 4)) = true := by kernel_rfl
theorem xPieceJoin_k11 : ((Rows.fnExactPieceJoinRow.unfollowed == Try.prog.unfollowed 4)) = true := by kernel_rfl
theorem xPieceJoin_k12 : ((Rows.fnExactPieceJoinRow.recurses == Try.prog.recurses 4)) = true := by kernel_rfl
theorem xPieceJoin_k13 : ((Rows.fnExactPieceJoinRow.named == Try.prog.varsNamed 4)) = true := by kernel_rfl
theorem xPieceJoin_k14 : ((Rows.fnExactPieceJoinRow.maps == (Try.f4.params.toList ++ Rows.fnExactPieceJoinSpec.plain.varTypes Try.prog).any (Try.prog.mapsRec ·))) = true := by kernel_rfl
theorem xPieceJoin_k15 : ((Rows.fnExactPieceJoinRow.ifaces == (Try.f4.params.toList ++ Rows.fnExactPieceJoinSpec.plain.varTypes Try.prog).any (Try.prog.ifacesRec ·))) = true := by kernel_rfl
theorem xPieceJoin_k16 : ((Rows.fnExactPieceJoinRow.mapsOut == Try.prog.mapsAmong Try.f4.resultTypes.toList)) = true := by kernel_rfl
theorem xPieceJoin_k17 : ((Rows.fnExactPieceJoinRow.loops == (Try.f4.params.toList ++ Rows.fnExactPieceJoinSpec.plain.varTypes Try.prog).any (Try.prog.loopsFrom ·))) = true := by kernel_rfl
theorem xPieceJoin_k18 : ((Rows.fnExactPieceJoinRow.wideKeys == (Try.f4.params.toList ++ Rows.fnExactPieceJoinSpec.plain.varTypes Try.prog ++ Try.f4.resultTypes.toList).any (Try.prog.wideKeysFrom ·))) = true := by kernel_rfl
theorem xPieceJoin_k19 : (Rows.fnExactPieceJoinSpec.vars.all (Try.prog.varReadable ·)) = true := by kernel_rfl
theorem xPieceJoin_k20 : (Try.f4.resultTypes.all (fun t => Try.prog.readableRec t && decide (t < Try.prog.types.size))) = true := by kernel_rfl
theorem xPieceJoin_k21 : ((Rows.fnExactPieceJoinRow.ifacesOut == Try.f4.resultTypes.toList.any (Try.prog.ifacesRec ·))) = true := by kernel_rfl
theorem xPieceJoin_k22 : ((Rows.fnExactPieceJoinRow.loopsOut == Try.f4.resultTypes.toList.any (Try.prog.loopsFrom ·))) = true := by kernel_rfl
theorem xPieceJoin_k24 : (Rows.fnExactPieceJoinRow.shortTexts.isNone) = true := by kernel_rfl
theorem xPieceJoin_k30 : ((Rows.fnExactPieceJoinRow.pinned == Rows.fnExactPieceJoinRow.pinnedBy)) = true := by kernel_rfl
theorem xPieceJoin_k31 : ((Rows.fnExactPieceJoinRow.veiled == (Try.f4.params.toList ++ Rows.fnExactPieceJoinSpec.plain.varTypes Try.prog ++ Try.f4.resultTypes.toList).any (Try.prog.veiledRec ·))) = true := by kernel_rfl
theorem xPieceJoin_k32 : (Rows.fnExactPieceJoinRow.veiledFits Try.prog Try.f4.params.toList (Try.f4.params.toList ++ Rows.fnExactPieceJoinSpec.plain.varTypes Try.prog ++ Try.f4.resultTypes.toList)) = true := by kernel_rfl
theorem xPieceJoin_closed : joinedFacts Try.prog 4 Try.f4 Rows.fnExactPieceJoinSpec Rows.fnExactPieceJoinRow = true :=
  facts_of xPieceJoin_k1 Try.f_laid Try.f_maps xPieceJoin_k4 xPieceJoin_k5 xPieceJoin_k6 Try.f_stops xPieceJoin_k8 Try.f_knobs xPieceJoin_k10 xPieceJoin_k11 xPieceJoin_k12 xPieceJoin_k13 xPieceJoin_k14 xPieceJoin_k15 xPieceJoin_k16 xPieceJoin_k17 xPieceJoin_k18 xPieceJoin_k19 xPieceJoin_k20 xPieceJoin_k21 xPieceJoin_k22 (by kernel_rfl) xPieceJoin_k24 Try.f_heard Try.f_enter Try.f_lifts Try.f_make rfl rfl xPieceJoin_k30 xPieceJoin_k31 xPieceJoin_k32

set_option maxRecDepth 100000 in
theorem xPieceJoin_lifted (os : Os) (started : os.Started) (H : Type) (enc : TypeId × Value → H) :
    ReturnsInHanded {} Try.checked os 4 .any (Rows.fnExactPieceJoinSpec.pre6 enc Try.prog Try.f4 Rows.fnExactPieceJoinRow.domain false) (Rows.fnExactPieceJoinSpec.post enc Try.prog Try.f4 false true false false) := by
  refine returnsInHanded_of_change (C := Try.checked) Try.own started (by kernel_rfl) Try.func4
    (ChangeSpec.witness6 (enc := enc) (C := Try.checked) false ⟨#[], #[.slice none 0 0], []⟩ 8 (by kernel_rfl) (by kernel_rfl) (by kernel_rfl) (by kernel_rfl)) ?_
  intro W base args ds gs before hval0 hW _ _
  have hval : ∀ (j : Nat) t v, Try.f4.params[j]? = some t → args[j]? = some v → Value.okWide Try.prog W .any base t v := hval0
  have hW' := hW
  obtain ⟨p, q, hA0, hV, rfl, _, _⟩ := hW
  have hA : DataW.TrodAll enc Try.prog W 0 (fun _ => true) true Try.f4.params.toList args.toList ds p := hA0
  rw [Try.params4] at hA hval
  obtain ⟨v0, d0, rfl, rfl, h0⟩ := trodAll_one hA
  obtain ⟨rfl, rfl⟩ := trodVars_none hV
  obtain ⟨A, c, D, rfl, m0, r0, s0⟩ := in_strings (hval 0 _ v0 rfl rfl) h0
  refine (exactPieceJoin D A c _ m0 s0 r0).mono fun e W' ⟨he, hb⟩ => ⟨_, he, ?_⟩
  exact law_post (tb := 4) Try.laidOut (by kernel_rfl) rfl Try.underlying4 rfl hW' rfl hb

theorem xPieceJoin_holds : Rows.FnExactPieceJoinSaid :=
  OpenClaim.holds_of_wide 4 Try.f4 rfl rfl rfl rfl rfl rfl rfl ⟨rfl, rfl, rfl, rfl, rfl⟩ rfl rfl rfl rfl rfl (by kernel_rfl) Try.func4 xPieceJoin_closed
    (of_decide_eq_true (by kernel_rfl)) (by unfold Func.isWrapper; first | (rw [if_pos (by decide +kernel)]; kernel_rfl) | (rw [if_neg (by decide +kernel)]; exact ⟨rfl, rfl⟩))
    (fun os started H enc _ => xPieceJoin_lifted os started H enc)
#print axioms xPieceJoin_holds
end Go.Proofs.Ytfbfhgejclencaa
