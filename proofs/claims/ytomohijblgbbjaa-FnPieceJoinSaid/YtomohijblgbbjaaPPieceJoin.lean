/- What is joined is pieces again: of every code that comes in. -/
import Derived.Test.YtomohijblgbbjaaMB
import Derived.Test.YtomohijblgbbjaaFx
import Derived.Test.YtomohijblgbbjaaFy
import Derived.Test.YtomohijblgbbjaaFz
import Derived.Test.YtomohijblgbbjaaFw
import Derived.Test.YtomohijblgbbjaaMM
import Derived.Test.YtomohijblgbbjaaPl
namespace Go.Proofs.Ytomohijblgbbjaa
open Go.ChangeShapes Go.WideShapes Go.ChangeAt Go.RowKit Go.Deep

theorem pPieceJoin_k1 : (Rows.fnPieceJoinRow.wf (OpenSpec.ofChange Rows.fnPieceJoinSpec)) = true := by kernel_rfl
theorem pPieceJoin_k4 : (Try.f4.params.all (Try.prog.readableRec ·)) = true := by kernel_rfl
theorem pPieceJoin_k5 : (namedTie Try.prog Rows.fnPieceJoinRow.named Rows.fnPieceJoinSpec.vars) = true := by kernel_rfl
theorem pPieceJoin_k6 : ((Rows.fnPieceJoinRow.stops == [])) = true := by kernel_rfl
theorem pPieceJoin_k8 : ((Rows.fnPieceJoinRow.knobs == [])) = true := by kernel_rfl
theorem pPieceJoin_k10 : ((Rows.fnPieceJoinRow.inPlace == Try.prog.inPlace 4)) = true := by kernel_rfl
theorem pPieceJoin_k11 : ((Rows.fnPieceJoinRow.unfollowed == Try.prog.unfollowed 4)) = true := by kernel_rfl
theorem pPieceJoin_k12 : ((Rows.fnPieceJoinRow.recurses == Try.prog.recurses 4)) = true := by kernel_rfl
theorem pPieceJoin_k13 : ((Rows.fnPieceJoinRow.named == Try.prog.varsNamed 4)) = true := by kernel_rfl
theorem pPieceJoin_k14 : ((Rows.fnPieceJoinRow.maps == (Try.f4.params.toList ++ Rows.fnPieceJoinSpec.plain.varTypes Try.prog).any (Try.prog.mapsRec ·))) = true := by kernel_rfl
theorem pPieceJoin_k15 : ((Rows.fnPieceJoinRow.ifaces == (Try.f4.params.toList ++ Rows.fnPieceJoinSpec.plain.varTypes Try.prog).any (Try.prog.ifacesRec ·))) = true := by kernel_rfl
theorem pPieceJoin_k16 : ((Rows.fnPieceJoinRow.mapsOut == Try.prog.mapsAmong Try.f4.resultTypes.toList)) = true := by kernel_rfl
theorem pPieceJoin_k17 : ((Rows.fnPieceJoinRow.loops == (Try.f4.params.toList ++ Rows.fnPieceJoinSpec.plain.varTypes Try.prog).any (Try.prog.loopsFrom ·))) = true := by kernel_rfl
theorem pPieceJoin_k18 : ((Rows.fnPieceJoinRow.wideKeys == (Try.f4.params.toList ++ Rows.fnPieceJoinSpec.plain.varTypes Try.prog ++ Try.f4.resultTypes.toList).any (Try.prog.wideKeysFrom ·))) = true := by kernel_rfl
theorem pPieceJoin_k19 : (Rows.fnPieceJoinSpec.vars.all (Try.prog.varReadable ·)) = true := by kernel_rfl
theorem pPieceJoin_k20 : (Try.f4.resultTypes.all (fun t => Try.prog.readableRec t && decide (t < Try.prog.types.size))) = true := by kernel_rfl
theorem pPieceJoin_k21 : ((Rows.fnPieceJoinRow.ifacesOut == Try.f4.resultTypes.toList.any (Try.prog.ifacesRec ·))) = true := by kernel_rfl
theorem pPieceJoin_k22 : ((Rows.fnPieceJoinRow.loopsOut == Try.f4.resultTypes.toList.any (Try.prog.loopsFrom ·))) = true := by kernel_rfl
theorem pPieceJoin_k24 : (Rows.fnPieceJoinRow.shortTexts.isNone) = true := by kernel_rfl
theorem pPieceJoin_k30 : ((Rows.fnPieceJoinRow.pinned == Rows.fnPieceJoinRow.pinnedBy)) = true := by kernel_rfl
theorem pPieceJoin_k31 : ((Rows.fnPieceJoinRow.veiled == (Try.f4.params.toList ++ Rows.fnPieceJoinSpec.plain.varTypes Try.prog ++ Try.f4.resultTypes.toList).any (Try.prog.veiledRec ·))) = true := by kernel_rfl
theorem pPieceJoin_k32 : (Rows.fnPieceJoinRow.veiledFits Try.prog Try.f4.params.toList (Try.f4.params.toList ++ Rows.fnPieceJoinSpec.plain.varTypes Try.prog ++ Try.f4.resultTypes.toList)) = true := by kernel_rfl
theorem pPieceJoin_closed : joinedFacts Try.prog 4 Try.f4 Rows.fnPieceJoinSpec Rows.fnPieceJoinRow = true :=
  facts_of pPieceJoin_k1 Try.f_laid Try.f_maps pPieceJoin_k4 pPieceJoin_k5 pPieceJoin_k6 Try.f_stops pPieceJoin_k8 Try.f_knobs pPieceJoin_k10 pPieceJoin_k11 pPieceJoin_k12 pPieceJoin_k13 pPieceJoin_k14 pPieceJoin_k15 pPieceJoin_k16 pPieceJoin_k17 pPieceJoin_k18 pPieceJoin_k19 pPieceJoin_k20 pPieceJoin_k21 pPieceJoin_k22 (by kernel_rfl) pPieceJoin_k24 Try.f_heard Try.f_enter Try.f_lifts Try.f_make rfl rfl pPieceJoin_k30 pPieceJoin_k31 pPieceJoin_k32

set_option maxRecDepth 100000 in
theorem pPieceJoin_lifted (os : Os) (started : os.Started) (H : Type) (enc : TypeId × Value → H) :
    ReturnsInHanded {} Try.checked os 4 .any (Rows.fnPieceJoinSpec.pre6 enc Try.prog Try.f4 Rows.fnPieceJoinRow.domain false) (Rows.fnPieceJoinSpec.post enc Try.prog Try.f4 false true false false) := by
  refine returnsInHanded_of_change (C := Try.checked) Try.own started (by kernel_rfl) Try.func4
    (ChangeSpec.witness6 (enc := enc) (C := Try.checked) false ⟨#[], #[.slice none 0 0], []⟩ 8 (by kernel_rfl) (by kernel_rfl) (by kernel_rfl) (by kernel_rfl)) ?_
  intro W base args ds gs before hval0 hW _ _
  have hval : ∀ (j : Nat) t v, Try.f4.params[j]? = some t → args[j]? = some v → Value.okWide Try.prog W .any base t v := hval0
  have hW' := hW
  obtain ⟨p, q, hA0, hV, rfl, _, _⟩ := hW
  have hA : DataW.TrodAll enc Try.prog W 0 (fun _ => true) true Try.f4.params.toList args.toList ds p := hA0
  rw [Try.params4] at hA hval
  obtain ⟨v0, d0, rfl, rfl, h0⟩ := trodAll_one hA
  obtain ⟨rfl, rfl⟩ := trodVars_none hV
  obtain ⟨A, n, c, rfl, m0, l0, b0⟩ := in_bytes Try.underlying22 Try.underlying5 (by kernel_rfl) (hval 0 _ v0 rfl rfl) h0
  refine (lawPieceJoin A c n _ m0 l0 b0).mono fun e W' ⟨he, hb⟩ => ⟨_, he, ?_⟩
  exact law_post (tb := 4) Try.laidOut (by kernel_rfl) rfl Try.underlying4 rfl hW' rfl hb

theorem pPieceJoin_holds : Rows.FnPieceJoinSaid :=
  OpenClaim.holds_of_wide 4 Try.f4 rfl rfl rfl rfl rfl rfl rfl ⟨rfl, rfl, rfl, rfl, rfl⟩ rfl rfl rfl rfl rfl (by kernel_rfl) Try.func4 pPieceJoin_closed
    (of_decide_eq_true (by kernel_rfl)) (by unfold Func.isWrapper; first | (rw [if_pos (by decide +kernel)]; kernel_rfl) | (rw [if_neg (by decide +kernel)]; exact ⟨rfl, rfl⟩))
    (fun os started H enc _ => pPieceJoin_lifted os started H enc)
#print axioms pPieceJoin_holds
end Go.Proofs.Ytomohijblgbbjaa
