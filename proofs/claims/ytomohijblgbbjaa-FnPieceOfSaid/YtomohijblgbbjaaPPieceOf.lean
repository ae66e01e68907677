/- Pieces are joined again: of every code that comes in. -/
import Derived.Test.YtomohijblgbbjaaMB
import Derived.Test.YtomohijblgbbjaaFx
import Derived.Test.YtomohijblgbbjaaFy
import Derived.Test.YtomohijblgbbjaaFz
import Derived.Test.YtomohijblgbbjaaFw
import Derived.Test.YtomohijblgbbjaaMM
import Derived.Test.YtomohijblgbbjaaPk
namespace Go.Proofs.Ytomohijblgbbjaa
open Go.ChangeShapes Go.WideShapes Go.ChangeAt Go.RowKit Go.Deep

theorem pPieceOf_k1 : (Rows.fnPieceOfRow.wf (OpenSpec.ofChange Rows.fnPieceOfSpec)) = true := by kernel_rfl
theorem pPieceOf_k4 : (Try.f3.params.all (Try.prog.readableRec ·)) = true := by kernel_rfl
theorem pPieceOf_k5 : (namedTie Try.prog Rows.fnPieceOfRow.named Rows.fnPieceOfSpec.vars) = true := by kernel_rfl
theorem pPieceOf_k6 : ((Rows.fnPieceOfRow.stops == [])) = true := by kernel_rfl
theorem pPieceOf_k8 : ((Rows.fnPieceOfRow.knobs == [])) = true := by kernel_rfl
theorem pPieceOf_k10 : ((Rows.fnPieceOfRow.inPlace == Try.prog.inPlace 3)) = true := by kernel_rfl
theorem pPieceOf_k11 : ((Rows.fnPieceOfRow.unfollowed == Try.prog.unfollowed 3)) = true := by kernel_rfl
theorem pPieceOf_k12 : ((Rows.fnPieceOfRow.recurses == Try.prog.recurses 3)) = true := by kernel_rfl
theorem pPieceOf_k13 : ((Rows.fnPieceOfRow.named == Try.prog.varsNamed 3)) = true := by kernel_rfl
theorem pPieceOf_k14 : ((Rows.fnPieceOfRow.maps == (Try.f3.params.toList ++ Rows.fnPieceOfSpec.plain.varTypes Try.prog).any (Try.prog.mapsRec ·))) = true := by kernel_rfl
theorem pPieceOf_k15 : ((Rows.fnPieceOfRow.ifaces == (Try.f3.params.toList ++ Rows.fnPieceOfSpec.plain.varTypes Try.prog).any (Try.prog.ifacesRec ·))) = true := by kernel_rfl
theorem pPieceOf_k16 : ((Rows.fnPieceOfRow.mapsOut == Try.prog.mapsAmong Try.f3.resultTypes.toList)) = true := by kernel_rfl
theorem pPieceOf_k17 : ((Rows.fnPieceOfRow.loops == (Try.f3.params.toList ++ Rows.fnPieceOfSpec.plain.varTypes Try.prog).any (Try.prog.loopsFrom ·))) = true := by kernel_rfl
theorem pPieceOf_k18 : ((Rows.fnPieceOfRow.wideKeys == (Try.f3.params.toList ++ Rows.fnPieceOfSpec.plain.varTypes Try.prog ++ Try.f3.resultTypes.toList).any (Try.prog.wideKeysFrom ·))) = true := by kernel_rfl
theorem pPieceOf_k19 : (Rows.fnPieceOfSpec.vars.all (Try.prog.varReadable ·)) = true := by kernel_rfl
theorem pPieceOf_k20 : (Try.f3.resultTypes.all (fun t => Try.prog.readableRec t && decide (t < Try.prog.types.size))) = true := by kernel_rfl
theorem pPieceOf_k21 : ((Rows.fnPieceOfRow.ifacesOut == Try.f3.resultTypes.toList.any (Try.prog.ifacesRec ·))) = true := by kernel_rfl
theorem pPieceOf_k22 : ((Rows.fnPieceOfRow.loopsOut == Try.f3.resultTypes.toList.any (Try.prog.loopsFrom ·))) = true := by kernel_rfl
theorem pPieceOf_k24 : (Rows.fnPieceOfRow.shortTexts.isNone) = true := by kernel_rfl
theorem pPieceOf_k30 : ((Rows.fnPieceOfRow.pinned == Rows.fnPieceOfRow.pinnedBy)) = true := by kernel_rfl
theorem pPieceOf_k31 : ((Rows.fnPieceOfRow.veiled == (Try.f3.params.toList ++ Rows.fnPieceOfSpec.plain.varTypes Try.prog ++ Try.f3.resultTypes.toList).any (Try.prog.veiledRec ·))) = true := by kernel_rfl
theorem pPieceOf_k32 : (Rows.fnPieceOfRow.veiledFits Try.prog Try.f3.params.toList (Try.f3.params.toList ++ Rows.fnPieceOfSpec.plain.varTypes Try.prog ++ Try.f3.resultTypes.toList)) = true := by kernel_rfl
theorem pPieceOf_closed : joinedFacts Try.prog 3 Try.f3 Rows.fnPieceOfSpec Rows.fnPieceOfRow = true :=
  facts_of pPieceOf_k1 Try.f_laid Try.f_maps pPieceOf_k4 pPieceOf_k5 pPieceOf_k6 Try.f_stops pPieceOf_k8 Try.f_knobs pPieceOf_k10 pPieceOf_k11 pPieceOf_k12 pPieceOf_k13 pPieceOf_k14 pPieceOf_k15 pPieceOf_k16 pPieceOf_k17 pPieceOf_k18 pPieceOf_k19 pPieceOf_k20 pPieceOf_k21 pPieceOf_k22 (by kernel_rfl) pPieceOf_k24 Try.f_heard Try.f_enter Try.f_lifts Try.f_make rfl rfl pPieceOf_k30 pPieceOf_k31 pPieceOf_k32

set_option maxRecDepth 100000 in
theorem pPieceOf_lifted (os : Os) (started : os.Started) (H : Type) (enc : TypeId × Value → H) :
    ReturnsInHanded {} Try.checked os 3 .any (Rows.fnPieceOfSpec.pre6 enc Try.prog Try.f3 Rows.fnPieceOfRow.domain false) (Rows.fnPieceOfSpec.post enc Try.prog Try.f3 false true false false) := by
  refine returnsInHanded_of_change (C := Try.checked) Try.own started (by kernel_rfl) Try.func3
    (ChangeSpec.witness6 (enc := enc) (C := Try.checked) false ⟨#[], #[.slice none 0 0], []⟩ 8 (by kernel_rfl) (by kernel_rfl) (by kernel_rfl) (by kernel_rfl)) ?_
  intro W base args ds gs before hval0 hW _ _
  have hval : ∀ (j : Nat) t v, Try.f3.params[j]? = some t → args[j]? = some v → Value.okWide Try.prog W .any base t v := hval0
  have hW' := hW
  obtain ⟨p, q, hA0, hV, rfl, _, _⟩ := hW
  have hA : DataW.TrodAll enc Try.prog W 0 (fun _ => true) true Try.f3.params.toList args.toList ds p := hA0
  rw [Try.params3] at hA hval
  obtain ⟨v0, d0, rfl, rfl, h0⟩ := trodAll_one hA
  obtain ⟨rfl, rfl⟩ := trodVars_none hV
  obtain ⟨A, n, c, rfl, m0, l0, b0⟩ := in_bytes Try.underlying22 Try.underlying5 (by kernel_rfl) (hval 0 _ v0 rfl rfl) h0
  refine (lawPieceOf A c n _ m0 l0 b0).mono fun e W' ⟨he, hb⟩ => ⟨_, he, ?_⟩
  exact law_post (tb := 4) Try.laidOut (by kernel_rfl) rfl Try.underlying4 rfl hW' rfl hb

theorem pPieceOf_holds : Rows.FnPieceOfSaid :=
  OpenClaim.holds_of_wide 3 Try.f3 rfl rfl rfl rfl rfl rfl rfl ⟨rfl, rfl, rfl, rfl, rfl⟩ rfl rfl rfl rfl rfl (by kernel_rfl) Try.func3 pPieceOf_closed
    (of_decide_eq_true (by kernel_rfl)) (by unfold Func.isWrapper; first | (rw [if_pos (by decide +kernel)]; kernel_rfl) | (rw [if_neg (by decide +kernel)]; exact ⟨rfl, rfl⟩))
    (fun os started H enc _ => pPieceOf_lifted os started H enc)
#print axioms pPieceOf_holds
end Go.Proofs.Ytomohijblgbbjaa
