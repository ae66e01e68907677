/- The exact law of PieceOf holds of all that comes in. -/
import Derived.Test.YtfbfhgejclencaaMB
import Derived.Test.YtfbfhgejclencaaFx
import Derived.Test.YtfbfhgejclencaaFy
import Derived.Test.YtfbfhgejclencaaFz
import Derived.Test.YtfbfhgejclencaaFw
import Derived.Test.YtfbfhgejclencaaPc
namespace Go.Proofs.Ytfbfhgejclencaa
open Go.ChangeShapes Go.WideShapes Go.ChangeAt Go.RowKit Go.Deep

theorem xPieceOf_k1 : (Rows.fnExactPieceOfRow.wf (OpenSpec.ofChange Rows.fnExactPieceOfSpec)) = true := by kernel_rfl
theorem xPieceOf_k4 : (Try.f3.params.all (Try.prog.readableRec ·)) = true := by kernel_rfl
theorem xPieceOf_k5 : (namedTie Try.prog Rows.fnExactPieceOfRow.named Rows.fnExactPieceOfSpec.vars) = true := by kernel_rfl
theorem xPieceOf_k6 : ((Rows.fnExactPieceOfRow.stops == [])) = true := by kernel_rfl
theorem xPieceOf_k8 : ((Rows.fnExactPieceOfRow.knobs == [])) = true := by kernel_rfl
theorem xPieceOf_k10 : ((Rows.fnExactPieceOfRow.inPlace == Try.prog.inPlace 3)) = true := by kernel_rfl
theorem xPieceOf_k11 : ((Rows.fnExactPieceOfRow.unfollowed == Try.prog.unfollowed 3)) = true := by kernel_rfl
theorem xPieceOf_k12 : ((Rows.fnExactPieceOfRow.recurses == Try.prog.recurses 3)) = true := by kernel_rfl
theorem xPieceOf_k13 : ((Rows.fnExactPieceOfRow.named == Try.prog.varsNamed 3)) = true := by kernel_rfl
theorem xPieceOf_k14 : ((Rows.fnExactPieceOfRow.maps == (Try.f3.params.toList ++ Rows.fnExactPieceOfSpec.plain.varTypes Try.prog).any (Try.prog.mapsRec ·))) = true := by kernel_rfl
theorem xPieceOf_k15 : ((Rows.fnExactPieceOfRow.ifaces == (Try.f3.params.toList ++ Rows.fnExactPieceOfSpec.plain.varTypes Try.prog).any (Try.prog.ifacesRec ·))) = true := by kernel_rfl
theorem xPieceOf_k16 : ((Rows.fnExactPieceOfRow.mapsOut == Try.prog.mapsAmong Try.f3.resultTypes.toList)) = true := by kernel_rfl
theorem xPieceOf_k17 : ((Rows.fnExactPieceOfRow.loops == (Try.f3.params.toList ++ Rows.fnExactPieceOfSpec.plain.varTypes Try.prog).any (Try.prog.loopsFrom ·))) = true := by kernel_rfl
theorem xPieceOf_k18 : ((Rows.fnExactPieceOfRow.wideKeys == (Try.f3.params.toList ++ Rows.fnExactPieceOfSpec.plain.varTypes Try.prog ++ Try.f3.resultTypes.toList).any (Try.prog.wideKeysFrom ·))) = true := by kernel_rfl
theorem xPieceOf_k19 : (Rows.fnExactPieceOfSpec.vars.all (Try.prog.varReadable ·)) = true := by kernel_rfl
theorem xPieceOf_k20 : (Try.f3.resultTypes.all (fun t => Try.prog.readableRec t && decide (t < Try.prog.types.size))) = true := by kernel_rfl
theorem xPieceOf_k21 : ((Rows.fnExactPieceOfRow.ifacesOut == Try.f3.resultTypes.toList.any (Try.prog.ifacesRec ·))) = true := by kernel_rfl
theorem xPieceOf_k22 : ((Rows.fnExactPieceOfRow.loopsOut == Try.f3.resultTypes.toList.any (Try.prog.loopsFrom ·))) = true := by kernel_rfl
theorem xPieceOf_k24 : (Rows.fnExactPieceOfRow.shortTexts.isNone) = true := by kernel_rfl
theorem xPieceOf_k30 : ((Rows.fnExactPieceOfRow.pinned == Rows.fnExactPieceOfRow.pinnedBy)) = true := by kernel_rfl
theorem xPieceOf_k31 : ((Rows.fnExactPieceOfRow.veiled == (Try.f3.params.toList ++ Rows.fnExactPieceOfSpec.plain.varTypes Try.prog ++ Try.f3.resultTypes.toList).any (Try.prog.veiledRec ·))) = true := by kernel_rfl
theorem xPieceOf_k32 : (Rows.fnExactPieceOfRow.veiledFits Try.prog Try.f3.params.toList (Try.f3.params.toList ++ Rows.fnExactPieceOfSpec.plain.varTypes Try.prog ++ Try.f3.resultTypes.toList)) = true := by kernel_rfl
theorem xPieceOf_closed : joinedFacts Try.prog 3 Try.f3 Rows.fnExactPieceOfSpec Rows.fnExactPieceOfRow = true :=
  facts_of xPieceOf_k1 Try.f_laid Try.f_maps xPieceOf_k4 xPieceOf_k5 xPieceOf_k6 Try.f_stops xPieceOf_k8 Try.f_knobs xPieceOf_k10 xPieceOf_k11 xPieceOf_k12 xPieceOf_k13 xPieceOf_k14 xPieceOf_k15 xPieceOf_k16 xPieceOf_k17 xPieceOf_k18 xPieceOf_k19 xPieceOf_k20 xPieceOf_k21 xPieceOf_k22 (by kernel_rfl) xPieceOf_k24 Try.f_heard Try.f_enter Try.f_lifts Try.f_make rfl rfl xPieceOf_k30 xPieceOf_k31 xPieceOf_k32

set_option maxRecDepth 100000 in
theorem xPieceOf_lifted (os : Os) (started : os.Started) (H : Type) (enc : TypeId × Value → H) :
    ReturnsInHanded {} Try.checked os 3 .any (Rows.fnExactPieceOfSpec.pre6 enc Try.prog Try.f3 Rows.fnExactPieceOfRow.domain false) (Rows.fnExactPieceOfSpec.post enc Try.prog Try.f3 false true false false) := by
  refine returnsInHanded_of_change (C := Try.checked) Try.own started (by kernel_rfl) Try.func3
    (ChangeSpec.witness6 (enc := enc) (C := Try.checked) false ⟨#[], #[.string ⟨#[]⟩], []⟩ 8 (by kernel_rfl) (by kernel_rfl) (by kernel_rfl) (by kernel_rfl)) ?_
  intro W base args ds gs before hval0 hW _ _
  have hval : ∀ (j : Nat) t v, Try.f3.params[j]? = some t → args[j]? = some v → Value.okWide Try.prog W .any base t v := hval0
  have hW' := hW
  obtain ⟨p, q, hA0, hV, rfl, _, _⟩ := hW
  have hA : DataW.TrodAll enc Try.prog W 0 (fun _ => true) true Try.f3.params.toList args.toList ds p := hA0
  rw [Try.params3] at hA hval
  obtain ⟨v0, d0, rfl, rfl, h0⟩ := trodAll_one hA
  obtain ⟨rfl, rfl⟩ := trodVars_none hV
  obtain ⟨s, rfl, _, _, m0⟩ := ChangeMaps.open_string Try.underlying9 (hval 0 _ v0 rfl rfl) h0
  refine (exactPieceOf s _).mono fun e W' ⟨he, hb⟩ => ⟨_, he, ?_⟩
  exact law_post (tb := 4) Try.laidOut (by kernel_rfl) rfl Try.underlying4 rfl hW' rfl hb

theorem xPieceOf_holds : Rows.FnExactPieceOfSaid :=
  OpenClaim.holds_of_wide 3 Try.f3 rfl rfl rfl rfl rfl rfl rfl ⟨rfl, rfl, rfl, rfl, rfl⟩ rfl rfl rfl rfl rfl (by kernel_rfl) Try.func3 xPieceOf_closed
    (of_decide_eq_true (by kernel_rfl)) (by unfold Func.isWrapper; first | (rw [if_pos (by decide +kernel)]; kernel_rfl) | (rw [if_neg (by decide +kernel)]; exact ⟨rfl, rfl⟩))
    (fun os started H enc _ => xPieceOf_lifted os started H enc)
#print axioms xPieceOf_holds
end Go.Proofs.Ytfbfhgejclencaa
