/- The exact law of WorldNew holds of every number. -/
import Derived.Test.YtfelhnchnaggmaaMB
import Derived.Test.YtfelhnchnaggmaaFx
import Derived.Test.YtfelhnchnaggmaaFy
import Derived.Test.YtfelhnchnaggmaaFz
import Derived.Test.YtfelhnchnaggmaaFw
import Derived.Test.YtfelhnchnaggmaaWf
import Derived.Test.YtfelhnchnaggmaaWk
namespace Go.Proofs.Ytfelhnchnaggmaa
open Go.ChangeShapes Go.WideShapes Go.ChangeAt Go.RowKit Go.Deep

theorem xWorldNew_k1 : (Rows.fnExactWorldNewRow.wf (OpenSpec.ofChange Rows.fnExactWorldNewSpec)) = true := by kernel_rfl
theorem xWorldNew_k4 : (Try.f5.params.all (Try.prog.readableRec ·)) = true := by kernel_rfl
theorem xWorldNew_k5 : (namedTie Try.prog Rows.fnExactWorldNewRow.named Rows.fnExactWorldNewSpec.vars) = true := by kernel_rfl
theorem xWorldNew_k6 : ((Rows.fnExactWorldNewRow.stops == [])) = true := by kernel_rfl
theorem xWorldNew_k8 : ((Rows.fnExactWorldNewRow.knobs == [])) = true := by kernel_rfl
theorem xWorldNew_k10 : ((Rows.fnExactWorldNewRow.inPlace == Try.prog.inPlace 5)) = true := by kernel_rfl
theorem xWorldNew_k11 : ((Rows.fnExactWorldNewRow.unfollowed == Try.prog.unfollowed 5)) = true := by kernel_rfl
theorem xWorldNew_k12 : ((Rows.fnExactWorldNewRow.recurses == Try.prog.recurses 5)) = true := by kernel_rfl
theorem xWorldNew_k13 : ((Rows.fnExactWorldNewRow.named == Try.prog.varsNamed 5)) = true := by kernel_rfl
theorem xWorldNew_k14 : ((Rows.fnExactWorldNewRow.maps == (Try.f5.params.toList ++ Rows.fnExactWorldNewSpec.plain.varTypes Try.prog).any (Try.prog.mapsRec ·))) = true := by kernel_rfl
theorem xWorldNew_k15 : ((Rows.fnExactWorldNewRow.ifaces == (Try.f5.params.toList ++ Rows.fnExactWorldNewSpec.plain.varTypes Try.prog).any (Try.prog.ifacesRec ·))) = true := by kernel_rfl
theorem xWorldNew_k16 : ((Rows.fnExactWorldNewRow.mapsOut == Try.prog.mapsAmong Try.f5.resultTypes.toList)) = true := by kernel_rfl
theorem xWorldNew_k17 : ((Rows.fnExactWorldNewRow.loops == (Try.f5.params.toList ++ Rows.fnExactWorldNewSpec.plain.varTypes Try.prog).any (Try.prog.loopsFrom ·))) = true := by kernel_rfl
theorem xWorldNew_k18 : ((Rows.fnExactWorldNewRow.wideKeys == (Try.f5.params.toList ++ Rows.fnExactWorldNewSpec.plain.varTypes Try.prog ++ Try.f5.resultTypes.toList).any (Try.prog.wideKeysFrom ·))) = true := by kernel_rfl
theorem xWorldNew_k19 : (Rows.fnExactWorldNewSpec.vars.all (Try.prog.varReadable ·)) = true := by kernel_rfl
theorem xWorldNew_k20 : (Try.f5.resultTypes.all (fun t => Try.prog.readableRec t && decide (t < Try.prog.types.size))) = true := by kernel_rfl
theorem xWorldNew_k21 : ((Rows.fnExactWorldNewRow.ifacesOut == Try.f5.resultTypes.toList.any (Try.prog.ifacesRec ·))) = true := by kernel_rfl
theorem xWorldNew_k22 : ((Rows.fnExactWorldNewRow.loopsOut == Try.f5.resultTypes.toList.any (Try.prog.loopsFrom ·))) = true := by kernel_rfl
theorem xWorldNew_k24 : (Rows.fnExactWorldNewRow.shortTexts.isNone) = true := by kernel_rfl
theorem xWorldNew_k30 : ((Rows.fnExactWorldNewRow.pinned == Rows.fnExactWorldNewRow.pinnedBy)) = true := by kernel_rfl
theorem xWorldNew_k31 : ((Rows.fnExactWorldNewRow.veiled == (Try.f5.params.toList ++ Rows.fnExactWorldNewSpec.plain.varTypes Try.prog ++ Try.f5.resultTypes.toList).any (Try.prog.veiledRec ·))) = true := by kernel_rfl
theorem xWorldNew_k32 : (Rows.fnExactWorldNewRow.veiledFits Try.prog Try.f5.params.toList (Try.f5.params.toList ++ Rows.fnExactWorldNewSpec.plain.varTypes Try.prog ++ Try.f5.resultTypes.toList)) = true := by kernel_rfl
theorem xWorldNew_closed : joinedFacts Try.prog 5 Try.f5 Rows.fnExactWorldNewSpec Rows.fnExactWorldNewRow = true :=
  facts_of xWorldNew_k1 Try.f_laid Try.f_maps xWorldNew_k4 xWorldNew_k5 xWorldNew_k6 Try.f_stops xWorldNew_k8 Try.f_knobs xWorldNew_k10 xWorldNew_k11 xWorldNew_k12 xWorldNew_k13 xWorldNew_k14 xWorldNew_k15 xWorldNew_k16 xWorldNew_k17 xWorldNew_k18 xWorldNew_k19 xWorldNew_k20 xWorldNew_k21 xWorldNew_k22 (by kernel_rfl) xWorldNew_k24 Try.f_heard Try.f_enter Try.f_lifts Try.f_make rfl rfl xWorldNew_k30 xWorldNew_k31 xWorldNew_k32

set_option maxRecDepth 100000 in
theorem xWorldNew_lifted (os : Os) (started : os.Started) (H : Type) (enc : TypeId × Value → H) :
    ReturnsInHanded {} Try.checked os 5 .any (Rows.fnExactWorldNewSpec.pre6 enc Try.prog Try.f5 Rows.fnExactWorldNewRow.domain false) (Rows.fnExactWorldNewSpec.post enc Try.prog Try.f5 false true false false) := by
  refine returnsInHanded_of_change (C := Try.checked) Try.own started (by kernel_rfl) Try.func5
    (ChangeSpec.witness6 (enc := enc) (C := Try.checked) false ⟨#[], #[.int .i64 0], []⟩ 8 (by kernel_rfl) (by kernel_rfl) (by kernel_rfl) (by kernel_rfl)) ?_
  intro W base args ds gs before hval0 hW _ _
  have hval : ∀ (j : Nat) t v, Try.f5.params[j]? = some t → args[j]? = some v → Value.okWide Try.prog W .any base t v := hval0
  have hW' := hW
  obtain ⟨p, q, hA0, hV, rfl, _, _⟩ := hW
  have hA : DataW.TrodAll enc Try.prog W 0 (fun _ => true) true Try.f5.params.toList args.toList ds p := hA0
  rw [Try.params5] at hA hval
  obtain ⟨v0, d0, rfl, rfl, h0⟩ := trodAll_one hA
  obtain ⟨rfl, rfl⟩ := trodVars_none hV
  obtain ⟨bad, rfl, _⟩ := open_int Try.underlying3 (hval 0 _ v0 rfl rfl) h0
  refine (exactWorldNew bad _).mono fun e W' ⟨he, hb⟩ => ⟨_, he, ?_⟩
  exact law_post (tb := 4) Try.laidOut (by kernel_rfl) rfl Try.underlying4 rfl hW' rfl hb

theorem xWorldNew_holds : Rows.FnExactWorldNewSaid :=
  OpenClaim.holds_of_wide 5 Try.f5 rfl rfl rfl rfl rfl rfl rfl ⟨rfl, rfl, rfl, rfl, rfl⟩ rfl rfl rfl rfl rfl (by kernel_rfl) Try.func5 xWorldNew_closed
    (of_decide_eq_true (by kernel_rfl)) (by unfold Func.isWrapper; first | (rw [if_pos (by decide +kernel)]; kernel_rfl) | (rw [if_neg (by decide +kernel)]; exact ⟨rfl, rfl⟩))
    (fun os started H enc _ => xWorldNew_lifted os started H enc)
#print axioms xWorldNew_holds
end Go.Proofs.Ytfelhnchnaggmaa
