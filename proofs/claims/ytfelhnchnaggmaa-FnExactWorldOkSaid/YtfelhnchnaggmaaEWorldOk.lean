/- The exact law of WorldOk holds of every world that comes in. -/
import Derived.Test.YtfelhnchnaggmaaMB
import Derived.Test.YtfelhnchnaggmaaFx
import Derived.Test.YtfelhnchnaggmaaFy
import Derived.Test.YtfelhnchnaggmaaFz
import Derived.Test.YtfelhnchnaggmaaFw
import Derived.Test.YtfelhnchnaggmaaWf
import Derived.Test.YtfelhnchnaggmaaWe
namespace Go.Proofs.Ytfelhnchnaggmaa
open Go.ChangeShapes Go.WideShapes Go.ChangeAt Go.RowKit Go.Deep

theorem xWorldOk_k1 : (Rows.fnExactWorldOkRow.wf (OpenSpec.ofChange Rows.fnExactWorldOkSpec)) = true := by kernel_rfl
theorem xWorldOk_k4 : (Try.f4.params.all (Try.prog.readableRec ·)) = true := by kernel_rfl
theorem xWorldOk_k5 : (namedTie Try.prog Rows.fnExactWorldOkRow.named Rows.fnExactWorldOkSpec.vars) = true := by kernel_rfl
theorem xWorldOk_k6 : ((Rows.fnExactWorldOkRow.stops == [])) = true := by kernel_rfl
theorem xWorldOk_k8 : ((Rows.fnExactWorldOkRow.knobs == [])) = true := by kernel_rfl
theorem xWorldOk_k10 : ((Rows.fnExactWorldOkRow.inPlace == Try.prog.inPlace 4)) = true := by kernel_rfl
theorem xWorldOk_k11 : ((Rows.fnExactWorldOkRow.unfollowed == Try.prog.unfollowed 4)) = true := by kernel_rfl
theorem xWorldOk_k12 : ((Rows.fnExactWorldOkRow.recurses == Try.prog.recurses 4)) = true := by kernel_rfl
theorem xWorldOk_k13 : ((Rows.fnExactWorldOkRow.named == Try.prog.varsNamed 4)) = true := by kernel_rfl
theorem xWorldOk_k14 : ((Rows.fnExactWorldOkRow.maps == (Try.f4.params.toList ++ Rows.fnExactWorldOkSpec.plain.varTypes Try.prog).any (Try.prog.mapsRec ·))) = true := by kernel_rfl
theorem xWorldOk_k15 : ((Rows.fnExactWorldOkRow.ifaces == (Try.f4.params.toList ++ Rows.fnExactWorldOkSpec.plain.varTypes Try.prog).any (Try.prog.ifacesRec ·))) = true := by kernel_rfl
theorem xWorldOk_k16 : ((Rows.fnExactWorldOkRow.mapsOut == Try.prog.mapsAmong Try.f4.resultTypes.toList)) = true := by kernel_rfl
theorem xWorldOk_k17 : ((Rows.fnExactWorldOkRow.loops == (Try.f4.params.toList ++ Rows.fnExactWorldOkSpec.plain.varTypes Try.prog).any (Try.prog.loopsFrom ·))) = true := by kernel_rfl
theorem xWorldOk_k18 : ((Rows.fnExactWorldOkRow.wideKeys == (Try.f4.params.toList ++ Rows.fnExactWorldOkSpec.plain.varTypes Try.prog ++ Try.f4.resultTypes.toList).any (Try.prog.wideKeysFrom ·))) = true := by kernel_rfl
theorem xWorldOk_k19 : (Rows.fnExactWorldOkSpec.vars.all (Try.prog.varReadable ·)) = true := by kernel_rfl
theorem xWorldOk_k20 : (Try.f4.resultTypes.all (fun t => Try.prog.readableRec t && decide (t < Try.prog.types.size))) = true := by kernel_rfl
theorem xWorldOk_k21 : ((Rows.fnExactWorldOkRow.ifacesOut == Try.f4.resultTypes.toList.any (Try.prog.ifacesRec ·))) = true := by kernel_rfl
theorem xWorldOk_k22 : ((Rows.fnExactWorldOkRow.loopsOut == Try.f4.resultTypes.toList.any (Try.prog.loopsFrom ·))) = true := by kernel_rfl
theorem xWorldOk_k24 : (Rows.fnExactWorldOkRow.shortTexts.isNone) = true := by kernel_rfl
theorem xWorldOk_k30 : ((Rows.fnExactWorldOkRow.pinned == Rows.fnExactWorldOkRow.pinnedBy)) = true := by kernel_rfl
theorem xWorldOk_k31 : ((Rows.fnExactWorldOkRow.veiled == (Try.f4.params.toList ++ Rows.fnExactWorldOkSpec.plain.varTypes Try.prog ++ Try.f4.resultTypes.toList).any (Try.prog.veiledRec ·))) = true := by kernel_rfl
theorem xWorldOk_k32 : (Rows.fnExactWorldOkRow.veiledFits Try.prog Try.f4.params.toList (Try.f4.params.toList ++ Rows.fnExactWorldOkSpec.plain.varTypes Try.prog ++ Try.f4.resultTypes.toList)) = true := by kernel_rfl
theorem xWorldOk_closed : joinedFacts Try.prog 4 Try.f4 Rows.fnExactWorldOkSpec Rows.fnExactWorldOkRow = true :=
  facts_of xWorldOk_k1 Try.f_laid Try.f_maps xWorldOk_k4 xWorldOk_k5 xWorldOk_k6 Try.f_stops xWorldOk_k8 Try.f_knobs xWorldOk_k10 xWorldOk_k11 xWorldOk_k12 xWorldOk_k13 xWorldOk_k14 xWorldOk_k15 xWorldOk_k16 xWorldOk_k17 xWorldOk_k18 xWorldOk_k19 xWorldOk_k20 xWorldOk_k21 xWorldOk_k22 (by kernel_rfl) xWorldOk_k24 Try.f_heard Try.f_enter Try.f_lifts Try.f_make rfl rfl xWorldOk_k30 xWorldOk_k31 xWorldOk_k32

set_option maxRecDepth 100000 in
theorem xWorldOk_lifted (os : Os) (started : os.Started) (H : Type) (enc : TypeId × Value → H) :
    ReturnsInHanded {} Try.checked os 4 .any (Rows.fnExactWorldOkSpec.pre6 enc Try.prog Try.f4 Rows.fnExactWorldOkRow.domain false) (Rows.fnExactWorldOkSpec.post enc Try.prog Try.f4 false true false false) := by
  refine returnsInHanded_of_change (C := Try.checked) Try.own started (by kernel_rfl) Try.func4
    (ChangeSpec.witness6 (enc := enc) (C := Try.checked) false ⟨#[], #[.agg #[.int .i64 0, .slice none 0 0, .slice none 0 0]], []⟩ 8 (by kernel_rfl) (by kernel_rfl) (by kernel_rfl) (by kernel_rfl)) ?_
  intro W base args ds gs before hval0 hW _ _
  have hval : ∀ (j : Nat) t v, Try.f4.params[j]? = some t → args[j]? = some v → Value.okWide Try.prog W .any base t v := hval0
  have hW' := hW
  obtain ⟨p, q, hA0, hV, rfl, _, _⟩ := hW
  have hA : DataW.TrodAll enc Try.prog W 0 (fun _ => true) true Try.f4.params.toList args.toList ds p := hA0
  rw [Try.params4] at hA hval
  obtain ⟨v0, d0, rfl, rfl, h0⟩ := trodAll_one hA
  obtain ⟨rfl, rfl⟩ := trodVars_none hV
  obtain ⟨p, rfl, r0⟩ := in_world (hval 0 _ v0 rfl rfl) h0
  refine (exactWorldOk p _ r0).mono fun e W' ⟨he, hb⟩ => ⟨_, he, ?_⟩
  exact law_post (tb := 4) Try.laidOut (by kernel_rfl) rfl Try.underlying4 rfl hW' rfl hb

theorem xWorldOk_holds : Rows.FnExactWorldOkSaid :=
  OpenClaim.holds_of_wide 4 Try.f4 rfl rfl rfl rfl rfl rfl rfl ⟨rfl, rfl, rfl, rfl, rfl⟩ rfl rfl rfl rfl rfl (by kernel_rfl) Try.func4 xWorldOk_closed
    (of_decide_eq_true (by kernel_rfl)) (by unfold Func.isWrapper; first | (rw [if_pos (by decide +kernel)]; kernel_rfl) | (rw [if_neg (by decide +kernel)]; exact ⟨rfl, rfl⟩))
    (fun os started H enc _ => xWorldOk_lifted os started H enc)
#print axioms xWorldOk_holds
end Go.Proofs.Ytfelhnchnaggmaa
