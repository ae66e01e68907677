/- The exact law of WorldAgree holds of every world that comes in. -/
import Derived.Test.YtfelhnchnaggmaaMB
import Derived.Test.YtfelhnchnaggmaaFx
import Derived.Test.YtfelhnchnaggmaaFy
import Derived.Test.YtfelhnchnaggmaaFz
import Derived.Test.YtfelhnchnaggmaaFw
import Derived.Test.YtfelhnchnaggmaaWf
import Derived.Test.YtfelhnchnaggmaaWn
namespace Go.Proofs.Ytfelhnchnaggmaa
open Go.ChangeShapes Go.WideShapes Go.ChangeAt Go.RowKit Go.Deep

theorem xWorldAgree_k1 : (Rows.fnExactWorldAgreeRow.wf (OpenSpec.ofChange Rows.fnExactWorldAgreeSpec)) = true := by kernel_rfl
theorem xWorldAgree_k4 : (Try.f6.params.all (Try.prog.readableRec ·)) = true := by kernel_rfl
theorem xWorldAgree_k5 : (namedTie Try.prog Rows.fnExactWorldAgreeRow.named Rows.fnExactWorldAgreeSpec.vars) = true := by kernel_rfl
theorem xWorldAgree_k6 : ((Rows.fnExactWorldAgreeRow.stops == [])) = true := by kernel_rfl
theorem xWorldAgree_k8 : ((Rows.fnExactWorldAgreeRow.knobs == [])) = true := by kernel_rfl
theorem xWorldAgree_k10 : ((Rows.fnExactWorldAgreeRow.inPlace == Try.prog.inPlace 6)) = true := by kernel_rfl
theorem xWorldAgree_k11 : ((Rows.fnExactWorldAgreeRow.unfollowed == Try.prog.unfollowed 6)) = true := by kernel_rfl
theorem xWorldAgree_k12 : ((Rows.fnExactWorldAgreeRow.recurses == Try.prog.recurses 6)) = true := by kernel_rfl
theorem xWorldAgree_k13 : ((Rows.fnExactWorldAgreeRow.named == Try.prog.varsNamed 6)) = true := by kernel_rfl
theorem xWorldAgree_k14 : ((Rows.fnExactWorldAgreeRow.maps == (Try.f6.params.toList ++ Rows.fnExactWorldAgreeSpec.plain.varTypes Try.prog).any (Try.prog.mapsRec ·))) = true := by kernel_rfl
theorem xWorldAgree_k15 : ((Rows.fnExactWorldAgreeRow.ifaces == (Try.f6.params.toList ++ Rows.fnExactWorldAgreeSpec.plain.varTypes Try.prog).any (Try.prog.ifacesRec ·))) = true := by kernel_rfl
theorem xWorldAgree_k16 : ((Rows.fnExactWorldAgreeRow.mapsOut == Try.prog.mapsAmong Try.f6.resultTypes.toList)) = true := by kernel_rfl
theorem xWorldAgree_k17 : ((Rows.fnExactWorldAgreeRow.loops == (Try.f6.params.toList ++ Rows.fnExactWorldAgreeSpec.plain.varTypes Try.prog).any (Try.prog.loopsFrom ·))) = true := by kernel_rfl
theorem xWorldAgree_k18 : ((Rows.fnExactWorldAgreeRow.wideKeys == (Try.f6.params.toList ++ Rows.fnExactWorldAgreeSpec.plain.varTypes Try.prog ++ Try.f6.resultTypes.toList).any (Try.prog.wideKeysFrom ·))) = true := by kernel_rfl
theorem xWorldAgree_k19 : (Rows.fnExactWorldAgreeSpec.vars.all (Try.prog.varReadable ·)) = true := by kernel_rfl
theorem xWorldAgree_k20 : (Try.f6.resultTypes.all (fun t => Try.prog.readableRec t && decide (t < Try.prog.types.size))) = true := by kernel_rfl
theorem xWorldAgree_k21 : ((Rows.fnExactWorldAgreeRow.ifacesOut == Try.f6.resultTypes.toList.any (Try.prog.ifacesRec ·))) = true := by kernel_rfl
theorem xWorldAgree_k22 : ((Rows.fnExactWorldAgreeRow.loopsOut == Try.f6.resultTypes.toList.any (Try.prog.loopsFrom ·))) = true := by kernel_rfl
theorem xWorldAgree_k24 : (Rows.fnExactWorldAgreeRow.shortTexts.isNone) = true := by kernel_rfl
theorem xWorldAgree_k30 : ((Rows.fnExactWorldAgreeRow.pinned == Rows.fnExactWorldAgreeRow.pinnedBy)) = true := by kernel_rfl
theorem xWorldAgree_k31 : ((Rows.fnExactWorldAgreeRow.veiled == (Try.f6.params.toList ++ Rows.fnExactWorldAgreeSpec.plain.varTypes Try.prog ++ Try.f6.resultTypes.toList).any (Try.prog.veiledRec ·))) = true := by kernel_rfl
theorem xWorldAgree_k32 : (Rows.fnExactWorldAgreeRow.veiledFits Try.prog Try.f6.params.toList (Try.f6.params.toList ++ Rows.fnExactWorldAgreeSpec.plain.varTypes Try.prog ++ Try.f6.resultTypes.toList)) = true := by kernel_rfl
theorem xWorldAgree_closed : joinedFacts Try.prog 6 Try.f6 Rows.fnExactWorldAgreeSpec Rows.fnExactWorldAgreeRow = true :=
  facts_of xWorldAgree_k1 Try.f_laid Try.f_maps xWorldAgree_k4 xWorldAgree_k5 xWorldAgree_k6 Try.f_stops xWorldAgree_k8 Try.f_knobs xWorldAgree_k10 xWorldAgree_k11 xWorldAgree_k12 xWorldAgree_k13 xWorldAgree_k14 xWorldAgree_k15 xWorldAgree_k16 xWorldAgree_k17 xWorldAgree_k18 xWorldAgree_k19 xWorldAgree_k20 xWorldAgree_k21 xWorldAgree_k22 (by kernel_rfl) xWorldAgree_k24 Try.f_heard Try.f_enter Try.f_lifts Try.f_make rfl rfl xWorldAgree_k30 xWorldAgree_k31 xWorldAgree_k32

set_option maxRecDepth 100000 in
theorem xWorldAgree_lifted (os : Os) (started : os.Started) (H : Type) (enc : TypeId × Value → H) :
    ReturnsInHanded {} Try.checked os 6 .any (Rows.fnExactWorldAgreeSpec.pre6 enc Try.prog Try.f6 Rows.fnExactWorldAgreeRow.domain false) (Rows.fnExactWorldAgreeSpec.post enc Try.prog Try.f6 false true false false) := by
  refine returnsInHanded_of_change (C := Try.checked) Try.own started (by kernel_rfl) Try.func6
    (ChangeSpec.witness6 (enc := enc) (C := Try.checked) false ⟨#[], #[.agg #[.int .i64 0, .slice none 0 0, .slice none 0 0]], []⟩ 8 (by kernel_rfl) (by kernel_rfl) (by kernel_rfl) (by kernel_rfl)) ?_
  intro W base args ds gs before hval0 hW _ _
  have hval : ∀ (j : Nat) t v, Try.f6.params[j]? = some t → args[j]? = some v → Value.okWide Try.prog W .any base t v := hval0
  have hW' := hW
  obtain ⟨p, q, hA0, hV, rfl, _, _⟩ := hW
  have hA : DataW.TrodAll enc Try.prog W 0 (fun _ => true) true Try.f6.params.toList args.toList ds p := hA0
  rw [Try.params6] at hA hval
  obtain ⟨v0, d0, rfl, rfl, h0⟩ := trodAll_one hA
  obtain ⟨rfl, rfl⟩ := trodVars_none hV
  obtain ⟨p, rfl, r0⟩ := in_world (hval 0 _ v0 rfl rfl) h0
  refine (exactWorldAgree p _ r0).mono fun e W' ⟨he, hb⟩ => ⟨_, he, ?_⟩
  exact law_post (tb := 4) Try.laidOut (by kernel_rfl) rfl Try.underlying4 rfl hW' rfl hb

theorem xWorldAgree_holds : Rows.FnExactWorldAgreeSaid :=
  OpenClaim.holds_of_wide 6 Try.f6 rfl rfl rfl rfl rfl rfl rfl ⟨rfl, rfl, rfl, rfl, rfl⟩ rfl rfl rfl rfl rfl (by kernel_rfl) Try.func6 xWorldAgree_closed
    (of_decide_eq_true (by kernel_rfl)) (by unfold Func.isWrapper; first | (rw [if_pos (by decide +kernel)]; kernel_rfl) | (rw [if_neg (by decide +kernel)]; exact ⟨rfl, rfl⟩))
    (fun os started H enc _ => xWorldAgree_lifted os started H enc)
#print axioms xWorldAgree_holds
end Go.Proofs.Ytfelhnchnaggmaa
