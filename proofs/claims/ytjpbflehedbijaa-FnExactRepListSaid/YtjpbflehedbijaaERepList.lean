/- The exact law of RepList holds of every keeper that comes in. -/
import Derived.Test.YtjpbflehedbijaaMB
import Derived.Test.YtjpbflehedbijaaFx
import Derived.Test.YtjpbflehedbijaaFy
import Derived.Test.YtjpbflehedbijaaFz
import Derived.Test.YtjpbflehedbijaaFw
import Derived.Test.YtjpbflehedbijaaRe
import Derived.Test.YtjpbflehedbijaaRg
namespace Go.Proofs.Ytjpbflehedbijaa
open Go.ChangeShapes Go.WideShapes Go.ChangeAt Go.RowKit Go.Deep

theorem xRepList_k1 : (Rows.fnExactRepListRow.wf (OpenSpec.ofChange Rows.fnExactRepListSpec)) = true := by kernel_rfl
theorem xRepList_k4 : (Try.f7.params.all (Try.prog.readableRec ·)) = true := by kernel_rfl
theorem xRepList_k5 : (namedTie Try.prog Rows.fnExactRepListRow.named Rows.fnExactRepListSpec.vars) = true := by kernel_rfl
theorem xRepList_k6 : ((Rows.fnExactRepListRow.stops == [])) = true := by kernel_rfl
theorem xRepList_k8 : ((Rows.fnExactRepListRow.knobs == [])) = true := by kernel_rfl
theorem xRepList_k10 : ((Rows.fnExactRepListRow.inPlace == Try.prog.inPlace 7)) = true := by kernel_rfl
theorem xRepList_k11 : ((Rows.fnExactRepListRow.unfollowed == Try.prog.unfollowed 7)) = true := by kernel_rfl
theorem xRepList_k12 : ((Rows.fnExactRepListRow.recurses == Try.prog.recurses 7)) = true := by kernel_rfl
theorem xRepList_k13 : ((Rows.fnExactRepListRow.named == Try.prog.varsNamed 7)) = true := by kernel_rfl
theorem xRepList_k14 : ((Rows.fnExactRepListRow.maps == (Try.f7.params.toList ++ Rows.fnExactRepListSpec.plain.varTypes Try.prog).any (Try.prog.mapsRec ·))) = true := by kernel_rfl
theorem xRepList_k15 : ((Rows.fnExactRepListRow.ifaces == (Try.f7.params.toList ++ Rows.fnExactRepListSpec.plain.varTypes Try.prog).any (Try.prog.ifacesRec ·))) = true := by kernel_rfl
theorem xRepList_k16 : ((Rows.fnExactRepListRow.mapsOut == Try.prog.mapsAmong Try.f7.resultTypes.toList)) = true := by kernel_rfl
theorem xRepList_k17 : ((Rows.fnExactRepListRow.loops == (Try.f7.params.toList ++ Rows.fnExactRepListSpec.plain.varTypes Try.prog).any (Try.prog.loopsFrom ·))) = true := by kernel_rfl
theorem xRepList_k18 : ((Rows.fnExactRepListRow.wideKeys == (Try.f7.params.toList ++ Rows.fnExactRepListSpec.plain.varTypes Try.prog ++ Try.f7.resultTypes.toList).any (Try.prog.wideKeysFrom ·))) = true := by kernel_rfl
theorem xRepList_k19 : (Rows.fnExactRepListSpec.vars.all (Try.prog.varReadable ·)) = true := by kernel_rfl
theorem xRepList_k20 : (Try.f7.resultTypes.all (fun t => Try.prog.readableRec t && decide (t < Try.prog.types.size))) = true := by kernel_rfl
theorem xRepList_k21 : ((Rows.fnExactRepListRow.ifacesOut == Try.f7.resultTypes.toList.any (Try.prog.ifacesRec ·))) = true := by kernel_rfl
theorem xRepList_k22 : ((Rows.fnExactRepListRow.loopsOut == Try.f7.resultTypes.toList.any (Try.prog.loopsFrom ·))) = true := by kernel_rfl
theorem xRepList_k24 : (Rows.fnExactRepListRow.shortTexts.isNone) = true := by kernel_rfl
theorem xRepList_k30 : ((Rows.fnExactRepListRow.pinned == Rows.fnExactRepListRow.pinnedBy)) = true := by kernel_rfl
theorem xRepList_k31 : ((Rows.fnExactRepListRow.veiled == (Try.f7.params.toList ++ Rows.fnExactRepListSpec.plain.varTypes Try.prog ++ Try.f7.resultTypes.toList).any (Try.prog.veiledRec ·))) = true := by kernel_rfl
theorem xRepList_k32 : (Rows.fnExactRepListRow.veiledFits Try.prog Try.f7.params.toList (Try.f7.params.toList ++ Rows.fnExactRepListSpec.plain.varTypes Try.prog ++ Try.f7.resultTypes.toList)) = true := by kernel_rfl
theorem xRepList_closed : joinedFacts Try.prog 7 Try.f7 Rows.fnExactRepListSpec Rows.fnExactRepListRow = true :=
  facts_of xRepList_k1 Try.f_laid Try.f_maps xRepList_k4 xRepList_k5 xRepList_k6 Try.f_stops xRepList_k8 Try.f_knobs xRepList_k10 xRepList_k11 xRepList_k12 xRepList_k13 xRepList_k14 xRepList_k15 xRepList_k16 xRepList_k17 xRepList_k18 xRepList_k19 xRepList_k20 xRepList_k21 xRepList_k22 (by kernel_rfl) xRepList_k24 Try.f_heard Try.f_enter Try.f_lifts Try.f_make rfl rfl xRepList_k30 xRepList_k31 xRepList_k32

set_option maxRecDepth 100000 in
theorem xRepList_lifted (os : Os) (started : os.Started) (H : Type) (enc : TypeId × Value → H) :
    ReturnsInHanded {} Try.checked os 7 .any (Rows.fnExactRepListSpec.pre6 enc Try.prog Try.f7 Rows.fnExactRepListRow.domain false) (Rows.fnExactRepListSpec.post enc Try.prog Try.f7 false true false false) := by
  refine returnsInHanded_of_change (C := Try.checked) Try.own started (by kernel_rfl) Try.func7
    (ChangeSpec.witness6 (enc := enc) (C := Try.checked) false ⟨#[], #[.agg #[.int .i64 0, .int .i64 0, .bool false, .int .i64 0, .slice none 0 0, .slice none 0 0, .slice none 0 0]], []⟩ 8 (by kernel_rfl) (by kernel_rfl) (by kernel_rfl) (by kernel_rfl)) ?_
  intro W base args ds gs before hval0 hW _ _
  have hval : ∀ (j : Nat) t v, Try.f7.params[j]? = some t → args[j]? = some v → Value.okWide Try.prog W .any base t v := hval0
  have hW' := hW
  obtain ⟨p, q, hA0, hV, rfl, _, _⟩ := hW
  have hA : DataW.TrodAll enc Try.prog W 0 (fun _ => true) true Try.f7.params.toList args.toList ds p := hA0
  rw [Try.params7] at hA hval
  obtain ⟨v0, d0, rfl, rfl, h0⟩ := trodAll_one hA
  obtain ⟨rfl, rfl⟩ := trodVars_none hV
  obtain ⟨p, rfl, r0⟩ := in_rep (hval 0 _ v0 rfl rfl) h0
  refine (exactRepList p _ r0).mono fun e W' ⟨he, hb⟩ => ⟨_, he, ?_⟩
  exact law_post (tb := 4) Try.laidOut (by kernel_rfl) rfl Try.underlying4 rfl hW' rfl hb

theorem xRepList_holds : Rows.FnExactRepListSaid :=
  OpenClaim.holds_of_wide 7 Try.f7 rfl rfl rfl rfl rfl rfl rfl ⟨rfl, rfl, rfl, rfl, rfl⟩ rfl rfl rfl rfl rfl (by kernel_rfl) Try.func7 xRepList_closed
    (of_decide_eq_true (by kernel_rfl)) (by unfold Func.isWrapper; first | (rw [if_pos (by decide +kernel)]; kernel_rfl) | (rw [if_neg (by decide +kernel)]; exact ⟨rfl, rfl⟩))
    (fun os started H enc _ => xRepList_lifted os started H enc)
#print axioms xRepList_holds
end Go.Proofs.Ytjpbflehedbijaa
