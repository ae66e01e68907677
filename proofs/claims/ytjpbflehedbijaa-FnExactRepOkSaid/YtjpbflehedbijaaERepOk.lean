/- The exact law of RepOk holds of every keeper that comes in. -/
import Derived.Test.YtjpbflehedbijaaMB
import Derived.Test.YtjpbflehedbijaaFx
import Derived.Test.YtjpbflehedbijaaFy
import Derived.Test.YtjpbflehedbijaaFz
import Derived.Test.YtjpbflehedbijaaFw
import Derived.Test.YtjpbflehedbijaaRe
import Derived.Test.YtjpbflehedbijaaRd
namespace Go.Proofs.Ytjpbflehedbijaa
open Go.ChangeShapes Go.WideShapes Go.ChangeAt Go.RowKit Go.Deep

theorem xRepOk_k1 : (Rows.fnExactRepOkRow.wf (OpenSpec.ofChange Rows.fnExactRepOkSpec)) = true := by kernel_rfl
theorem xRepOk_k4 : (Try.f5.params.all (Try.prog.readableRec ·)) = true := by kernel_rfl
theorem xRepOk_k5 : (namedTie Try.prog Rows.fnExactRepOkRow.named Rows.fnExactRepOkSpec.vars) = true := by kernel_rfl
theorem xRepOk_k6 : ((Rows.fnExactRepOkRow.stops == [])) = true := by kernel_rfl
theorem xRepOk_k8 : ((Rows.fnExactRepOkRow.knobs == [])) = true := by kernel_rfl
theorem xRepOk_k10 : ((Rows.fnExactRepOkRow.inPlace == Try.prog.inPlace 5)) = true := by kernel_rfl
theorem xRepOk_k11 : ((Rows.fnExactRepOkRow.unfollowed == Try.prog.unfollowed 5)) = true := by kernel_rfl
theorem xRepOk_k12 : ((Rows.fnExactRepOkRow.recurses == Try.prog.recurses 5)) = true := by kernel_rfl
theorem xRepOk_k13 : ((Rows.fnExactRepOkRow.named == Try.prog.varsNamed 5)) = true := by kernel_rfl
theorem xRepOk_k14 : ((Rows.fnExactRepOkRow.maps == (Try.f5.params.toList ++ Rows.fnExactRepOkSpec.plain.varTypes Try.prog).any (Try.prog.mapsRec ·))) = true := by kernel_rfl
theorem xRepOk_k15 : ((Rows.fnExactRepOkRow.ifaces == (Try.f5.params.toList ++ Rows.fnExactRepOkSpec.plain.varTypes Try.prog).any (Try.prog.ifacesRec ·))) = true := by kernel_rfl
theorem xRepOk_k16 : ((Rows.fnExactRepOkRow.mapsOut == Try.prog.mapsAmong Try.f5.resultTypes.toList)) = true := by kernel_rfl
theorem xRepOk_k17 : ((Rows.fnExactRepOkRow.loops == (Try.f5.params.toList ++ Rows.fnExactRepOkSpec.plain.varTypes Try.prog).any (Try.prog.loopsFrom ·))) = true := by kernel_rfl
theorem xRepOk_k18 : ((Rows.fnExactRepOkRow.wideKeys == (Try.f5.params.toList ++ Rows.fnExactRepOkSpec.plain.varTypes Try.prog ++ Try.f5.resultTypes.toList).any (Try.prog.wideKeysFrom ·))) = true := by kernel_rfl
theorem xRepOk_k19 : (Rows.fnExactRepOkSpec.vars.all (Try.prog.varReadable ·)) = true := by kernel_rfl
theorem xRepOk_k20 : (Try.f5.resultTypes.all (fun t => Try.prog.readableRec t && decide (t < Try.prog.types.size))) = true := by kernel_rfl
theorem xRepOk_k21 : ((Rows.fnExactRepOkRow.ifacesOut == Try.f5.resultTypes.toList.any (Try.prog.ifacesRec ·))) = true := by kernel_rfl
theorem xRepOk_k22 : ((Rows.fnExactRepOkRow.loopsOut == Try.f5.resultTypes.toList.any (Try.prog.loopsFrom ·))) = true := by kernel_rfl
theorem xRepOk_k24 : (Rows.fnExactRepOkRow.shortTexts.isNone) = true := by kernel_rfl
theorem xRepOk_k30 : ((Rows.fnExactRepOkRow.pinned == Rows.fnExactRepOkRow.pinnedBy)) = true := by kernel_rfl
theorem xRepOk_k31 : ((Rows.fnExactRepOkRow.veiled == (Try.f5.params.toList ++ Rows.fnExactRepOkSpec.plain.varTypes Try.prog ++ Try.f5.resultTypes.toList).any (Try.prog.veiledRec ·))) = true := by kernel_rfl
theorem xRepOk_k32 : (Rows.fnExactRepOkRow.veiledFits Try.prog Try.f5.params.toList (Try.f5.params.toList ++ Rows.fnExactRepOkSpec.plain.varTypes Try.prog ++ Try.f5.resultTypes.toList)) = true := by kernel_rfl
theorem xRepOk_closed : joinedFacts Try.prog 5 Try.f5 Rows.fnExactRepOkSpec Rows.fnExactRepOkRow = true :=
  facts_of xRepOk_k1 Try.f_laid Try.f_maps xRepOk_k4 xRepOk_k5 xRepOk_k6 Try.f_stops xRepOk_k8 Try.f_knobs xRepOk_k10 xRepOk_k11 xRepOk_k12 xRepOk_k13 xRepOk_k14 xRepOk_k15 xRepOk_k16 xRepOk_k17 xRepOk_k18 xRepOk_k19 xRepOk_k20 xRepOk_k21 xRepOk_k22 (by kernel_rfl) xRepOk_k24 Try.f_heard Try.f_enter Try.f_lifts Try.f_make rfl rfl xRepOk_k30 xRepOk_k31 xRepOk_k32

set_option maxRecDepth 100000 in
theorem xRepOk_lifted (os : Os) (started : os.Started) (H : Type) (enc : TypeId × Value → H) :
    ReturnsInHanded {} Try.checked os 5 .any (Rows.fnExactRepOkSpec.pre6 enc Try.prog Try.f5 Rows.fnExactRepOkRow.domain false) (Rows.fnExactRepOkSpec.post enc Try.prog Try.f5 false true false false) := by
  refine returnsInHanded_of_change (C := Try.checked) Try.own started (by kernel_rfl) Try.func5
    (ChangeSpec.witness6 (enc := enc) (C := Try.checked) false ⟨#[], #[.agg #[.int .i64 0, .int .i64 0, .bool false, .int .i64 0, .slice none 0 0, .slice none 0 0, .slice none 0 0]], []⟩ 8 (by kernel_rfl) (by kernel_rfl) (by kernel_rfl) (by kernel_rfl)) ?_
  intro W base args ds gs before hval0 hW _ _
  have hval : ∀ (j : Nat) t v, Try.f5.params[j]? = some t → args[j]? = some v → Value.okWide Try.prog W .any base t v := hval0
  have hW' := hW
  obtain ⟨p, q, hA0, hV, rfl, _, _⟩ := hW
  have hA : DataW.TrodAll enc Try.prog W 0 (fun _ => true) true Try.f5.params.toList args.toList ds p := hA0
  rw [Try.params5] at hA hval
  obtain ⟨v0, d0, rfl, rfl, h0⟩ := trodAll_one hA
  obtain ⟨rfl, rfl⟩ := trodVars_none hV
  obtain ⟨p, rfl, r0⟩ := in_rep (hval 0 _ v0 rfl rfl) h0
  refine (exactRepOk p _ r0).mono fun e W' ⟨he, hb⟩ => ⟨_, he, ?_⟩
  exact law_post (tb := 4) Try.laidOut (by kernel_rfl) rfl Try.underlying4 rfl hW' rfl hb

theorem xRepOk_holds : Rows.FnExactRepOkSaid :=
  OpenClaim.holds_of_wide 5 Try.f5 rfl rfl rfl rfl rfl rfl rfl ⟨rfl, rfl, rfl, rfl, rfl⟩ rfl rfl rfl rfl rfl (by kernel_rfl) Try.func5 xRepOk_closed
    (of_decide_eq_true (by kernel_rfl)) (by unfold Func.isWrapper; first | (rw [if_pos (by decide +kernel)]; kernel_rfl) | (rw [if_neg (by decide +kernel)]; exact ⟨rfl, rfl⟩))
    (fun os started H enc _ => xRepOk_lifted os started H enc)
#print axioms xRepOk_holds
end Go.Proofs.Ytjpbflehedbijaa
