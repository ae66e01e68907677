/- The exact law of RepNew holds of every number. -/
import Derived.Test.YtjpbflehedbijaaMB
import Derived.Test.YtjpbflehedbijaaFx
import Derived.Test.YtjpbflehedbijaaFy
import Derived.Test.YtjpbflehedbijaaFz
import Derived.Test.YtjpbflehedbijaaFw
import Derived.Test.YtjpbflehedbijaaRe
import Derived.Test.YtjpbflehedbijaaRd
namespace Go.Proofs.Ytjpbflehedbijaa
open Go.ChangeShapes Go.WideShapes Go.ChangeAt Go.RowKit Go.Deep

theorem xRepNew_k1 : (Rows.fnExactRepNewRow.wf (OpenSpec.ofChange Rows.fnExactRepNewSpec)) = true := by kernel_rfl
theorem xRepNew_k4 : (Try.f6.params.all (Try.prog.readableRec ·)) = true := by kernel_rfl
theorem xRepNew_k5 : (namedTie Try.prog Rows.fnExactRepNewRow.named Rows.fnExactRepNewSpec.vars) = true := by kernel_rfl
theorem xRepNew_k6 : ((Rows.fnExactRepNewRow.stops == [])) = true := by kernel_rfl
theorem xRepNew_k8 : ((Rows.fnExactRepNewRow.knobs == [])) = true := by kernel_rfl
theorem xRepNew_k10 : ((Rows.fnExactRepNewRow.inPlace == Try.prog.inPlace 6)) = true := by kernel_rfl
theorem xRepNew_k11 : ((Rows.fnExactRepNewRow.unfollowed == Try.prog.unfollowed 6)) = true := by kernel_rfl
theorem xRepNew_k12 : ((Rows.fnExactRepNewRow.recurses == Try.prog.recurses 6)) = true := by kernel_rfl
theorem xRepNew_k13 : ((Rows.fnExactRepNewRow.named == Try.prog.varsNamed 6)) = true := by kernel_rfl
theorem xRepNew_k14 : ((Rows.fnExactRepNewRow.maps == (Try.f6.params.toList ++ Rows.fnExactRepNewSpec.plain.varTypes Try.prog).any (Try.prog.mapsRec ·))) = true := by kernel_rfl
theorem xRepNew_k15 : ((Rows.fnExactRepNewRow.ifaces == (Try.f6.params.toList ++ Rows.fnExactRepNewSpec.plain.varTypes Try.prog).any (Try.prog.ifacesRec ·))) = true := by kernel_rfl
theorem xRepNew_k16 : ((Rows.fnExactRepNewRow.mapsOut == Try.prog.mapsAmong Try.f6.resultTypes.toList)) = true := by kernel_rfl
theorem xRepNew_k17 : ((Rows.fnExactRepNewRow.loops == (Try.f6.params.toList ++ Rows.fnExactRepNewSpec.plain.varTypes Try.prog).any (Try.prog.loopsFrom ·))) = true := by kernel_rfl
theorem xRepNew_k18 : ((Rows.fnExactRepNewRow.wideKeys == (Try.f6.params.toList ++ Rows.fnExactRepNewSpec.plain.varTypes Try.prog ++ Try.f6.resultTypes.toList).any (Try.prog.wideKeysFrom ·))) = true := by kernel_rfl
theorem xRepNew_k19 : (Rows.fnExactRepNewSpec.vars.all (Try.prog.varReadable ·)) = true := by kernel_rfl
theorem xRepNew_k20 : (Try.f6.resultTypes.all (fun t => Try.prog.readableRec t && decide (t < Try.prog.types.size))) = true := by kernel_rfl
theorem xRepNew_k21 : ((Rows.fnExactRepNewRow.ifacesOut == Try.f6.resultTypes.toList.any (Try.prog.ifacesRec ·))) = true := by kernel_rfl
theorem xRepNew_k22 : ((Rows.fnExactRepNewRow.loopsOut == Try.f6.resultTypes.toList.any (Try.prog.loopsFrom ·))) = true := by kernel_rfl
theorem xRepNew_k24 : (Rows.fnExactRepNewRow.shortTexts.isNone) = true := by kernel_rfl
theorem xRepNew_k30 : ((Rows.fnExactRepNewRow.pinned == Rows.fnExactRepNewRow.pinnedBy)) = true := by kernel_rfl
theorem xRepNew_k31 : ((Rows.fnExactRepNewRow.veiled == (Try.f6.params.toList ++ Rows.fnExactRepNewSpec.plain.varTypes Try.prog ++ Try.f6.resultTypes.toList).any (Try.prog.veiledRec ·))) = true := by kernel_rfl
theorem xRepNew_k32 : (Rows.fnExactRepNewRow.veiledFits Try.prog Try.f6.params.toList (Try.f6.params.toList ++ Rows.fnExactRepNewSpec.plain.varTypes Try.prog ++ Try.f6.resultTypes.toList)) = true := by kernel_rfl
theorem xRepNew_closed : joinedFacts Try.prog 6 Try.f6 Rows.fnExactRepNewSpec Rows.fnExactRepNewRow = true :=
  facts_of xRepNew_k1 Try.f_laid Try.f_maps xRepNew_k4 xRepNew_k5 xRepNew_k6 Try.f_stops xRepNew_k8 Try.f_knobs xRepNew_k10 xRepNew_k11 xRepNew_k12 xRepNew_k13 xRepNew_k14 xRepNew_k15 xRepNew_k16 xRepNew_k17 xRepNew_k18 xRepNew_k19 xRepNew_k20 xRepNew_k21 xRepNew_k22 (by kernel_rfl) xRepNew_k24 Try.f_heard Try.f_enter Try.f_lifts Try.f_make rfl rfl xRepNew_k30 xRepNew_k31 xRepNew_k32

set_option maxRecDepth 100000 in
theorem xRepNew_lifted (os : Os) (started : os.Started) (H : Type) (enc : TypeId × Value → H) :
    ReturnsInHanded {} Try.checked os 6 .any (Rows.fnExactRepNewSpec.pre6 enc Try.prog Try.f6 Rows.fnExactRepNewRow.domain false) (Rows.fnExactRepNewSpec.post enc Try.prog Try.f6 false true false false) := by
  refine returnsInHanded_of_change (C := Try.checked) Try.own started (by kernel_rfl) Try.func6
    (ChangeSpec.witness6 (enc := enc) (C := Try.checked) false ⟨#[], #[.int .i64 0], []⟩ 8 (by kernel_rfl) (by kernel_rfl) (by kernel_rfl) (by kernel_rfl)) ?_
  intro W base args ds gs before hval0 hW _ _
  have hval : ∀ (j : Nat) t v, Try.f6.params[j]? = some t → args[j]? = some v → Value.okWide Try.prog W .any base t v := hval0
  have hW' := hW
  obtain ⟨p, q, hA0, hV, rfl, _, _⟩ := hW
  have hA : DataW.TrodAll enc Try.prog W 0 (fun _ => true) true Try.f6.params.toList args.toList ds p := hA0
  rw [Try.params6] at hA hval
  obtain ⟨v0, d0, rfl, rfl, h0⟩ := trodAll_one hA
  obtain ⟨rfl, rfl⟩ := trodVars_none hV
  obtain ⟨me, rfl, _⟩ := open_int Try.underlying3 (hval 0 _ v0 rfl rfl) h0
  refine (exactRepNew me _).mono fun e W' ⟨he, hb⟩ => ⟨_, he, ?_⟩
  exact law_post (tb := 4) Try.laidOut (by kernel_rfl) rfl Try.underlying4 rfl hW' rfl hb

theorem xRepNew_holds : Rows.FnExactRepNewSaid :=
  OpenClaim.holds_of_wide 6 Try.f6 rfl rfl rfl rfl rfl rfl rfl ⟨rfl, rfl, rfl, rfl, rfl⟩ rfl rfl rfl rfl rfl (by kernel_rfl) Try.func6 xRepNew_closed
    (of_decide_eq_true (by kernel_rfl)) (by unfold Func.isWrapper; first | (rw [if_pos (by decide +kernel)]; kernel_rfl) | (rw [if_neg (by decide +kernel)]; exact ⟨rfl, rfl⟩))
    (fun os started H enc _ => xRepNew_lifted os started H enc)
#print axioms xRepNew_holds
end Go.Proofs.Ytjpbflehedbijaa
