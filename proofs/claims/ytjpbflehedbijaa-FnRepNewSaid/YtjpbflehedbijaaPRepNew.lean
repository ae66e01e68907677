/- A new keeper did nothing: of every code that comes in. -/
import Derived.Test.YtjpbflehedbijaaMB
import Derived.Test.YtjpbflehedbijaaFx
import Derived.Test.YtjpbflehedbijaaFy
import Derived.Test.YtjpbflehedbijaaFz
import Derived.Test.YtjpbflehedbijaaFw
import Derived.Test.YtjpbflehedbijaaMD
import Derived.Test.YtjpbflehedbijaaRh
namespace Go.Proofs.Ytjpbflehedbijaa
open Go.ChangeShapes Go.WideShapes Go.ChangeAt Go.RowKit Go.Deep

theorem pRepNew_k1 : (Rows.fnRepNewRow.wf (OpenSpec.ofChange Rows.fnRepNewSpec)) = true := by kernel_rfl
theorem pRepNew_k4 : (Try.f4.params.all (Try.prog.readableRec ·)) = true := by kernel_rfl
theorem pRepNew_k5 : (namedTie Try.prog Rows.fnRepNewRow.named Rows.fnRepNewSpec.vars) = true := by kernel_rfl
theorem pRepNew_k6 : ((Rows.fnRepNewRow.stops == [])) = true := by kernel_rfl
theorem pRepNew_k8 : ((Rows.fnRepNewRow.knobs == [])) = true := by kernel_rfl
theorem pRepNew_k10 : ((Rows.fnRepNewRow.inPlace == Try.prog.inPlace 4)) = true := by kernel_rfl
theorem pRepNew_k11 : ((Rows.fnRepNewRow.unfollowed == Try.prog.unfollowed 4)) = true := by kernel_rfl
theorem pRepNew_k12 : ((Rows.fnRepNewRow.recurses == Try.prog.recurses 4)) = true := by kernel_rfl
theorem pRepNew_k13 : ((Rows.fnRepNewRow.named == Try.prog.varsNamed 4)) = true := by kernel_rfl
theorem pRepNew_k14 : ((Rows.fnRepNewRow.maps == (Try.f4.params.toList ++ Rows.fnRepNewSpec.plain.varTypes Try.prog).any (Try.prog.mapsRec ·))) = true := by kernel_rfl
theorem pRepNew_k15 : ((Rows.fnRepNewRow.ifaces == (Try.f4.params.toList ++ Rows.fnRepNewSpec.plain.varTypes Try.prog).any (Try.prog.ifacesRec ·))) = true := by kernel_rfl
theorem pRepNew_k16 : ((Rows.fnRepNewRow.mapsOut == Try.prog.mapsAmong Try.f4.resultTypes.toList)) = true := by kernel_rfl
theorem pRepNew_k17 : ((Rows.fnRepNewRow.loops == (Try.f4.params.toList ++ Rows.fnRepNewSpec.plain.varTypes Try.prog).any (Try.prog.loopsFrom ·))) = true := by kernel_rfl
theorem pRepNew_k18 : ((Rows.fnRepNewRow.wideKeys == (Try.f4.params.toList ++ Rows.fnRepNewSpec.plain.varTypes Try.prog ++ Try.f4.resultTypes.toList).any (Try.prog.wideKeysFrom ·))) = true := by kernel_rfl
theorem pRepNew_k19 : (Rows.fnRepNewSpec.vars.all (Try.prog.varReadable ·)) = true := by kernel_rfl
theorem pRepNew_k20 : (Try.f4.resultTypes.all (fun t => Try.prog.readableRec t && decide (t < Try.prog.types.size))) = true := by kernel_rfl
theorem pRepNew_k21 : ((Rows.fnRepNewRow.ifacesOut == Try.f4.resultTypes.toList.any (Try.prog.ifacesRec ·))) = true := by kernel_rfl
theorem pRepNew_k22 : ((Rows.fnRepNewRow.loopsOut == Try.f4.resultTypes.toList.any (Try.prog.loopsFrom ·))) = true := by kernel_rfl
theorem pRepNew_k24 : (Rows.fnRepNewRow.shortTexts.isNone) = true := by kernel_rfl
theorem pRepNew_k30 : ((Rows.fnRepNewRow.pinned == Rows.fnRepNewRow.pinnedBy)) = true := by kernel_rfl
theorem pRepNew_k31 : ((Rows.fnRepNewRow.veiled == (Try.f4.params.toList ++ Rows.fnRepNewSpec.plain.varTypes Try.prog ++ Try.f4.resultTypes.toList).any (Try.prog.veiledRec ·))) = true := by kernel_rfl
theorem pRepNew_k32 : (Rows.fnRepNewRow.veiledFits Try.prog Try.f4.params.toList (Try.f4.params.toList ++ Rows.fnRepNewSpec.plain.varTypes Try.prog ++ Try.f4.resultTypes.toList)) = true := by kernel_rfl
theorem pRepNew_closed : joinedFacts Try.prog 4 Try.f4 Rows.fnRepNewSpec Rows.fnRepNewRow = true :=
  facts_of pRepNew_k1 Try.f_laid Try.f_maps pRepNew_k4 pRepNew_k5 pRepNew_k6 Try.f_stops pRepNew_k8 Try.f_knobs pRepNew_k10 pRepNew_k11 pRepNew_k12 pRepNew_k13 pRepNew_k14 pRepNew_k15 pRepNew_k16 pRepNew_k17 pRepNew_k18 pRepNew_k19 pRepNew_k20 pRepNew_k21 pRepNew_k22 (by kernel_rfl) pRepNew_k24 Try.f_heard Try.f_enter Try.f_lifts Try.f_make rfl rfl pRepNew_k30 pRepNew_k31 pRepNew_k32

set_option maxRecDepth 100000 in
theorem pRepNew_lifted (os : Os) (started : os.Started) (H : Type) (enc : TypeId × Value → H) :
    ReturnsInHanded {} Try.checked os 4 .any (Rows.fnRepNewSpec.pre6 enc Try.prog Try.f4 Rows.fnRepNewRow.domain false) (Rows.fnRepNewSpec.post enc Try.prog Try.f4 false true false false) := by
  refine returnsInHanded_of_change (C := Try.checked) Try.own started (by kernel_rfl) Try.func4
    (ChangeSpec.witness6 (enc := enc) (C := Try.checked) false ⟨#[], #[.slice none 0 0], []⟩ 8 (by kernel_rfl) (by kernel_rfl) (by kernel_rfl) (by kernel_rfl)) ?_
  intro W base args ds gs before hval0 hW _ _
  have hval : ∀ (j : Nat) t v, Try.f4.params[j]? = some t → args[j]? = some v → Value.okWide Try.prog W .any base t v := hval0
  have hW' := hW
  obtain ⟨p, q, hA0, hV, rfl, _, _⟩ := hW
  have hA : DataW.TrodAll enc Try.prog W 0 (fun _ => true) true Try.f4.params.toList args.toList ds p := hA0
  rw [Try.params4] at hA hval
  obtain ⟨v0, d0, rfl, rfl, h0⟩ := trodAll_one hA
  obtain ⟨rfl, rfl⟩ := trodVars_none hV
  obtain ⟨A, n, c, rfl, m0, l0, b0⟩ := in_bytes Try.underlying22 Try.underlying5 (by kernel_rfl) (hval 0 _ v0 rfl rfl) h0
  refine (lawRepNew m0 l0 b0).mono fun e W' ⟨he, hb⟩ => ⟨_, he, ?_⟩
  exact law_post (tb := 4) Try.laidOut (by kernel_rfl) rfl Try.underlying4 rfl hW' rfl hb

theorem pRepNew_holds : Rows.FnRepNewSaid :=
  OpenClaim.holds_of_wide 4 Try.f4 rfl rfl rfl rfl rfl rfl rfl ⟨rfl, rfl, rfl, rfl, rfl⟩ rfl rfl rfl rfl rfl (by kernel_rfl) Try.func4 pRepNew_closed
    (of_decide_eq_true (by kernel_rfl)) (by unfold Func.isWrapper; first | (rw [if_pos (by decide +kernel)]; kernel_rfl) | (rw [if_neg (by decide +kernel)]; exact ⟨rfl, rfl⟩))
    (fun os started H enc _ => pRepNew_lifted os started H enc)
#print axioms pRepNew_holds
end Go.Proofs.Ytjpbflehedbijaa
