/- In a new world nothing was said, and all agree: of every code that comes in. -/
import Derived.Test.YtfelhnchnaggmaaMB
import Derived.Test.YtfelhnchnaggmaaFx
import Derived.Test.YtfelhnchnaggmaaFy
import Derived.Test.YtfelhnchnaggmaaFz
import Derived.Test.YtfelhnchnaggmaaFw
import Derived.Test.YtfelhnchnaggmaaMD
import Derived.Test.YtfelhnchnaggmaaWj
namespace Go.Proofs.Ytfelhnchnaggmaa
open Go.ChangeShapes Go.WideShapes Go.ChangeAt Go.RowKit Go.Deep

theorem pWorldNew_k1 : (Rows.fnWorldNewRow.wf (OpenSpec.ofChange Rows.fnWorldNewSpec)) = true := by kernel_rfl
theorem pWorldNew_k4 : (Try.f3.params.all (Try.prog.readableRec ·)) = true := by kernel_rfl
theorem pWorldNew_k5 : (namedTie Try.prog Rows.fnWorldNewRow.named Rows.fnWorldNewSpec.vars) = true := by kernel_rfl
theorem pWorldNew_k6 : ((Rows.fnWorldNewRow.stops == [])) = true := by kernel_rfl
theorem pWorldNew_k8 : ((Rows.fnWorldNewRow.knobs == [])) = true := by kernel_rfl
theorem pWorldNew_k10 : ((Rows.fnWorldNewRow.inPlace == Try.prog.inPlace 3)) = true := by kernel_rfl
theorem pWorldNew_k11 : ((Rows.fnWorldNewRow.unfollowed == Try.prog.unfollowed 3)) = true := by kernel_rfl
theorem pWorldNew_k12 : ((Rows.fnWorldNewRow.recurses == Try.prog.recurses 3)) = true := by kernel_rfl
theorem pWorldNew_k13 : ((Rows.fnWorldNewRow.named == Try.prog.varsNamed 3)) = true := by kernel_rfl
theorem pWorldNew_k14 : ((Rows.fnWorldNewRow.maps == (Try.f3.params.toList ++ Rows.fnWorldNewSpec.plain.varTypes Try.prog).any (Try.prog.mapsRec ·))) = true := by kernel_rfl
theorem pWorldNew_k15 : ((Rows.fnWorldNewRow.ifaces == (Try.f3.params.toList ++ Rows.fnWorldNewSpec.plain.varTypes Try.prog).any (Try.prog.ifacesRec ·))) = true := by kernel_rfl
theorem pWorldNew_k16 : ((Rows.fnWorldNewRow.mapsOut == Try.prog.mapsAmong Try.f3.resultTypes.toList)) = true := by kernel_rfl
theorem pWorldNew_k17 : ((Rows.fnWorldNewRow.loops == (Try.f3.params.toList ++ Rows.fnWorldNewSpec.plain.varTypes Try.prog).any (Try.prog.loopsFrom ·))) = true := by kernel_rfl
theorem pWorldNew_k18 : ((Rows.fnWorldNewRow.wideKeys == (Try.f3.params.toList ++ Rows.fnWorldNewSpec.plain.varTypes Try.prog ++ Try.f3.resultTypes.toList).any (Try.prog.wideKeysFrom ·))) = true := by kernel_rfl
theorem pWorldNew_k19 : (Rows.fnWorldNewSpec.vars.all (Try.prog.varReadable ·)) = true := by kernel_rfl
theorem pWorldNew_k20 : (Try.f3.resultTypes.all (fun t => Try.prog.readableRec t && decide (t < Try.prog.types.size))) = true := by kernel_rfl
theorem pWorldNew_k21 : ((Rows.fnWorldNewRow.ifacesOut == Try.f3.resultTypes.toList.any (Try.prog.ifacesRec ·))) = true := by kernel_rfl
theorem pWorldNew_k22 : ((Rows.fnWorldNewRow.loopsOut == Try.f3.resultTypes.toList.any (Try.prog.loopsFrom ·))) = true := by kernel_rfl
theorem pWorldNew_k24 : (Rows.fnWorldNewRow.shortTexts.isNone) = true := by kernel_rfl
theorem pWorldNew_k30 : ((Rows.fnWorldNewRow.pinned == Rows.fnWorldNewRow.pinnedBy)) = true := by kernel_rfl
theorem pWorldNew_k31 : ((Rows.fnWorldNewRow.veiled == (Try.f3.params.toList ++ Rows.fnWorldNewSpec.plain.varTypes Try.prog ++ Try.f3.resultTypes.toList).any (Try.prog.veiledRec ·))) = true := by kernel_rfl
theorem pWorldNew_k32 : (Rows.fnWorldNewRow.veiledFits Try.prog Try.f3.params.toList (Try.f3.params.toList ++ Rows.fnWorldNewSpec.plain.varTypes Try.prog ++ Try.f3.resultTypes.toList)) = true := by kernel_rfl
theorem pWorldNew_closed : joinedFacts Try.prog 3 Try.f3 Rows.fnWorldNewSpec Rows.fnWorldNewRow = true :=
  facts_of pWorldNew_k1 Try.f_laid Try.f_maps pWorldNew_k4 pWorldNew_k5 pWorldNew_k6 Try.f_stops pWorldNew_k8 Try.f_knobs pWorldNew_k10 pWorldNew_k11 pWorldNew_k12 pWorldNew_k13 pWorldNew_k14 pWorldNew_k15 pWorldNew_k16 pWorldNew_k17 pWorldNew_k18 pWorldNew_k19 pWorldNew_k20 pWorldNew_k21 pWorldNew_k22 (by kernel_rfl) pWorldNew_k24 Try.f_heard Try.f_enter Try.f_lifts Try.f_make rfl rfl pWorldNew_k30 pWorldNew_k31 pWorldNew_k32

set_option maxRecDepth 100000 in
theorem pWorldNew_lifted (os : Os) (started : os.Started) (H : Type) (enc : TypeId × Value → H) :
    ReturnsInHanded {} Try.checked os 3 .any (Rows.fnWorldNewSpec.pre6 enc Try.prog Try.f3 Rows.fnWorldNewRow.domain false) (Rows.fnWorldNewSpec.post enc Try.prog Try.f3 false true false false) := by
  refine returnsInHanded_of_change (C := Try.checked) Try.own started (by kernel_rfl) Try.func3
    (ChangeSpec.witness6 (enc := enc) (C := Try.checked) false ⟨#[], #[.slice none 0 0], []⟩ 8 (by kernel_rfl) (by kernel_rfl) (by kernel_rfl) (by kernel_rfl)) ?_
  intro W base args ds gs before hval0 hW _ _
  have hval : ∀ (j : Nat) t v, Try.f3.params[j]? = some t → args[j]? = some v → Value.okWide Try.prog W .any base t v := hval0
  have hW' := hW
  obtain ⟨p, q, hA0, hV, rfl, _, _⟩ := hW
  have hA : DataW.TrodAll enc Try.prog W 0 (fun _ => true) true Try.f3.params.toList args.toList ds p := hA0
  rw [Try.params3] at hA hval
  obtain ⟨v0, d0, rfl, rfl, h0⟩ := trodAll_one hA
  obtain ⟨rfl, rfl⟩ := trodVars_none hV
  obtain ⟨A, n, c, rfl, m0, l0, b0⟩ := in_bytes Try.underlying22 Try.underlying5 (by kernel_rfl) (hval 0 _ v0 rfl rfl) h0
  refine (lawWorldNew m0 l0 b0).mono fun e W' ⟨he, hb⟩ => ⟨_, he, ?_⟩
  exact law_post (tb := 4) Try.laidOut (by kernel_rfl) rfl Try.underlying4 rfl hW' rfl hb

theorem pWorldNew_holds : Rows.FnWorldNewSaid :=
  OpenClaim.holds_of_wide 3 Try.f3 rfl rfl rfl rfl rfl rfl rfl ⟨rfl, rfl, rfl, rfl, rfl⟩ rfl rfl rfl rfl rfl (by kernel_rfl) Try.func3 pWorldNew_closed
    (of_decide_eq_true (by kernel_rfl)) (by unfold Func.isWrapper; first | (rw [if_pos (by decide +kernel)]; kernel_rfl) | (rw [if_neg (by decide +kernel)]; exact ⟨rfl, rfl⟩))
    (fun os started H enc _ => pWorldNew_lifted os started H enc)
#print axioms pWorldNew_holds
end Go.Proofs.Ytfelhnchnaggmaa
