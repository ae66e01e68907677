/- What is cut away is gone, and what is stable stays: of every code that comes in. -/
import Derived.Test.YtgbnoemoangofaaMB
import Derived.Test.YtgbnoemoangofaaFx
import Derived.Test.YtgbnoemoangofaaFy
import Derived.Test.YtgbnoemoangofaaFz
import Derived.Test.YtgbnoemoangofaaFw
import Derived.Test.YtgbnoemoangofaaMM
import Derived.Test.YtgbnoemoangofaaYo
namespace Go.Proofs.Ytgbnoemoangofaa
open Go.ChangeShapes Go.WideShapes Go.ChangeAt Go.RowKit Go.Deep

theorem pCheckCut_k1 : (Rows.fnCheckCutRow.wf (OpenSpec.ofChange Rows.fnCheckCutSpec)) = true := by kernel_rfl
theorem pCheckCut_k4 : (Try.f5.params.all (Try.prog.readableRec ·)) = true := by kernel_rfl
theorem pCheckCut_k5 : (namedTie Try.prog Rows.fnCheckCutRow.named Rows.fnCheckCutSpec.vars) = true := by kernel_rfl
theorem pCheckCut_k6 : ((Rows.fnCheckCutRow.stops == [])) = true := by kernel_rfl
theorem pCheckCut_k8 : ((Rows.fnCheckCutRow.knobs == [])) = true := by kernel_rfl
theorem pCheckCut_k10 : ((Rows.fnCheckCutRow.inPlace == Try.prog.inPlace 5)) = true := by kernel_rfl
theorem pCheckCut_k11 : ((Rows.fnCheckCutRow.unfollowed == Try.prog.unfollowed 5)) = true := by kernel_rfl
theorem pCheckCut_k12 : ((Rows.fnCheckCutRow.recurses == Try.prog.recurses 5)) = true := by kernel_rfl
theorem pCheckCut_k13 : ((Rows.fnCheckCutRow.named == Try.prog.varsNamed 5)) = true := by kernel_rfl
theorem pCheckCut_k14 : ((Rows.fnCheckCutRow.maps == (Try.f5.params.toList ++ Rows.fnCheckCutSpec.plain.varTypes Try.prog).any (Try.prog.mapsRec ·))) = true := by kernel_rfl
theorem pCheckCut_k15 : ((Rows.fnCheckCutRow.ifaces == (Try.f5.params.toList ++ Rows.fnCheckCutSpec.plain.varTypes Try.prog).any (Try.prog.ifacesRec ·))) = true := by kernel_rfl
theorem pCheckCut_k16 : ((Rows.fnCheckCutRow.mapsOut == Try.prog.mapsAmong Try.f5.resultTypes.toList)) = true := by kernel_rfl
theorem pCheckCut_k17 : ((Rows.fnCheckCutRow.loops == (Try.f5.params.toList ++ Rows.fnCheckCutSpec.plain.varTypes Try.prog).any (Try.prog.loopsFrom ·))) = true := by kernel_rfl
theorem pCheckCut_k18 : ((Rows.fnCheckCutRow.wideKeys == (Try.f5.params.toList ++ Rows.fnCheckCutSpec.plain.varTypes Try.prog ++ Try.f5.resultTypes.toList).any (Try.prog.wideKeysFrom ·))) = true := by kernel_rfl
theorem pCheckCut_k19 : (Rows.fnCheckCutSpec.vars.all (Try.prog.varReadable ·)) = true := by kernel_rfl
theorem pCheckCut_k20 : (Try.f5.resultTypes.all (fun t => Try.prog.readableRec t && decide (t < Try.prog.types.size))) = true := by kernel_rfl
theorem pCheckCut_k21 : ((Rows.fnCheckCutRow.ifacesOut == Try.f5.resultTypes.toList.any (Try.prog.ifacesRec ·))) = true := by kernel_rfl
theorem pCheckCut_k22 : ((Rows.fnCheckCutRow.loopsOut == Try.f5.resultTypes.toList.any (Try.prog.loopsFrom ·))) = true := by kernel_rfl
theorem pCheckCut_k24 : (Rows.fnCheckCutRow.shortTexts.isNone) = true := by kernel_rfl
theorem pCheckCut_k30 : ((Rows.fnCheckCutRow.pinned == Rows.fnCheckCutRow.pinnedBy)) = true := by kernel_rfl
theorem pCheckCut_k31 : ((Rows.fnCheckCutRow.veiled == (Try.f5.params.toList ++ Rows.fnCheckCutSpec.plain.varTypes Try.prog ++ Try.f5.resultTypes.toList).any (Try.prog.veiledRec ·))) = true := by kernel_rfl
theorem pCheckCut_k32 : (Rows.fnCheckCutRow.veiledFits Try.prog Try.f5.params.toList (Try.f5.params.toList ++ Rows.fnCheckCutSpec.plain.varTypes Try.prog ++ Try.f5.resultTypes.toList)) = true := by kernel_rfl
theorem pCheckCut_closed : joinedFacts Try.prog 5 Try.f5 Rows.fnCheckCutSpec Rows.fnCheckCutRow = true :=
  facts_of pCheckCut_k1 Try.f_laid Try.f_maps pCheckCut_k4 pCheckCut_k5 pCheckCut_k6 Try.f_stops pCheckCut_k8 Try.f_knobs pCheckCut_k10 pCheckCut_k11 pCheckCut_k12 pCheckCut_k13 pCheckCut_k14 pCheckCut_k15 pCheckCut_k16 pCheckCut_k17 pCheckCut_k18 pCheckCut_k19 pCheckCut_k20 pCheckCut_k21 pCheckCut_k22 (by kernel_rfl) pCheckCut_k24 Try.f_heard Try.f_enter Try.f_lifts Try.f_make rfl rfl pCheckCut_k30 pCheckCut_k31 pCheckCut_k32

set_option maxRecDepth 100000 in
theorem pCheckCut_lifted (os : Os) (started : os.Started) (H : Type) (enc : TypeId × Value → H) :
    ReturnsInHanded {} Try.checked os 5 .any (Rows.fnCheckCutSpec.pre6 enc Try.prog Try.f5 Rows.fnCheckCutRow.domain false) (Rows.fnCheckCutSpec.post enc Try.prog Try.f5 false true false false) := by
  refine returnsInHanded_of_change (C := Try.checked) Try.own started (by kernel_rfl) Try.func5
    (ChangeSpec.witness6 (enc := enc) (C := Try.checked) false ⟨#[], #[.slice none 0 0], []⟩ 8 (by kernel_rfl) (by kernel_rfl) (by kernel_rfl) (by kernel_rfl)) ?_
  intro W base args ds gs before hval0 hW _ _
  have hval : ∀ (j : Nat) t v, Try.f5.params[j]? = some t → args[j]? = some v → Value.okWide Try.prog W .any base t v := hval0
  have hW' := hW
  obtain ⟨p, q, hA0, hV, rfl, _, _⟩ := hW
  have hA : DataW.TrodAll enc Try.prog W 0 (fun _ => true) true Try.f5.params.toList args.toList ds p := hA0
  rw [Try.params5] at hA hval
  obtain ⟨v0, d0, rfl, rfl, h0⟩ := trodAll_one hA
  obtain ⟨rfl, rfl⟩ := trodVars_none hV
  obtain ⟨A, n, c, rfl, m0, l0, b0⟩ := in_bytes Try.underlying22 Try.underlying5 (by kernel_rfl) (hval 0 _ v0 rfl rfl) h0
  refine (lawCheckCut A c n _ m0 l0 b0).mono fun e W' ⟨he, hb⟩ => ⟨_, he, ?_⟩
  exact law_post (tb := 4) Try.laidOut (by kernel_rfl) rfl Try.underlying4 rfl hW' rfl hb

theorem pCheckCut_holds : Rows.FnCheckCutSaid :=
  OpenClaim.holds_of_wide 5 Try.f5 rfl rfl rfl rfl rfl rfl rfl ⟨rfl, rfl, rfl, rfl, rfl⟩ rfl rfl rfl rfl rfl (by kernel_rfl) Try.func5 pCheckCut_closed
    (of_decide_eq_true (by kernel_rfl)) (by unfold Func.isWrapper; first | (rw [if_pos (by decide +kernel)]; kernel_rfl) | (rw [if_neg (by decide +kernel)]; exact ⟨rfl, rfl⟩))
    (fun os started H enc _ => pCheckCut_lifted os started H enc)
#print axioms pCheckCut_holds
end Go.Proofs.Ytgbnoemoangofaa
