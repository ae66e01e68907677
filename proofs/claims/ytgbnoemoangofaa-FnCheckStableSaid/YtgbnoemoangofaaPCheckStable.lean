/- What is stable does not hang on the order: of every code that comes in. -/
import Derived.Test.YtgbnoemoangofaaMB
import Derived.Test.YtgbnoemoangofaaFx
import Derived.Test.YtgbnoemoangofaaFy
import Derived.Test.YtgbnoemoangofaaFz
import Derived.Test.YtgbnoemoangofaaFw
import Derived.Test.YtgbnoemoangofaaMM
import Derived.Test.YtgbnoemoangofaaYp
namespace Go.Proofs.Ytgbnoemoangofaa
open Go.ChangeShapes Go.WideShapes Go.ChangeAt Go.RowKit Go.Deep

theorem pCheckStable_k1 : (Rows.fnCheckStableRow.wf (OpenSpec.ofChange Rows.fnCheckStableSpec)) = true := by kernel_rfl
theorem pCheckStable_k4 : (Try.f4.params.all (Try.prog.readableRec ·)) = true := by kernel_rfl
theorem pCheckStable_k5 : (namedTie Try.prog Rows.fnCheckStableRow.named Rows.fnCheckStableSpec.vars) = true := by kernel_rfl
theorem pCheckStable_k6 : ((Rows.fnCheckStableRow.stops == [])) = true := by kernel_rfl
theorem pCheckStable_k8 : ((Rows.fnCheckStableRow.knobs == [])) = true := by kernel_rfl
theorem pCheckStable_k10 : ((Rows.fnCheckStableRow.inPlace == Try.prog.inPlace 4)) = true := by kernel_rfl
theorem pCheckStable_k11 : ((Rows.fnCheckStableRow.unfollowed == Try.prog.unfollowed 4)) = true := by kernel_rfl
theorem pCheckStable_k12 : ((Rows.fnCheckStableRow.recurses == Try.prog.recurses 4)) = true := by kernel_rfl
theorem pCheckStable_k13 : ((Rows.fnCheckStableRow.named == Try.prog.varsNamed 4)) = true := by kernel_rfl
theorem pCheckStable_k14 : ((Rows.fnCheckStableRow.maps == (Try.f4.params.toList ++ Rows.fnCheckStableSpec.plain.varTypes Try.prog).any (Try.prog.mapsRec ·))) = true := by kernel_rfl
theorem pCheckStable_k15 : ((Rows.fnCheckStableRow.ifaces == (Try.f4.params.toList ++ Rows.fnCheckStableSpec.plain.varTypes Try.prog).any (Try.prog.ifacesRec ·))) = true := by kernel_rfl
theorem pCheckStable_k16 : ((Rows.fnCheckStableRow.mapsOut == Try.prog.mapsAmong Try.f4.resultTypes.toList)) = true := by kernel_rfl
theorem pCheckStable_k17 : ((Rows.fnCheckStableRow.loops == (Try.f4.params.toList ++ Rows.fnCheckStableSpec.plain.varTypes Try.prog).any (Try.prog.loopsFrom ·))) = true := by kernel_rfl
theorem pCheckStable_k18 : ((Rows.fnCheckStableRow.wideKeys == (Try.f4.params.toList ++ Rows.fnCheckStableSpec.plain.varTypes Try.prog ++ Try.f4.resultTypes.toList).any (Try.prog.wideKeysFrom ·))) = true := by kernel_rfl
theorem pCheckStable_k19 : (Rows.fnCheckStableSpec.vars.all (Try.prog.varReadable ·)) = true := by kernel_rfl
theorem pCheckStable_k20 : (Try.f4.resultTypes.all (fun t => Try.prog.readableRec t && decide (t < Try.prog.types.size))) = true := by kernel_rfl
theorem pCheckStable_k21 : ((Rows.fnCheckStableRow.ifacesOut == Try.f4.resultTypes.toList.any (Try.prog.ifacesRec ·))) = true := by kernel_rfl
theorem pCheckStable_k22 : ((Rows.fnCheckStableRow.loopsOut == Try.f4.resultTypes.toList.any (Try.prog.loopsFrom ·))) = true := by kernel_rfl
theorem pCheckStable_k24 : (Rows.fnCheckStableRow.shortTexts.isNone) = true := by kernel_rfl
theorem pCheckStable_k30 : ((Rows.fnCheckStableRow.pinned == Rows.fnCheckStableRow.pinnedBy)) = true := by kernel_rfl
theorem pCheckStable_k31 : ((Rows.fnCheckStableRow.veiled == (Try.f4.params.toList ++ Rows.fnCheckStableSpec.plain.varTypes Try.prog ++ Try.f4.resultTypes.toList).any (Try.prog.veiledRec ·))) = true := by kernel_rfl
theorem pCheckStable_k32 : (Rows.fnCheckStableRow.veiledFits Try.prog Try.f4.params.toList (Try.f4.params.toList ++ Rows.fnCheckStableSpec.plain.varTypes Try.prog ++ Try.f4.resultTypes.toList)) = true := by kernel_rfl
theorem pCheckStable_closed : joinedFacts Try.prog 4 Try.f4 Rows.fnCheckStableSpec Rows.fnCheckStableRow = true :=
  facts_of pCheckStable_k1 Try.f_laid Try.f_maps pCheckStable_k4 pCheckStable_k5 pCheckStable_k6 Try.f_stops pCheckStable_k8 Try.f_knobs pCheckStable_k10 pCheckStable_k11 pCheckStable_k12 pCheckStable_k13 pCheckStable_k14 pCheckStable_k15 pCheckStable_k16 pCheckStable_k17 pCheckStable_k18 pCheckStable_k19 pCheckStable_k20 pCheckStable_k21 pCheckStable_k22 (by kernel_rfl) pCheckStable_k24 Try.f_heard Try.f_enter Try.f_lifts Try.f_make rfl rfl pCheckStable_k30 pCheckStable_k31 pCheckStable_k32

set_option maxRecDepth 100000 in
theorem pCheckStable_lifted (os : Os) (started : os.Started) (H : Type) (enc : TypeId × Value → H) :
    ReturnsInHanded {} Try.checked os 4 .any (Rows.fnCheckStableSpec.pre6 enc Try.prog Try.f4 Rows.fnCheckStableRow.domain false) (Rows.fnCheckStableSpec.post enc Try.prog Try.f4 false true false false) := by
  refine returnsInHanded_of_change (C := Try.checked) Try.own started (by kernel_rfl) Try.func4
    (ChangeSpec.witness6 (enc := enc) (C := Try.checked) false ⟨#[], #[.slice none 0 0], []⟩ 8 (by kernel_rfl) (by kernel_rfl) (by kernel_rfl) (by kernel_rfl)) ?_
  intro W base args ds gs before hval0 hW _ _
  have hval : ∀ (j : Nat) t v, Try.f4.params[j]? = some t → args[j]? = some v → Value.okWide Try.prog W .any base t v := hval0
  have hW' := hW
  obtain ⟨p, q, hA0, hV, rfl, _, _⟩ := hW
  have hA : DataW.TrodAll enc Try.prog W 0 (fun _ => true) true Try.f4.params.toList args.toList ds p := hA0
  rw [Try.params4] at hA hval
  obtain ⟨v0, d0, rfl, rfl, h0⟩ := trodAll_one hA
  obtain ⟨rfl, rfl⟩ := trodVars_none hV
  obtain ⟨A, n, c, rfl, m0, l0, b0⟩ := in_bytes Try.underlying22 Try.underlying5 (by kernel_rfl) (hval 0 _ v0 rfl rfl) h0
  refine (lawCheckStable A c n _ m0 l0 b0).mono fun e W' ⟨he, hb⟩ => ⟨_, he, ?_⟩
  exact law_post (tb := 4) Try.laidOut (by kernel_rfl) rfl Try.underlying4 rfl hW' rfl hb

theorem pCheckStable_holds : Rows.FnCheckStableSaid :=
  OpenClaim.holds_of_wide 4 Try.f4 rfl rfl rfl rfl rfl rfl rfl ⟨rfl, rfl, rfl, rfl, rfl⟩ rfl rfl rfl rfl rfl (by kernel_rfl) Try.func4 pCheckStable_closed
    (of_decide_eq_true (by kernel_rfl)) (by unfold Func.isWrapper; first | (rw [if_pos (by decide +kernel)]; kernel_rfl) | (rw [if_neg (by decide +kernel)]; exact ⟨rfl, rfl⟩))
    (fun os started H enc _ => pCheckStable_lifted os started H enc)
#print axioms pCheckStable_holds
end Go.Proofs.Ytgbnoemoangofaa
