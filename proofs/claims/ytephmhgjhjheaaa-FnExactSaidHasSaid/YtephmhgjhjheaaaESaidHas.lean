/- SaidHas, at all letters and every letter: the program's answer is the model's, and the letters are as they were. No condition. -/
import Derived.Test.YtephmhgjhjheaaaLaw
import Derived.Test.YtephmhgjhjheaaaRq
import Derived.Test.YtephmhgjhjheaaaFx
import Derived.Test.YtephmhgjhjheaaaFy
import Derived.Test.YtephmhgjhjheaaaFz
import Derived.Test.YtephmhgjhjheaaaFw
import Derived.Test.YtephmhgjhjheaaaX
import Derived.Test.YtephmhgjhjheaaaUp
namespace Go.Proofs.Ytephmhgjhjheaaa
open Go.ChangeShapes Go.WideShapes Go.ChangeAt Go.RowKit Go.Deep

theorem xSaidHas_k1 : (Rows.fnExactSaidHasRow.wf (OpenSpec.ofChange Rows.fnExactSaidHasSpec)) = true := by kernel_rfl
theorem xSaidHas_k4 : (Try.f15.params.all (Try.prog.readableRec ·)) = true := by kernel_rfl
theorem xSaidHas_k5 : (namedTie Try.prog Rows.fnExactSaidHasRow.named Rows.fnExactSaidHasSpec.vars) = true := by kernel_rfl
theorem xSaidHas_k6 : ((Rows.fnExactSaidHasRow.stops == [])) = true := by kernel_rfl
theorem xSaidHas_k8 : ((Rows.fnExactSaidHasRow.knobs == [])) = true := by kernel_rfl
theorem xSaidHas_k10 : ((Rows.fnExactSaidHasRow.inPlace == Try.prog.inPlace 15)) = true := by kernel_rfl
theorem xSaidHas_k11 : ((Rows.fnExactSaidHasRow.unfollowed == Try.prog.unfollowed 15)) = true := by kernel_rfl
theorem xSaidHas_k12 : ((Rows.fnExactSaidHasRow.recurses == Try.prog.recurses 15)) = true := by kernel_rfl
theorem xSaidHas_k13 : ((Rows.fnExactSaidHasRow.named == Try.prog.varsNamed 15)) = true := by kernel_rfl
theorem xSaidHas_k14 : ((Rows.fnExactSaidHasRow.maps == (Try.f15.params.toList ++ Rows.fnExactSaidHasSpec.plain.varTypes Try.prog).any (Try.prog.mapsRec ·))) = true := by kernel_rfl
theorem xSaidHas_k15 : ((Rows.fnExactSaidHasRow.ifaces == (Try.f15.params.toList ++ Rows.fnExactSaidHasSpec.plain.varTypes Try.prog).any (Try.prog.ifacesRec ·))) = true := by kernel_rfl
theorem xSaidHas_k16 : ((Rows.fnExactSaidHasRow.mapsOut == Try.prog.mapsAmong Try.f15.resultTypes.toList)) = true := by kernel_rfl
theorem xSaidHas_k17 : ((Rows.fnExactSaidHasRow.loops == (Try.f15.params.toList ++ Rows.fnExactSaidHasSpec.plain.varTypes Try.prog).any (Try.prog.loopsFrom ·))) = true := by kernel_rfl
theorem xSaidHas_k18 : ((Rows.fnExactSaidHasRow.wideKeys == (Try.f15.params.toList ++ Rows.fnExactSaidHasSpec.plain.varTypes Try.prog ++ Try.f15.resultTypes.toList).any (Try.prog.wideKeysFrom ·))) = true := by kernel_rfl
theorem xSaidHas_k19 : (Rows.fnExactSaidHasSpec.vars.all (Try.prog.varReadable ·)) = true := by kernel_rfl
theorem xSaidHas_k20 : (Try.f15.resultTypes.all (fun t => Try.prog.readableRec t && decide (t < Try.prog.types.size))) = true := by kernel_rfl
theorem xSaidHas_k21 : ((Rows.fnExactSaidHasRow.ifacesOut == Try.f15.resultTypes.toList.any (Try.prog.ifacesRec ·))) = true := by kernel_rfl
theorem xSaidHas_k22 : ((Rows.fnExactSaidHasRow.loopsOut == Try.f15.resultTypes.toList.any (Try.prog.loopsFrom ·))) = true := by kernel_rfl
theorem xSaidHas_k24 : (Rows.fnExactSaidHasRow.shortTexts.isNone) = true := by kernel_rfl
theorem xSaidHas_k30 : ((Rows.fnExactSaidHasRow.pinned == Rows.fnExactSaidHasRow.pinnedBy)) = true := by kernel_rfl
theorem xSaidHas_k31 : ((Rows.fnExactSaidHasRow.veiled == (Try.f15.params.toList ++ Rows.fnExactSaidHasSpec.plain.varTypes Try.prog ++ Try.f15.resultTypes.toList).any (Try.prog.veiledRec ·))) = true := by kernel_rfl
theorem xSaidHas_k32 : (Rows.fnExactSaidHasRow.veiledFits Try.prog Try.f15.params.toList (Try.f15.params.toList ++ Rows.fnExactSaidHasSpec.plain.varTypes Try.prog ++ Try.f15.resultTypes.toList)) = true := by kernel_rfl
theorem xSaidHas_closed : joinedFacts Try.prog 15 Try.f15 Rows.fnExactSaidHasSpec Rows.fnExactSaidHasRow = true :=
  facts_of xSaidHas_k1 Try.f_laid Try.f_maps xSaidHas_k4 xSaidHas_k5 xSaidHas_k6 Try.f_stops xSaidHas_k8 Try.f_knobs xSaidHas_k10 xSaidHas_k11 xSaidHas_k12 xSaidHas_k13 xSaidHas_k14 xSaidHas_k15 xSaidHas_k16 xSaidHas_k17 xSaidHas_k18 xSaidHas_k19 xSaidHas_k20 xSaidHas_k21 xSaidHas_k22 Try.f_keys xSaidHas_k24 Try.f_heard Try.f_enter Try.f_lifts Try.f_make rfl rfl xSaidHas_k30 xSaidHas_k31 xSaidHas_k32

set_option maxRecDepth 100000 in
theorem xSaidHas_lifted (os : Os) (started : os.Started) (H : Type) (enc : TypeId × Value → H) :
    ReturnsInHanded {} Try.checked os 15 .any (Rows.fnExactSaidHasSpec.pre6 enc Try.prog Try.f15 Rows.fnExactSaidHasRow.domain false) (Rows.fnExactSaidHasSpec.post enc Try.prog Try.f15 false true false false) := by
  refine returnsInHanded_of_change (C := Try.checked) Try.own started (by kernel_rfl) Try.func15
    (ChangeSpec.witness6 (enc := enc) (C := Try.checked) false ⟨#[], #[.slice none 0 0, .agg #[.int .i64 0, .int .i64 0, .int .i64 0, .int .i64 0, .int .i64 0, .int .i64 0, .int .i64 0, .int .i64 0, .int .i64 0, .slice none 0 0, .slice none 0 0]], []⟩ 8 (by kernel_rfl) (by kernel_rfl) (by kernel_rfl) (by kernel_rfl)) ?_
  intro W base args ds gs before hval0 hW _ _
  have hval : ∀ (j : Nat) t v, Try.f15.params[j]? = some t → args[j]? = some v → Value.okWide Try.prog W .any base t v := hval0
  have hW' := hW
  obtain ⟨p, q, hA0, hV, rfl, _, _⟩ := hW
  have hA : DataW.TrodAll enc Try.prog W 0 (fun _ => true) true Try.f15.params.toList args.toList ds p := hA0
  rw [Try.params15] at hA hval
  obtain ⟨v0, v1, d0, d1, p0, p1, rfl, rfl, rfl, h0, h1⟩ := trodAll_two hA
  obtain ⟨rfl, rfl⟩ := trodVars_none hV
  obtain ⟨A, c, P, rfl, m0, r0⟩ := in_msgs (hval 0 _ v0 rfl rfl) h0
  obtain ⟨b, rfl, r1⟩ := in_msg (hval 1 _ v1 rfl rfl) h1
  refine (exactSaidHas A c P b W m0 r0 r1).mono fun e W' ⟨he, hb⟩ => ⟨_, he, ?_⟩
  exact law_post (tb := 4) Try.laidOut (by kernel_rfl) rfl Try.underlying4 rfl hW' rfl hb

theorem xSaidHas_holds : Rows.FnExactSaidHasSaid :=
  OpenClaim.holds_of_wide 15 Try.f15 rfl rfl rfl rfl rfl rfl rfl ⟨rfl, rfl, rfl, rfl, rfl⟩ rfl rfl rfl rfl rfl (by kernel_rfl) Try.func15 xSaidHas_closed
    (of_decide_eq_true (by kernel_rfl)) (by unfold Func.isWrapper; first | (rw [if_pos (by decide +kernel)]; kernel_rfl) | (rw [if_neg (by decide +kernel)]; exact ⟨rfl, rfl⟩))
    (fun os started H enc _ => xSaidHas_lifted os started H enc)
#print axioms xSaidHas_holds
end Go.Proofs.Ytephmhgjhjheaaa
