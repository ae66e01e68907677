/- The exact law of SeeGold holds of every game that comes in. -/
import Derived.Test.YtkganikclbeplaaMB
import Derived.Test.YtkganikclbeplaaFx
import Derived.Test.YtkganikclbeplaaFy
import Derived.Test.YtkganikclbeplaaFz
import Derived.Test.YtkganikclbeplaaFw
import Derived.Test.YtkganikclbeplaaSGa
namespace Go.Proofs.Ytkganikclbeplaa
open Go.ChangeShapes Go.WideShapes Go.ChangeAt Go.RowKit Go.Deep

theorem xSeeGold_k1 : (Rows.fnExactSeeGoldRow.wf (OpenSpec.ofChange Rows.fnExactSeeGoldSpec)) = true := by kernel_rfl
theorem xSeeGold_k4 : (Try.f4.params.all (Try.prog.readableRec ·)) = true := by kernel_rfl
theorem xSeeGold_k5 : (namedTie Try.prog Rows.fnExactSeeGoldRow.named Rows.fnExactSeeGoldSpec.vars) = true := by kernel_rfl
theorem xSeeGold_k6 : ((Rows.fnExactSeeGoldRow.stops == [])) = true := by kernel_rfl
theorem xSeeGold_k8 : ((Rows.fnExactSeeGoldRow.knobs == [])) = true := by kernel_rfl
theorem xSeeGold_k10 : ((Rows.fnExactSeeGoldRow.inPlace == Try.prog.inPlace 4)) = true := by kernel_rfl
theorem xSeeGold_k11 : ((Rows.fnExactSeeGoldRow.unfollowed == Try.prog.unfollowed 4)) = true := by kernel_rfl
theorem xSeeGold_k12 : ((Rows.fnExactSeeGoldRow.recurses == Try.prog.recurses 4)) = true := by kernel_rfl
theorem xSeeGold_k13 : ((Rows.fnExactSeeGoldRow.named == Try.prog.varsNamed 4)) = true := by kernel_rfl
theorem xSeeGold_k14 : ((Rows.fnExactSeeGoldRow.maps == (Try.f4.params.toList ++ Rows.fnExactSeeGoldSpec.plain.varTypes Try.prog).any (Try.prog.mapsRec ·))) = true := by kernel_rfl
theorem xSeeGold_k15 : ((Rows.fnExactSeeGoldRow.ifaces == (Try.f4.params.toList ++ Rows.fnExactSeeGoldSpec.plain.varTypes Try.prog).any (Try.prog.ifacesRec ·))) = true := by kernel_rfl
theorem xSeeGold_k16 : ((Rows.fnExactSeeGoldRow.mapsOut == Try.prog.mapsAmong Try.f4.resultTypes.toList)) = true := by kernel_rfl
theorem xSeeGold_k17 : ((Rows.fnExactSeeGoldRow.loops == (Try.f4.params.toList ++ Rows.fnExactSeeGoldSpec.plain.varTypes Try.prog).any (Try.prog.loopsFrom ·))) = true := by kernel_rfl
theorem xSeeGold_k18 : ((Rows.fnExactSeeGoldRow.wideKeys == (Try.f4.params.toList ++ Rows.fnExactSeeGoldSpec.plain.varTypes Try.prog ++ Try.f4.resultTypes.toList).any (Try.prog.wideKeysFrom ·))) = true := by kernel_rfl
theorem xSeeGold_k19 : (Rows.fnExactSeeGoldSpec.vars.all (Try.prog.varReadable ·)) = true := by kernel_rfl
theorem xSeeGold_k20 : (Try.f4.resultTypes.all (fun t => Try.prog.readableRec t && decide (t < Try.prog.types.size))) = true := by kernel_rfl
theorem xSeeGold_k21 : ((Rows.fnExactSeeGoldRow.ifacesOut == Try.f4.resultTypes.toList.any (Try.prog.ifacesRec ·))) = true := by kernel_rfl
theorem xSeeGold_k22 : ((Rows.fnExactSeeGoldRow.loopsOut == Try.f4.resultTypes.toList.any (Try.prog.loopsFrom ·))) = true := by kernel_rfl
theorem xSeeGold_k24 : (Rows.fnExactSeeGoldRow.shortTexts.isNone) = true := by kernel_rfl
theorem xSeeGold_k30 : ((Rows.fnExactSeeGoldRow.pinned == Rows.fnExactSeeGoldRow.pinnedBy)) = true := by kernel_rfl
theorem xSeeGold_k31 : ((Rows.fnExactSeeGoldRow.veiled == (Try.f4.params.toList ++ Rows.fnExactSeeGoldSpec.plain.varTypes Try.prog ++ Try.f4.resultTypes.toList).any (Try.prog.veiledRec ·))) = true := by kernel_rfl
theorem xSeeGold_k32 : (Rows.fnExactSeeGoldRow.veiledFits Try.prog Try.f4.params.toList (Try.f4.params.toList ++ Rows.fnExactSeeGoldSpec.plain.varTypes Try.prog ++ Try.f4.resultTypes.toList)) = true := by kernel_rfl
theorem xSeeGold_closed : joinedFacts Try.prog 4 Try.f4 Rows.fnExactSeeGoldSpec Rows.fnExactSeeGoldRow = true :=
  facts_of xSeeGold_k1 Try.f_laid Try.f_maps xSeeGold_k4 xSeeGold_k5 xSeeGold_k6 Try.f_stops xSeeGold_k8 Try.f_knobs xSeeGold_k10 xSeeGold_k11 xSeeGold_k12 xSeeGold_k13 xSeeGold_k14 xSeeGold_k15 xSeeGold_k16 xSeeGold_k17 xSeeGold_k18 xSeeGold_k19 xSeeGold_k20 xSeeGold_k21 xSeeGold_k22 (by kernel_rfl) xSeeGold_k24 Try.f_heard Try.f_enter Try.f_lifts Try.f_make rfl rfl xSeeGold_k30 xSeeGold_k31 xSeeGold_k32

set_option maxRecDepth 100000 in
theorem xSeeGold_lifted (os : Os) (started : os.Started) (H : Type) (enc : TypeId × Value → H) :
    ReturnsInHanded {} Try.checked os 4 .any (Rows.fnExactSeeGoldSpec.pre6 enc Try.prog Try.f4 Rows.fnExactSeeGoldRow.domain false) (Rows.fnExactSeeGoldSpec.post enc Try.prog Try.f4 false true false false) := by
  refine returnsInHanded_of_change (C := Try.checked) Try.own started (by kernel_rfl) Try.func4
    (ChangeSpec.witness6 (enc := enc) (C := Try.checked) false ⟨#[], #[.agg #[.slice none 0 0, .slice none 0 0, .slice none 0 0]], []⟩ 8 (by kernel_rfl) (by kernel_rfl) (by kernel_rfl) (by kernel_rfl)) ?_
  intro W base args ds gs before hval0 hW _ _
  have hval : ∀ (j : Nat) t v, Try.f4.params[j]? = some t → args[j]? = some v → Value.okWide Try.prog W .any base t v := hval0
  have hW' := hW
  obtain ⟨p, q, hA0, hV, rfl, _, _⟩ := hW
  have hA : DataW.TrodAll enc Try.prog W 0 (fun _ => true) true Try.f4.params.toList args.toList ds p := hA0
  rw [Try.params4] at hA hval
  obtain ⟨v0, d0, rfl, rfl, h0⟩ := trodAll_one hA
  obtain ⟨rfl, rfl⟩ := trodVars_none hV
  obtain ⟨A, a, B, b, C, c, E, F, L, rfl, mE0, mF0, mL0, rE0, rF0, rL0⟩ := in_game (hval 0 _ v0 rfl rfl) h0
  refine (exactSeeGold A a B b C c E F L _ mE0 mF0 mL0 rE0 rF0 rL0).mono fun e W' ⟨he, hb⟩ => ⟨_, he, ?_⟩
  exact law_post (tb := 4) Try.laidOut (by kernel_rfl) rfl Try.underlying4 rfl hW' rfl hb

theorem xSeeGold_holds : Rows.FnExactSeeGoldSaid :=
  OpenClaim.holds_of_wide 4 Try.f4 rfl rfl rfl rfl rfl rfl rfl ⟨rfl, rfl, rfl, rfl, rfl⟩ rfl rfl rfl rfl rfl (by kernel_rfl) Try.func4 xSeeGold_closed
    (of_decide_eq_true (by kernel_rfl)) (by unfold Func.isWrapper; first | (rw [if_pos (by decide +kernel)]; kernel_rfl) | (rw [if_neg (by decide +kernel)]; exact ⟨rfl, rfl⟩))
    (fun os started H enc _ => xSeeGold_lifted os started H enc)
#print axioms xSeeGold_holds
end Go.Proofs.Ytkganikclbeplaa
