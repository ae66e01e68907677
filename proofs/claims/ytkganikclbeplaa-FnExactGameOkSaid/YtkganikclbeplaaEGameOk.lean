/- The exact law of GameOk holds of every game that comes in. -/
import Derived.Test.YtkganikclbeplaaMB
import Derived.Test.YtkganikclbeplaaFx
import Derived.Test.YtkganikclbeplaaFy
import Derived.Test.YtkganikclbeplaaFz
import Derived.Test.YtkganikclbeplaaFw
import Derived.Test.YtkganikclbeplaaMC
namespace Go.Proofs.Ytkganikclbeplaa
open Go.ChangeShapes Go.WideShapes Go.ChangeAt Go.RowKit Go.Deep

theorem xGameOk_k1 : (Rows.fnExactGameOkRow.wf (OpenSpec.ofChange Rows.fnExactGameOkSpec)) = true := by kernel_rfl
theorem xGameOk_k4 : (Try.f3.params.all (Try.prog.readableRec ·)) = true := by kernel_rfl
theorem xGameOk_k5 : (namedTie Try.prog Rows.fnExactGameOkRow.named Rows.fnExactGameOkSpec.vars) = true := by kernel_rfl
theorem xGameOk_k6 : ((Rows.fnExactGameOkRow.stops == [])) = true := by kernel_rfl
theorem xGameOk_k8 : ((Rows.fnExactGameOkRow.knobs == [])) = true := by kernel_rfl
theorem xGameOk_k10 : ((Rows.fnExactGameOkRow.inPlace == Try.prog.inPlace 3)) = true := by kernel_rfl
theorem xGameOk_k11 : ((Rows.fnExactGameOkRow.unfollowed == Try.prog.unfollowed 3)) = true := by kernel_rfl
theorem xGameOk_k12 : ((Rows.fnExactGameOkRow.recurses == Try.prog.recurses 3)) = true := by kernel_rfl
theorem xGameOk_k13 : ((Rows.fnExactGameOkRow.named == Try.prog.varsNamed 3)) = true := by kernel_rfl
theorem xGameOk_k14 : ((Rows.fnExactGameOkRow.maps == (Try.f3.params.toList ++ Rows.fnExactGameOkSpec.plain.varTypes Try.prog).any (Try.prog.mapsRec ·))) = true := by kernel_rfl
theorem xGameOk_k15 : ((Rows.fnExactGameOkRow.ifaces == (Try.f3.params.toList ++ Rows.fnExactGameOkSpec.plain.varTypes Try.prog).any (Try.prog.ifacesRec ·))) = true := by kernel_rfl
theorem xGameOk_k16 : ((Rows.fnExactGameOkRow.mapsOut == Try.prog.mapsAmong Try.f3.resultTypes.toList)) = true := by kernel_rfl
theorem xGameOk_k17 : ((Rows.fnExactGameOkRow.loops == (Try.f3.params.toList ++ Rows.fnExactGameOkSpec.plain.varTypes Try.prog).any (Try.prog.loopsFrom ·))) = true := by kernel_rfl
theorem xGameOk_k18 : ((Rows.fnExactGameOkRow.wideKeys == (Try.f3.params.toList ++ Rows.fnExactGameOkSpec.plain.varTypes Try.prog ++ Try.f3.resultTypes.toList).any (Try.prog.wideKeysFrom ·))) = true := by kernel_rfl
theorem xGameOk_k19 : (Rows.fnExactGameOkSpec.vars.all (Try.prog.varReadable ·)) = true := by kernel_rfl
theorem xGameOk_k20 : (Try.f3.resultTypes.all (fun t => Try.prog.readableRec t && decide (t < Try.prog.types.size))) = true := by kernel_rfl
theorem xGameOk_k21 : ((Rows.fnExactGameOkRow.ifacesOut == Try.f3.resultTypes.toList.any (Try.prog.ifacesRec ·))) = true := by kernel_rfl
theorem xGameOk_k22 : ((Rows.fnExactGameOkRow.loopsOut == Try.f3.resultTypes.toList.any (Try.prog.loopsFrom ·))) = true := by kernel_rfl
theorem xGameOk_k24 : (Rows.fnExactGameOkRow.shortTexts.isNone) = true := by kernel_rfl
theorem xGameOk_k30 : ((Rows.fnExactGameOkRow.pinned == Rows.fnExactGameOkRow.pinnedBy)) = true := by kernel_rfl
theorem xGameOk_k31 : ((Rows.fnExactGameOkRow.veiled == (Try.f3.params.toList ++ Rows.fnExactGameOkSpec.plain.varTypes Try.prog ++ Try.f3.resultTypes.toList).any (Try.prog.veiledRec ·))) = true := by kernel_rfl
theorem xGameOk_k32 : (Rows.fnExactGameOkRow.veiledFits Try.prog Try.f3.params.toList (Try.f3.params.toList ++ Rows.fnExactGameOkSpec.plain.varTypes Try.prog ++ Try.f3.resultTypes.toList)) = true := by kernel_rfl
theorem xGameOk_closed : joinedFacts Try.prog 3 Try.f3 Rows.fnExactGameOkSpec Rows.fnExactGameOkRow = true :=
  facts_of xGameOk_k1 Try.f_laid Try.f_maps xGameOk_k4 xGameOk_k5 xGameOk_k6 Try.f_stops xGameOk_k8 Try.f_knobs xGameOk_k10 xGameOk_k11 xGameOk_k12 xGameOk_k13 xGameOk_k14 xGameOk_k15 xGameOk_k16 xGameOk_k17 xGameOk_k18 xGameOk_k19 xGameOk_k20 xGameOk_k21 xGameOk_k22 (by kernel_rfl) xGameOk_k24 Try.f_heard Try.f_enter Try.f_lifts Try.f_make rfl rfl xGameOk_k30 xGameOk_k31 xGameOk_k32

set_option maxRecDepth 100000 in
theorem xGameOk_lifted (os : Os) (started : os.Started) (H : Type) (enc : TypeId × Value → H) :
    ReturnsInHanded {} Try.checked os 3 .any (Rows.fnExactGameOkSpec.pre6 enc Try.prog Try.f3 Rows.fnExactGameOkRow.domain false) (Rows.fnExactGameOkSpec.post enc Try.prog Try.f3 false true false false) := by
  refine returnsInHanded_of_change (C := Try.checked) Try.own started (by kernel_rfl) Try.func3
    (ChangeSpec.witness6 (enc := enc) (C := Try.checked) false ⟨#[], #[.agg #[.slice none 0 0, .slice none 0 0, .slice none 0 0]], []⟩ 8 (by kernel_rfl) (by kernel_rfl) (by kernel_rfl) (by kernel_rfl)) ?_
  intro W base args ds gs before hval0 hW _ _
  have hval : ∀ (j : Nat) t v, Try.f3.params[j]? = some t → args[j]? = some v → Value.okWide Try.prog W .any base t v := hval0
  have hW' := hW
  obtain ⟨p, q, hA0, hV, rfl, _, _⟩ := hW
  have hA : DataW.TrodAll enc Try.prog W 0 (fun _ => true) true Try.f3.params.toList args.toList ds p := hA0
  rw [Try.params3] at hA hval
  obtain ⟨v0, d0, rfl, rfl, h0⟩ := trodAll_one hA
  obtain ⟨rfl, rfl⟩ := trodVars_none hV
  obtain ⟨A, a, B, b, C, c, E, F, L, rfl, mE0, mF0, mL0, rE0, rF0, rL0⟩ := in_game (hval 0 _ v0 rfl rfl) h0
  refine (exactGameOk A a B b C c E F L _ mE0 mF0 mL0 rE0 rF0 rL0).mono fun e W' ⟨he, hb⟩ => ⟨_, he, ?_⟩
  exact law_post (tb := 4) Try.laidOut (by kernel_rfl) rfl Try.underlying4 rfl hW' rfl hb

theorem xGameOk_holds : Rows.FnExactGameOkSaid :=
  OpenClaim.holds_of_wide 3 Try.f3 rfl rfl rfl rfl rfl rfl rfl ⟨rfl, rfl, rfl, rfl, rfl⟩ rfl rfl rfl rfl rfl (by kernel_rfl) Try.func3 xGameOk_closed
    (of_decide_eq_true (by kernel_rfl)) (by unfold Func.isWrapper; first | (rw [if_pos (by decide +kernel)]; kernel_rfl) | (rw [if_neg (by decide +kernel)]; exact ⟨rfl, rfl⟩))
    (fun os started H enc _ => xGameOk_lifted os started H enc)
#print axioms xGameOk_holds
end Go.Proofs.Ytkganikclbeplaa
