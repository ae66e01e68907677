/- The exact law of DiceBack holds of all numbers that come in. -/
import Derived.Test.YtkhneligclhgaaaMB
import Derived.Test.YtkhneligclhgaaaFx
import Derived.Test.YtkhneligclhgaaaFy
import Derived.Test.YtkhneligclhgaaaFz
import Derived.Test.YtkhneligclhgaaaFw
import Derived.Test.YtkhneligclhgaaaFk
namespace Go.Proofs.Ytkhneligclhgaaa
open Go.ChangeShapes Go.WideShapes Go.ChangeAt Go.RowKit Go.Deep

theorem xDiceBack_k1 : (Rows.fnExactDiceBackRow.wf (OpenSpec.ofChange Rows.fnExactDiceBackSpec)) = true := by kernel_rfl
theorem xDiceBack_k4 : (Try.f12.params.all (Try.prog.readableRec ·)) = true := by kernel_rfl
theorem xDiceBack_k5 : (namedTie Try.prog Rows.fnExactDiceBackRow.named Rows.fnExactDiceBackSpec.vars) = true := by kernel_rfl
theorem xDiceBack_k6 : ((Rows.fnExactDiceBackRow.stops == [])) = true := by kernel_rfl
theorem xDiceBack_k8 : ((Rows.fnExactDiceBackRow.knobs == [])) = true := by kernel_rfl
theorem xDiceBack_k10 : ((Rows.fnExactDiceBackRow.inPlace == Try.prog.inPlace 12)) = true := by kernel_rfl
theorem xDiceBack_k11 : ((Rows.fnExactDiceBackRow.unfollowed == Try.prog.unfollowed 12)) = true := by kernel_rfl
theorem xDiceBack_k12 : ((Rows.fnExactDiceBackRow.recurses == Try.prog.recurses 12)) = true := by kernel_rfl
theorem xDiceBack_k13 : ((Rows.fnExactDiceBackRow.named == Try.prog.varsNamed 12)) = true := by kernel_rfl
theorem xDiceBack_k14 : ((Rows.fnExactDiceBackRow.maps == (Try.f12.params.toList ++ Rows.fnExactDiceBackSpec.plain.varTypes Try.prog).any (Try.prog.mapsRec ·))) = true := by kernel_rfl
theorem xDiceBack_k15 : ((Rows.fnExactDiceBackRow.ifaces == (Try.f12.params.toList ++ Rows.fnExactDiceBackSpec.plain.varTypes Try.prog).any (Try.prog.ifacesRec ·))) = true := by kernel_rfl
theorem xDiceBack_k16 : ((Rows.fnExactDiceBackRow.mapsOut == Try.prog.mapsAmong Try.f12.resultTypes.toList)) = true := by kernel_rfl
theorem xDiceBack_k17 : ((Rows.fnExactDiceBackRow.loops == (Try.f12.params.toList ++ Rows.fnExactDiceBackSpec.plain.varTypes Try.prog).any (Try.prog.loopsFrom ·))) = true := by kernel_rfl
theorem xDiceBack_k18 : ((Rows.fnExactDiceBackRow.wideKeys == (Try.f12.params.toList ++ Rows.fnExactDiceBackSpec.plain.varTypes Try.prog ++ Try.f12.resultTypes.toList).any (Try.prog.wideKeysFrom ·))) = true := by kernel_rfl
theorem xDiceBack_k19 : (Rows.fnExactDiceBackSpec.vars.all (Try.prog.varReadable ·)) = true := by kernel_rfl
theorem xDiceBack_k20 : (Try.f12.resultTypes.all (fun t => Try.prog.readableRec t && decide (t < Try.prog.types.size))) = true := by kernel_rfl
theorem xDiceBack_k21 : ((Rows.fnExactDiceBackRow.ifacesOut == Try.f12.resultTypes.toList.any (Try.prog.ifacesRec ·))) = true := by kernel_rfl
theorem xDiceBack_k22 : ((Rows.fnExactDiceBackRow.loopsOut == Try.f12.resultTypes.toList.any (Try.prog.loopsFrom ·))) = true := by kernel_rfl
theorem xDiceBack_k24 : (Rows.fnExactDiceBackRow.shortTexts.isNone) = true := by kernel_rfl
theorem xDiceBack_k30 : ((Rows.fnExactDiceBackRow.pinned == Rows.fnExactDiceBackRow.pinnedBy)) = true := by kernel_rfl
theorem xDiceBack_k31 : ((Rows.fnExactDiceBackRow.veiled == (Try.f12.params.toList ++ Rows.fnExactDiceBackSpec.plain.varTypes Try.prog ++ Try.f12.resultTypes.toList).any (Try.prog.veiledRec ·))) = true := by kernel_rfl
theorem xDiceBack_k32 : (Rows.fnExactDiceBackRow.veiledFits Try.prog Try.f12.params.toList (Try.f12.params.toList ++ Rows.fnExactDiceBackSpec.plain.varTypes Try.prog ++ Try.f12.resultTypes.toList)) = true := by kernel_rfl
theorem xDiceBack_closed : joinedFacts Try.prog 12 Try.f12 Rows.fnExactDiceBackSpec Rows.fnExactDiceBackRow = true :=
  facts_of xDiceBack_k1 Try.f_laid Try.f_maps xDiceBack_k4 xDiceBack_k5 xDiceBack_k6 Try.f_stops xDiceBack_k8 Try.f_knobs xDiceBack_k10 xDiceBack_k11 xDiceBack_k12 xDiceBack_k13 xDiceBack_k14 xDiceBack_k15 xDiceBack_k16 xDiceBack_k17 xDiceBack_k18 xDiceBack_k19 xDiceBack_k20 xDiceBack_k21 xDiceBack_k22 (by kernel_rfl) xDiceBack_k24 Try.f_heard Try.f_enter Try.f_lifts Try.f_make rfl rfl xDiceBack_k30 xDiceBack_k31 xDiceBack_k32

set_option maxRecDepth 100000 in
theorem xDiceBack_lifted (os : Os) (started : os.Started) (H : Type) (enc : TypeId × Value → H) :
    ReturnsInHanded {} Try.checked os 12 .any (Rows.fnExactDiceBackSpec.pre6 enc Try.prog Try.f12 Rows.fnExactDiceBackRow.domain false) (Rows.fnExactDiceBackSpec.post enc Try.prog Try.f12 false true false false) := by
  refine returnsInHanded_of_change (C := Try.checked) Try.own started (by kernel_rfl) Try.func12
    (ChangeSpec.witness6 (enc := enc) (C := Try.checked) false ⟨#[], #[.slice none 0 0, .int .i64 0], []⟩ 8 (by kernel_rfl) (by kernel_rfl) (by kernel_rfl) (by kernel_rfl)) ?_
  intro W base args ds gs before hval0 hW _ _
  have hval : ∀ (j : Nat) t v, Try.f12.params[j]? = some t → args[j]? = some v → Value.okWide Try.prog W .any base t v := hval0
  have hW' := hW
  obtain ⟨p, q, hA0, hV, rfl, _, _⟩ := hW
  have hA : DataW.TrodAll enc Try.prog W 0 (fun _ => true) true Try.f12.params.toList args.toList ds p := hA0
  rw [Try.params12] at hA hval
  obtain ⟨v0, v1, d0, d1, p0, p1, rfl, rfl, rfl, h0, h1⟩ := trodAll_two hA
  obtain ⟨rfl, rfl⟩ := trodVars_none hV
  obtain ⟨A, a, L, rfl, m0, r0⟩ := ints_inD Try.underlying30 Try.underlying3 (by kernel_rfl) (hval 0 _ v0 rfl rfl) h0
  obtain ⟨s, rfl, _⟩ := open_int Try.underlying3 (hval 1 _ v1 rfl rfl) h1
  refine (exactDiceBack A a L s _ m0 r0).mono fun e W' ⟨he, hb⟩ => ⟨_, he, ?_⟩
  exact law_post (tb := 4) Try.laidOut (by kernel_rfl) rfl Try.underlying4 rfl hW' rfl hb

theorem xDiceBack_holds : Rows.FnExactDiceBackSaid :=
  OpenClaim.holds_of_wide 12 Try.f12 rfl rfl rfl rfl rfl rfl rfl ⟨rfl, rfl, rfl, rfl, rfl⟩ rfl rfl rfl rfl rfl (by kernel_rfl) Try.func12 xDiceBack_closed
    (of_decide_eq_true (by kernel_rfl)) (by unfold Func.isWrapper; first | (rw [if_pos (by decide +kernel)]; kernel_rfl) | (rw [if_neg (by decide +kernel)]; exact ⟨rfl, rfl⟩))
    (fun os started H enc _ => xDiceBack_lifted os started H enc)
#print axioms xDiceBack_holds
end Go.Proofs.Ytkhneligclhgaaa
