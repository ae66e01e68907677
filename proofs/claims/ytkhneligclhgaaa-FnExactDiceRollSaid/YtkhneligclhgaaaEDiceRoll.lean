/- The exact law of DiceRoll holds of all numbers. -/
import Derived.Test.YtkhneligclhgaaaMB
import Derived.Test.YtkhneligclhgaaaFx
import Derived.Test.YtkhneligclhgaaaFy
import Derived.Test.YtkhneligclhgaaaFz
import Derived.Test.YtkhneligclhgaaaFw
import Derived.Test.YtkhneligclhgaaaFh
namespace Go.Proofs.Ytkhneligclhgaaa
open Go.ChangeShapes Go.WideShapes Go.ChangeAt Go.RowKit Go.Deep

theorem xDiceRoll_k1 : (Rows.fnExactDiceRollRow.wf (OpenSpec.ofChange Rows.fnExactDiceRollSpec)) = true := by kernel_rfl
theorem xDiceRoll_k4 : (Try.f9.params.all (Try.prog.readableRec ·)) = true := by kernel_rfl
theorem xDiceRoll_k5 : (namedTie Try.prog Rows.fnExactDiceRollRow.named Rows.fnExactDiceRollSpec.vars) = true := by kernel_rfl
theorem xDiceRoll_k6 : ((Rows.fnExactDiceRollRow.stops == [])) = true := by kernel_rfl
theorem xDiceRoll_k8 : ((Rows.fnExactDiceRollRow.knobs == [])) = true := by kernel_rfl
theorem xDiceRoll_k10 : ((Rows.fnExactDiceRollRow.inPlace == Try.prog.inPlace 9)) = true := by kernel_rfl
theorem xDiceRoll_k11 : ((Rows.fnExactDiceRollRow.unfollowed == Try.prog.unfollowed 9)) = true := by kernel_rfl
theorem xDiceRoll_k12 : ((Rows.fnExactDiceRollRow.recurses == Try.prog.recurses 9)) = true := by kernel_rfl
theorem xDiceRoll_k13 : ((Rows.fnExactDiceRollRow.named == Try.prog.varsNamed 9)) = true := by kernel_rfl
theorem xDiceRoll_k14 : ((Rows.fnExactDiceRollRow.maps == (Try.f9.params.toList ++ Rows.fnExactDiceRollSpec.plain.varTypes Try.prog).any (Try.prog.mapsRec ·))) = true := by kernel_rfl
theorem xDiceRoll_k15 : ((Rows.fnExactDiceRollRow.ifaces == (Try.f9.params.toList ++ Rows.fnExactDiceRollSpec.plain.varTypes Try.prog).any (Try.prog.ifacesRec ·))) = true := by kernel_rfl
theorem xDiceRoll_k16 : ((Rows.fnExactDiceRollRow.mapsOut == Try.prog.mapsAmong Try.f9.resultTypes.toList)) = true := by kernel_rfl
theorem xDiceRoll_k17 : ((Rows.fnExactDiceRollRow.loops == (Try.f9.params.toList ++ Rows.fnExactDiceRollSpec.plain.varTypes Try.prog).any (Try.prog.loopsFrom ·))) = true := by kernel_rfl
theorem xDiceRoll_k18 : ((Rows.fnExactDiceRollRow.wideKeys == (Try.f9.params.toList ++ Rows.fnExactDiceRollSpec.plain.varTypes Try.prog ++ Try.f9.resultTypes.toList).any (Try.prog.wideKeysFrom ·))) = true := by kernel_rfl
theorem xDiceRoll_k19 : (Rows.fnExactDiceRollSpec.vars.all (Try.prog.varReadable ·)) = true := by kernel_rfl
theorem xDiceRoll_k20 : (Try.f9.resultTypes.all (fun t => Try.prog.readableRec t && decide (t < Try.prog.types.size))) = true := by kernel_rfl
theorem xDiceRoll_k21 : ((Rows.fnExactDiceRollRow.ifacesOut == Try.f9.resultTypes.toList.any (Try.prog.ifacesRec ·))) = true := by kernel_rfl
theorem xDiceRoll_k22 : ((Rows.fnExactDiceRollRow.loopsOut == Try.f9.resultTypes.toList.any (Try.prog.loopsFrom ·))) = true := by kernel_rfl
theorem xDiceRoll_k24 : (Rows.fnExactDiceRollRow.shortTexts.isNone) = true := by kernel_rfl
theorem xDiceRoll_k30 : ((Rows.fnExactDiceRollRow.pinned == Rows.fnExactDiceRollRow.pinnedBy)) = true := by kernel_rfl
theorem xDiceRoll_k31 : ((Rows.fnExactDiceRollRow.veiled == (Try.f9.params.toList ++ Rows.fnExactDiceRollSpec.plain.varTypes Try.prog ++ Try.f9.resultTypes.toList).any (Try.prog.veiledRec ·))) = true := by kernel_rfl
theorem xDiceRoll_k32 : (Rows.fnExactDiceRollRow.veiledFits Try.prog Try.f9.params.toList (Try.f9.params.toList ++ Rows.fnExactDiceRollSpec.plain.varTypes Try.prog ++ Try.f9.resultTypes.toList)) = true := by kernel_rfl
theorem xDiceRoll_closed : joinedFacts Try.prog 9 Try.f9 Rows.fnExactDiceRollSpec Rows.fnExactDiceRollRow = true :=
  facts_of xDiceRoll_k1 Try.f_laid Try.f_maps xDiceRoll_k4 xDiceRoll_k5 xDiceRoll_k6 Try.f_stops xDiceRoll_k8 Try.f_knobs xDiceRoll_k10 xDiceRoll_k11 xDiceRoll_k12 xDiceRoll_k13 xDiceRoll_k14 xDiceRoll_k15 xDiceRoll_k16 xDiceRoll_k17 xDiceRoll_k18 xDiceRoll_k19 xDiceRoll_k20 xDiceRoll_k21 xDiceRoll_k22 (by kernel_rfl) xDiceRoll_k24 Try.f_heard Try.f_enter Try.f_lifts Try.f_make rfl rfl xDiceRoll_k30 xDiceRoll_k31 xDiceRoll_k32

set_option maxRecDepth 100000 in
theorem xDiceRoll_lifted (os : Os) (started : os.Started) (H : Type) (enc : TypeId × Value → H) :
    ReturnsInHanded {} Try.checked os 9 .any (Rows.fnExactDiceRollSpec.pre6 enc Try.prog Try.f9 Rows.fnExactDiceRollRow.domain false) (Rows.fnExactDiceRollSpec.post enc Try.prog Try.f9 false true false false) := by
  refine returnsInHanded_of_change (C := Try.checked) Try.own started (by kernel_rfl) Try.func9
    (ChangeSpec.witness6 (enc := enc) (C := Try.checked) false ⟨#[], #[.int .i64 0, .int .i64 0], []⟩ 8 (by kernel_rfl) (by kernel_rfl) (by kernel_rfl) (by kernel_rfl)) ?_
  intro W base args ds gs before hval0 hW _ _
  have hval : ∀ (j : Nat) t v, Try.f9.params[j]? = some t → args[j]? = some v → Value.okWide Try.prog W .any base t v := hval0
  have hW' := hW
  obtain ⟨p, q, hA0, hV, rfl, _, _⟩ := hW
  have hA : DataW.TrodAll enc Try.prog W 0 (fun _ => true) true Try.f9.params.toList args.toList ds p := hA0
  rw [Try.params9] at hA hval
  obtain ⟨v0, v1, d0, d1, p0, p1, rfl, rfl, rfl, h0, h1⟩ := trodAll_two hA
  obtain ⟨rfl, rfl⟩ := trodVars_none hV
  obtain ⟨s, rfl, _⟩ := open_int Try.underlying3 (hval 0 _ v0 rfl rfl) h0
  obtain ⟨k, rfl, _⟩ := open_int Try.underlying3 (hval 1 _ v1 rfl rfl) h1
  refine (exactDiceRoll s k _).mono fun e W' ⟨he, hb⟩ => ⟨_, he, ?_⟩
  exact law_post (tb := 4) Try.laidOut (by kernel_rfl) rfl Try.underlying4 rfl hW' rfl hb

theorem xDiceRoll_holds : Rows.FnExactDiceRollSaid :=
  OpenClaim.holds_of_wide 9 Try.f9 rfl rfl rfl rfl rfl rfl rfl ⟨rfl, rfl, rfl, rfl, rfl⟩ rfl rfl rfl rfl rfl (by kernel_rfl) Try.func9 xDiceRoll_closed
    (of_decide_eq_true (by kernel_rfl)) (by unfold Func.isWrapper; first | (rw [if_pos (by decide +kernel)]; kernel_rfl) | (rw [if_neg (by decide +kernel)]; exact ⟨rfl, rfl⟩))
    (fun os started H enc _ => xDiceRoll_lifted os started H enc)
#print axioms xDiceRoll_holds
end Go.Proofs.Ytkhneligclhgaaa
