/- The exact law of DiceShuffle holds of all numbers that come in. -/
import Derived.Test.YtkhneligclhgaaaMB
import Derived.Test.YtkhneligclhgaaaFx
import Derived.Test.YtkhneligclhgaaaFy
import Derived.Test.YtkhneligclhgaaaFz
import Derived.Test.YtkhneligclhgaaaFw
import Derived.Test.YtkhneligclhgaaaFj
namespace Go.Proofs.Ytkhneligclhgaaa
open Go.ChangeShapes Go.WideShapes Go.ChangeAt Go.RowKit Go.Deep

theorem xDiceShuffle_k1 : (Rows.fnExactDiceShuffleRow.wf (OpenSpec.ofChange Rows.fnExactDiceShuffleSpec)) = true := by kernel_rfl
theorem xDiceShuffle_k4 : (Try.f11.params.all (Try.prog.readableRec ·)) = true := by kernel_rfl
theorem xDiceShuffle_k5 : (namedTie Try.prog Rows.fnExactDiceShuffleRow.named Rows.fnExactDiceShuffleSpec.vars) = true := by kernel_rfl
theorem xDiceShuffle_k6 : ((Rows.fnExactDiceShuffleRow.stops == [])) = true := by kernel_rfl
theorem xDiceShuffle_k8 : ((Rows.fnExactDiceShuffleRow.knobs == [])) = true := by kernel_rfl
theorem xDiceShuffle_k10 : ((Rows.fnExactDiceShuffleRow.inPlace == Try.prog.inPlace 11)) = true := by kernel_rfl
theorem xDiceShuffle_k11 : ((Rows.fnExactDiceShuffleRow.unfollowed == Try.prog.unfollowed 11)) = true := by kernel_rfl
theorem xDiceShuffle_k12 : ((Rows.fnExactDiceShuffleRow.recurses == Try.prog.recurses 11)) = true := by kernel_rfl
theorem xDiceShuffle_k13 : ((Rows.fnExactDiceShuffleRow.named == Try.prog.varsNamed 11)) = true := by kernel_rfl
theorem xDiceShuffle_k14 : ((Rows.fnExactDiceShuffleRow.maps == (Try.f11.params.toList ++ Rows.fnExactDiceShuffleSpec.plain.varTypes Try.prog).any (Try.prog.mapsRec ·))) = true := by kernel_rfl
theorem xDiceShuffle_k15 : ((Rows.fnExactDiceShuffleRow.ifaces == (Try.f11.params.toList ++ Rows.fnExactDiceShuffleSpec.plain.varTypes Try.prog).any (Try.prog.ifacesRec ·))) = true := by kernel_rfl
theorem xDiceShuffle_k16 : ((Rows.fnExactDiceShuffleRow.mapsOut == Try.prog.mapsAmong Try.f11.resultTypes.toList)) = true := by kernel_rfl
theorem xDiceShuffle_k17 : ((Rows.fnExactDiceShuffleRow.loops == (Try.f11.params.toList ++ Rows.fnExactDiceShuffleSpec.plain.varTypes Try.prog).any (Try.prog.loopsFrom ·))) = true := by kernel_rfl
theorem xDiceShuffle_k18 : ((Rows.fnExactDiceShuffleRow.wideKeys == (Try.f11.params.toList ++ Rows.fnExactDiceShuffleSpec.plain.varTypes Try.prog ++ Try.f11.resultTypes.toList).any (Try.prog.wideKeysFrom ·))) = true := by kernel_rfl
theorem xDiceShuffle_k19 : (Rows.fnExactDiceShuffleSpec.vars.all (Try.prog.varReadable ·)) = true := by kernel_rfl
theorem xDiceShuffle_k20 : (Try.f11.resultTypes.all (fun t => Try.prog.readableRec t && decide (t < Try.prog.types.size))) = true := by kernel_rfl
theorem xDiceShuffle_k21 : ((Rows.fnExactDiceShuffleRow.ifacesOut == Try.f11.resultTypes.toList.any (Try.prog.ifacesRec ·))) = true := by kernel_rfl
theorem xDiceShuffle_k22 : ((Rows.fnExactDiceShuffleRow.loopsOut == Try.f11.resultTypes.toList.any (Try.prog.loopsFrom ·))) = true := by kernel_rfl
theorem xDiceShuffle_k24 : (Rows.fnExactDiceShuffleRow.shortTexts.isNone) = true := by kernel_rfl
theorem xDiceShuffle_k30 : ((Rows.fnExactDiceShuffleRow.pinned == Rows.fnExactDiceShuffleRow.pinnedBy)) = true := by kernel_rfl
theorem xDiceShuffle_k31 : ((Rows.fnExactDiceShuffleRow.veiled == (Try.f11.params.toList ++ Rows.fnExactDiceShuffleSpec.plain.varTypes Try.prog ++ Try.f11.resultTypes.toList).any (Try.prog.veiledRec ·))) = true := by kernel_rfl
theorem xDiceShuffle_k32 : (Rows.fnExactDiceShuffleRow.veiledFits Try.prog Try.f11.params.toList (Try.f11.params.toList ++ Rows.fnExactDiceShuffleSpec.plain.varTypes Try.prog ++ Try.f11.resultTypes.toList)) = true := by kernel_rfl
theorem xDiceShuffle_closed : joinedFacts Try.prog 11 Try.f11 Rows.fnExactDiceShuffleSpec Rows.fnExactDiceShuffleRow = true :=
  facts_of xDiceShuffle_k1 Try.f_laid Try.f_maps xDiceShuffle_k4 xDiceShuffle_k5 xDiceShuffle_k6 Try.f_stops xDiceShuffle_k8 Try.f_knobs xDiceShuffle_k10 xDiceShuffle_k11 xDiceShuffle_k12 xDiceShuffle_k13 xDiceShuffle_k14 xDiceShuffle_k15 xDiceShuffle_k16 xDiceShuffle_k17 xDiceShuffle_k18 xDiceShuffle_k19 xDiceShuffle_k20 xDiceShuffle_k21 xDiceShuffle_k22 (by kernel_rfl) xDiceShuffle_k24 Try.f_heard Try.f_enter Try.f_lifts Try.f_make rfl rfl xDiceShuffle_k30 xDiceShuffle_k31 xDiceShuffle_k32

set_option maxRecDepth 100000 in
theorem xDiceShuffle_lifted (os : Os) (started : os.Started) (H : Type) (enc : TypeId × Value → H) :
    ReturnsInHanded {} Try.checked os 11 .any (Rows.fnExactDiceShuffleSpec.pre6 enc Try.prog Try.f11 Rows.fnExactDiceShuffleRow.domain false) (Rows.fnExactDiceShuffleSpec.post enc Try.prog Try.f11 false true false false) := by
  refine returnsInHanded_of_change (C := Try.checked) Try.own started (by kernel_rfl) Try.func11
    (ChangeSpec.witness6 (enc := enc) (C := Try.checked) false ⟨#[], #[.slice none 0 0, .int .i64 0], []⟩ 8 (by kernel_rfl) (by kernel_rfl) (by kernel_rfl) (by kernel_rfl)) ?_
  intro W base args ds gs before hval0 hW _ _
  have hval : ∀ (j : Nat) t v, Try.f11.params[j]? = some t → args[j]? = some v → Value.okWide Try.prog W .any base t v := hval0
  have hW' := hW
  obtain ⟨p, q, hA0, hV, rfl, _, _⟩ := hW
  have hA : DataW.TrodAll enc Try.prog W 0 (fun _ => true) true Try.f11.params.toList args.toList ds p := hA0
  rw [Try.params11] at hA hval
  obtain ⟨v0, v1, d0, d1, p0, p1, rfl, rfl, rfl, h0, h1⟩ := trodAll_two hA
  obtain ⟨rfl, rfl⟩ := trodVars_none hV
  obtain ⟨A, a, L, rfl, m0, r0⟩ := ints_inD Try.underlying30 Try.underlying3 (by kernel_rfl) (hval 0 _ v0 rfl rfl) h0
  obtain ⟨s, rfl, _⟩ := open_int Try.underlying3 (hval 1 _ v1 rfl rfl) h1
  refine (exactDiceShuffle A a L s _ m0 r0).mono fun e W' ⟨he, hb⟩ => ⟨_, he, ?_⟩
  exact law_post (tb := 4) Try.laidOut (by kernel_rfl) rfl Try.underlying4 rfl hW' rfl hb

theorem xDiceShuffle_holds : Rows.FnExactDiceShuffleSaid :=
  OpenClaim.holds_of_wide 11 Try.f11 rfl rfl rfl rfl rfl rfl rfl ⟨rfl, rfl, rfl, rfl, rfl⟩ rfl rfl rfl rfl rfl (by kernel_rfl) Try.func11 xDiceShuffle_closed
    (of_decide_eq_true (by kernel_rfl)) (by unfold Func.isWrapper; first | (rw [if_pos (by decide +kernel)]; kernel_rfl) | (rw [if_neg (by decide +kernel)]; exact ⟨rfl, rfl⟩))
    (fun os started H enc _ => xDiceShuffle_lifted os started H enc)
#print axioms xDiceShuffle_holds
end Go.Proofs.Ytkhneligclhgaaa
