/- What is shuffled is all that there was: of every code that comes in. -/
import Derived.Test.YtkhneligclhgaaaMB
import Derived.Test.YtkhneligclhgaaaFx
import Derived.Test.YtkhneligclhgaaaFy
import Derived.Test.YtkhneligclhgaaaFz
import Derived.Test.YtkhneligclhgaaaFw
import Derived.Test.YtkhneligclhgaaaMM
import Derived.Test.YtkhneligclhgaaaFp
namespace Go.Proofs.Ytkhneligclhgaaa
open Go.ChangeShapes Go.WideShapes Go.ChangeAt Go.RowKit Go.Deep

theorem pDiceShuffle_k1 : (Rows.fnDiceShuffleRow.wf (OpenSpec.ofChange Rows.fnDiceShuffleSpec)) = true := by kernel_rfl
theorem pDiceShuffle_k4 : (Try.f6.params.all (Try.prog.readableRec ·)) = true := by kernel_rfl
theorem pDiceShuffle_k5 : (namedTie Try.prog Rows.fnDiceShuffleRow.named Rows.fnDiceShuffleSpec.vars) = true := by kernel_rfl
theorem pDiceShuffle_k6 : ((Rows.fnDiceShuffleRow.stops == [])) = true := by kernel_rfl
theorem pDiceShuffle_k8 : ((Rows.fnDiceShuffleRow.knobs == [])) = true := by kernel_rfl
theorem pDiceShuffle_k10 : ((Rows.fnDiceShuffleRow.inPlace == Try.prog.inPlace 6)) = true := by kernel_rfl
theorem pDiceShuffle_k11 : ((Rows.fnDiceShuffleRow.unfollowed == Try.prog.unfollowed 6)) = true := by kernel_rfl
theorem pDiceShuffle_k12 : ((Rows.fnDiceShuffleRow.recurses == Try.prog.recurses 6)) = true := by kernel_rfl
theorem pDiceShuffle_k13 : ((Rows.fnDiceShuffleRow.named == Try.prog.varsNamed 6)) = true := by kernel_rfl
theorem pDiceShuffle_k14 : ((Rows.fnDiceShuffleRow.maps == (Try.f6.params.toList ++ Rows.fnDiceShuffleSpec.plain.varTypes Try.prog).any (Try.prog.mapsRec ·))) = true := by kernel_rfl
theorem pDiceShuffle_k15 : ((Rows.fnDiceShuffleRow.ifaces == (Try.f6.params.toList ++ Rows.fnDiceShuffleSpec.plain.varTypes Try.prog).any (Try.prog.ifacesRec ·))) = true := by kernel_rfl
theorem pDiceShuffle_k16 : ((Rows.fnDiceShuffleRow.mapsOut == Try.prog.mapsAmong Try.f6.resultTypes.toList)) = true := by kernel_rfl
theorem pDiceShuffle_k17 : ((Rows.fnDiceShuffleRow.loops == (Try.f6.params.toList ++ Rows.fnDiceShuffleSpec.plain.varTypes Try.prog).any (Try.prog.loopsFrom ·))) = true := by kernel_rfl
theorem pDiceShuffle_k18 : ((Rows.fnDiceShuffleRow.wideKeys == (Try.f6.params.toList ++ Rows.fnDiceShuffleSpec.plain.varTypes Try.prog ++ Try.f6.resultTypes.toList).any (Try.prog.wideKeysFrom ·))) = true := by kernel_rfl
theorem pDiceShuffle_k19 : (Rows.fnDiceShuffleSpec.vars.all (Try.prog.varReadable ·)) = true := by kernel_rfl
theorem pDiceShuffle_k20 : (Try.f6.resultTypes.all (fun t => Try.prog.readableRec t && decide (t < Try.prog.types.size))) = true := by kernel_rfl
theorem pDiceShuffle_k21 : ((Rows.fnDiceShuffleRow.ifacesOut == Try.f6.resultTypes.toList.any (Try.prog.ifacesRec ·))) = true := by kernel_rfl
theorem pDiceShuffle_k22 : ((Rows.fnDiceShuffleRow.loopsOut == Try.f6.resultTypes.toList.any (Try.prog.loopsFrom ·))) = true := by kernel_rfl
theorem pDiceShuffle_k24 : (Rows.fnDiceShuffleRow.shortTexts.isNone) = true := by kernel_rfl
theorem pDiceShuffle_k30 : ((Rows.fnDiceShuffleRow.pinned == Rows.fnDiceShuffleRow.pinnedBy)) = true := by kernel_rfl
theorem pDiceShuffle_k31 : ((Rows.fnDiceShuffleRow.veiled == (Try.f6.params.toList ++ Rows.fnDiceShuffleSpec.plain.varTypes Try.prog ++ Try.f6.resultTypes.toList).any (Try.prog.veiledRec ·))) = true := by kernel_rfl
theorem pDiceShuffle_k32 : (Rows.fnDiceShuffleRow.veiledFits Try.prog Try.f6.params.toList (Try.f6.params.toList ++ Rows.fnDiceShuffleSpec.plain.varTypes Try.prog ++ Try.f6.resultTypes.toList)) = true := by kernel_rfl
theorem pDiceShuffle_closed : joinedFacts Try.prog 6 Try.f6 Rows.fnDiceShuffleSpec Rows.fnDiceShuffleRow = true :=
  facts_of pDiceShuffle_k1 Try.f_laid Try.f_maps pDiceShuffle_k4 pDiceShuffle_k5 pDiceShuffle_k6 Try.f_stops pDiceShuffle_k8 Try.f_knobs pDiceShuffle_k10 pDiceShuffle_k11 pDiceShuffle_k12 pDiceShuffle_k13 pDiceShuffle_k14 pDiceShuffle_k15 pDiceShuffle_k16 pDiceShuffle_k17 pDiceShuffle_k18 pDiceShuffle_k19 pDiceShuffle_k20 pDiceShuffle_k21 pDiceShuffle_k22 (by kernel_rfl) pDiceShuffle_k24 Try.f_heard Try.f_enter Try.f_lifts Try.f_make rfl rfl pDiceShuffle_k30 pDiceShuffle_k31 pDiceShuffle_k32

set_option maxRecDepth 100000 in
theorem pDiceShuffle_lifted (os : Os) (started : os.Started) (H : Type) (enc : TypeId × Value → H) :
    ReturnsInHanded {} Try.checked os 6 .any (Rows.fnDiceShuffleSpec.pre6 enc Try.prog Try.f6 Rows.fnDiceShuffleRow.domain false) (Rows.fnDiceShuffleSpec.post enc Try.prog Try.f6 false true false false) := by
  refine returnsInHanded_of_change (C := Try.checked) Try.own started (by kernel_rfl) Try.func6
    (ChangeSpec.witness6 (enc := enc) (C := Try.checked) false ⟨#[], #[.slice none 0 0], []⟩ 8 (by kernel_rfl) (by kernel_rfl) (by kernel_rfl) (by kernel_rfl)) ?_
  intro W base args ds gs before hval0 hW _ _
  have hval : ∀ (j : Nat) t v, Try.f6.params[j]? = some t → args[j]? = some v → Value.okWide Try.prog W .any base t v := hval0
  have hW' := hW
  obtain ⟨p, q, hA0, hV, rfl, _, _⟩ := hW
  have hA : DataW.TrodAll enc Try.prog W 0 (fun _ => true) true Try.f6.params.toList args.toList ds p := hA0
  rw [Try.params6] at hA hval
  obtain ⟨v0, d0, rfl, rfl, h0⟩ := trodAll_one hA
  obtain ⟨rfl, rfl⟩ := trodVars_none hV
  obtain ⟨A, n, c, rfl, m0, l0, b0⟩ := in_bytes Try.underlying22 Try.underlying5 (by kernel_rfl) (hval 0 _ v0 rfl rfl) h0
  refine (lawDiceShuffle A c n _ m0 l0 b0).mono fun e W' ⟨he, hb⟩ => ⟨_, he, ?_⟩
  exact law_post (tb := 4) Try.laidOut (by kernel_rfl) rfl Try.underlying4 rfl hW' rfl hb

theorem pDiceShuffle_holds : Rows.FnDiceShuffleSaid :=
  OpenClaim.holds_of_wide 6 Try.f6 rfl rfl rfl rfl rfl rfl rfl ⟨rfl, rfl, rfl, rfl, rfl⟩ rfl rfl rfl rfl rfl (by kernel_rfl) Try.func6 pDiceShuffle_closed
    (of_decide_eq_true (by kernel_rfl)) (by unfold Func.isWrapper; first | (rw [if_pos (by decide +kernel)]; kernel_rfl) | (rw [if_neg (by decide +kernel)]; exact ⟨rfl, rfl⟩))
    (fun os started H enc _ => pDiceShuffle_lifted os started H enc)
#print axioms pDiceShuffle_holds
end Go.Proofs.Ytkhneligclhgaaa
