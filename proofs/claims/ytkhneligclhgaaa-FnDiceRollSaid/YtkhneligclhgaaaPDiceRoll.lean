/- What is rolled is one of the sides: of every code that comes in. -/
import Derived.Test.YtkhneligclhgaaaMB
import Derived.Test.YtkhneligclhgaaaFx
import Derived.Test.YtkhneligclhgaaaFy
import Derived.Test.YtkhneligclhgaaaFz
import Derived.Test.YtkhneligclhgaaaFw
import Derived.Test.YtkhneligclhgaaaMM
import Derived.Test.YtkhneligclhgaaaFm
namespace Go.Proofs.Ytkhneligclhgaaa
open Go.ChangeShapes Go.WideShapes Go.ChangeAt Go.RowKit Go.Deep

theorem pDiceRoll_k1 : (Rows.fnDiceRollRow.wf (OpenSpec.ofChange Rows.fnDiceRollSpec)) = true := by kernel_rfl
theorem pDiceRoll_k4 : (Try.f4.params.all (Try.prog.readableRec ·)) = true := by kernel_rfl
theorem pDiceRoll_k5 : (namedTie Try.prog Rows.fnDiceRollRow.named Rows.fnDiceRollSpec.vars) = true := by kernel_rfl
theorem pDiceRoll_k6 : ((Rows.fnDiceRollRow.stops == [])) = true := by kernel_rfl
theorem pDiceRoll_k8 : ((Rows.fnDiceRollRow.knobs == [])) = true := by kernel_rfl
theorem pDiceRoll_k10 : ((Rows.fnDiceRollRow.inPlace == Try.prog.inPlace 4)) = true := by kernel_rfl
theorem pDiceRoll_k11 : ((Rows.fnDiceRollRow.unfollowed == Try.prog.unfollowed 4)) = true := by kernel_rfl
theorem pDiceRoll_k12 : ((Rows.fnDiceRollRow.recurses == Try.prog.recurses 4)) = true := by kernel_rfl
theorem pDiceRoll_k13 : ((Rows.fnDiceRollRow.named == Try.prog.varsNamed 4)) = true := by kernel_rfl
theorem pDiceRoll_k14 : ((Rows.fnDiceRollRow.maps == (Try.f4.params.toList ++ Rows.fnDiceRollSpec.plain.varTypes Try.prog).any (Try.prog.mapsRec ·))) = true := by kernel_rfl
theorem pDiceRoll_k15 : ((Rows.fnDiceRollRow.ifaces == (Try.f4.params.toList ++ Rows.fnDiceRollSpec.plain.varTypes Try.prog).any (Try.prog.ifacesRec ·))) = true := by kernel_rfl
theorem pDiceRoll_k16 : ((Rows.fnDiceRollRow.mapsOut == Try.prog.mapsAmong Try.f4.resultTypes.toList)) = true := by kernel_rfl
theorem pDiceRoll_k17 : ((Rows.fnDiceRollRow.loops == (Try.f4.params.toList ++ Rows.fnDiceRollSpec.plain.varTypes Try.prog).any (Try.prog.loopsFrom ·))) = true := by kernel_rfl
theorem pDiceRoll_k18 : ((Rows.fnDiceRollRow.wideKeys == (Try.f4.params.toList ++ Rows.fnDiceRollSpec.plain.varTypes Try.prog ++ Try.f4.resultTypes.toList).any (Try.prog.wideKeysFrom ·))) = true := by kernel_rfl
theorem pDiceRoll_k19 : (Rows.fnDiceRollSpec.vars.all (Try.prog.varReadable ·)) = true := by kernel_rfl
theorem pDiceRoll_k20 : (Try.f4.resultTypes.all (fun t => Try.prog.readableRec t && decide (t < Try.prog.types.size))) = true := by kernel_rfl
theorem pDiceRoll_k21 : ((Rows.fnDiceRollRow.ifacesOut == Try.f4.resultTypes.toList.any (Try.prog.ifacesRec ·))) = true := by kernel_rfl
theorem pDiceRoll_k22 : ((Rows.fnDiceRollRow.loopsOut == Try.f4.resultTypes.toList.any (Try.prog.loopsFrom ·))) = true := by kernel_rfl
theorem pDiceRoll_k24 : (Rows.fnDiceRollRow.shortTexts.isNone) = true := by kernel_rfl
theorem pDiceRoll_k30 : ((Rows.fnDiceRollRow.pinned == Rows.fnDiceRollRow.pinnedBy)) = true := by kernel_rfl
theorem pDiceRoll_k31 : ((Rows.fnDiceRollRow.veiled == (Try.f4.params.toList ++ Rows.fnDiceRollSpec.plain.varTypes Try.prog ++ Try.f4.resultTypes.toList).any (Try.prog.veiledRec ·))) = true := by kernel_rfl
theorem pDiceRoll_k32 : (Rows.fnDiceRollRow.veiledFits Try.prog Try.f4.params.toList (Try.f4.params.toList ++ Rows.fnDiceRollSpec.plain.varTypes Try.prog ++ Try.f4.resultTypes.toList)) = true := by kernel_rfl
theorem pDiceRoll_closed : joinedFacts Try.prog 4 Try.f4 Rows.fnDiceRollSpec Rows.fnDiceRollRow = true :=
  facts_of pDiceRoll_k1 Try.f_laid Try.f_maps pDiceRoll_k4 pDiceRoll_k5 pDiceRoll_k6 Try.f_stops pDiceRoll_k8 Try.f_knobs pDiceRoll_k10 pDiceRoll_k11 pDiceRoll_k12 pDiceRoll_k13 pDiceRoll_k14 pDiceRoll_k15 pDiceRoll_k16 pDiceRoll_k17 pDiceRoll_k18 pDiceRoll_k19 pDiceRoll_k20 pDiceRoll_k21 pDiceRoll_k22 (by kernel_rfl) pDiceRoll_k24 Try.f_heard Try.f_enter Try.f_lifts Try.f_make rfl rfl pDiceRoll_k30 pDiceRoll_k31 pDiceRoll_k32

set_option maxRecDepth 100000 in
theorem pDiceRoll_lifted (os : Os) (started : os.Started) (H : Type) (enc : TypeId × Value → H) :
    ReturnsInHanded {} Try.checked os 4 .any (Rows.fnDiceRollSpec.pre6 enc Try.prog Try.f4 Rows.fnDiceRollRow.domain false) (Rows.fnDiceRollSpec.post enc Try.prog Try.f4 false true false false) := by
  refine returnsInHanded_of_change (C := Try.checked) Try.own started (by kernel_rfl) Try.func4
    (ChangeSpec.witness6 (enc := enc) (C := Try.checked) false ⟨#[], #[.slice none 0 0], []⟩ 8 (by kernel_rfl) (by kernel_rfl) (by kernel_rfl) (by kernel_rfl)) ?_
  intro W base args ds gs before hval0 hW _ _
  have hval : ∀ (j : Nat) t v, Try.f4.params[j]? = some t → args[j]? = some v → Value.okWide Try.prog W .any base t v := hval0
  have hW' := hW
  obtain ⟨p, q, hA0, hV, rfl, _, _⟩ := hW
  have hA : DataW.TrodAll enc Try.prog W 0 (fun _ => true) true Try.f4.params.toList args.toList ds p := hA0
  rw [Try.params4] at hA hval
  obtain ⟨v0, d0, rfl, rfl, h0⟩ := trodAll_one hA
  obtain ⟨rfl, rfl⟩ := trodVars_none hV
  obtain ⟨A, n, c, rfl, m0, l0, b0⟩ := in_bytes Try.underlying22 Try.underlying5 (by kernel_rfl) (hval 0 _ v0 rfl rfl) h0
  refine (lawDiceRoll A c n _ m0 l0 b0).mono fun e W' ⟨he, hb⟩ => ⟨_, he, ?_⟩
  exact law_post (tb := 4) Try.laidOut (by kernel_rfl) rfl Try.underlying4 rfl hW' rfl hb

theorem pDiceRoll_holds : Rows.FnDiceRollSaid :=
  OpenClaim.holds_of_wide 4 Try.f4 rfl rfl rfl rfl rfl rfl rfl ⟨rfl, rfl, rfl, rfl, rfl⟩ rfl rfl rfl rfl rfl (by kernel_rfl) Try.func4 pDiceRoll_closed
    (of_decide_eq_true (by kernel_rfl)) (by unfold Func.isWrapper; first | (rw [if_pos (by decide +kernel)]; kernel_rfl) | (rw [if_neg (by decide +kernel)]; exact ⟨rfl, rfl⟩))
    (fun os started H enc _ => pDiceRoll_lifted os started H enc)
#print axioms pDiceRoll_holds
end Go.Proofs.Ytkhneligclhgaaa
