/- What is shuffled back comes again: of every code that comes in. -/
import Derived.Test.YtkhneligclhgaaaMB
import Derived.Test.YtkhneligclhgaaaFx
import Derived.Test.YtkhneligclhgaaaFy
import Derived.Test.YtkhneligclhgaaaFz
import Derived.Test.YtkhneligclhgaaaFw
import Derived.Test.YtkhneligclhgaaaMM
import Derived.Test.YtkhneligclhgaaaFo
namespace Go.Proofs.Ytkhneligclhgaaa
open Go.ChangeShapes Go.WideShapes Go.ChangeAt Go.RowKit Go.Deep

theorem pDiceBack_k1 : (Rows.fnDiceBackRow.wf (OpenSpec.ofChange Rows.fnDiceBackSpec)) = true := by kernel_rfl
theorem pDiceBack_k4 : (Try.f7.params.all (Try.prog.readableRec ·)) = true := by kernel_rfl
theorem pDiceBack_k5 : (namedTie Try.prog Rows.fnDiceBackRow.named Rows.fnDiceBackSpec.vars) = true := by kernel_rfl
theorem pDiceBack_k6 : ((Rows.fnDiceBackRow.stops == [])) = true := by kernel_rfl
theorem pDiceBack_k8 : ((Rows.fnDiceBackRow.knobs == [])) = true := by kernel_rfl
theorem pDiceBack_k10 : ((Rows.fnDiceBackRow.inPlace == Try.prog.inPlace 7)) = true := by kernel_rfl
theorem pDiceBack_k11 : ((Rows.fnDiceBackRow.unfollowed == Try.prog.unfollowed 7)) = true := by kernel_rfl
theorem pDiceBack_k12 : ((Rows.fnDiceBackRow.recurses == Try.prog.recurses 7)) = true := by kernel_rfl
theorem pDiceBack_k13 : ((Rows.fnDiceBackRow.named == Try.prog.varsNamed 7)) = true := by kernel_rfl
theorem pDiceBack_k14 : ((Rows.fnDiceBackRow.maps == (Try.f7.params.toList ++ Rows.fnDiceBackSpec.plain.varTypes Try.prog).any (Try.prog.mapsRec ·))) = true := by kernel_rfl
theorem pDiceBack_k15 : ((Rows.fnDiceBackRow.ifaces == (Try.f7.params.toList ++ Rows.fnDiceBackSpec.plain.varTypes Try.prog).any (Try.prog.ifacesRec ·))) = true := by kernel_rfl
theorem pDiceBack_k16 : ((Rows.fnDiceBackRow.mapsOut == Try.prog.mapsAmong Try.f7.resultTypes.toList)) = true := by kernel_rfl
theorem pDiceBack_k17 : ((Rows.fnDiceBackRow.loops == (Try.f7.params.toList ++ Rows.fnDiceBackSpec.plain.varTypes Try.prog).any (Try.prog.loopsFrom ·))) = true := by kernel_rfl
theorem pDiceBack_k18 : ((Rows.fnDiceBackRow.wideKeys == (Try.f7.params.toList ++ Rows.fnDiceBackSpec.plain.varTypes Try.prog ++ Try.f7.resultTypes.toList).any (Try.prog.wideKeysFrom ·))) = true := by kernel_rfl
theorem pDiceBack_k19 : (Rows.fnDiceBackSpec.vars.all (Try.prog.varReadable ·)) = true := by kernel_rfl
theorem pDiceBack_k20 : (Try.f7.resultTypes.all (fun t => Try.prog.readableRec t && decide (t < Try.prog.types.size))) = true := by kernel_rfl
theorem pDiceBack_k21 : ((Rows.fnDiceBackRow.ifacesOut == Try.f7.resultTypes.toList.any (Try.prog.ifacesRec ·))) = true := by kernel_rfl
theorem pDiceBack_k22 : ((Rows.fnDiceBackRow.loopsOut == Try.f7.resultTypes.toList.any (Try.prog.loopsFrom ·))) = true := by kernel_rfl
theorem pDiceBack_k24 : (Rows.fnDiceBackRow.shortTexts.isNone) = true := by kernel_rfl
theorem pDiceBack_k30 : ((Rows.fnDiceBackRow.pinned == Rows.fnDiceBackRow.pinnedBy)) = true := by kernel_rfl
theorem pDiceBack_k31 : ((Rows.fnDiceBackRow.veiled == (Try.f7.params.toList ++ Rows.fnDiceBackSpec.plain.varTypes Try.prog ++ Try.f7.resultTypes.toList).any (Try.prog.veiledRec ·))) = true := by kernel_rfl
theorem pDiceBack_k32 : (Rows.fnDiceBackRow.veiledFits Try.prog Try.f7.params.toList (Try.f7.params.toList ++ Rows.fnDiceBackSpec.plain.varTypes Try.prog ++ Try.f7.resultTypes.toList)) = true := by kernel_rfl
theorem pDiceBack_closed : joinedFacts Try.prog 7 Try.f7 Rows.fnDiceBackSpec Rows.fnDiceBackRow = true :=
  facts_of pDiceBack_k1 Try.f_laid Try.f_maps pDiceBack_k4 pDiceBack_k5 pDiceBack_k6 Try.f_stops pDiceBack_k8 Try.f_knobs pDiceBack_k10 pDiceBack_k11 pDiceBack_k12 pDiceBack_k13 pDiceBack_k14 pDiceBack_k15 pDiceBack_k16 pDiceBack_k17 pDiceBack_k18 pDiceBack_k19 pDiceBack_k20 pDiceBack_k21 pDiceBack_k22 (by kernel_rfl) pDiceBack_k24 Try.f_heard Try.f_enter Try.f_lifts Try.f_make rfl rfl pDiceBack_k30 pDiceBack_k31 pDiceBack_k32

set_option maxRecDepth 100000 in
theorem pDiceBack_lifted (os : Os) (started : os.Started) (H : Type) (enc : TypeId × Value → H) :
    ReturnsInHanded {} Try.checked os 7 .any (Rows.fnDiceBackSpec.pre6 enc Try.prog Try.f7 Rows.fnDiceBackRow.domain false) (Rows.fnDiceBackSpec.post enc Try.prog Try.f7 false true false false) := by
  refine returnsInHanded_of_change (C := Try.checked) Try.own started (by kernel_rfl) Try.func7
    (ChangeSpec.witness6 (enc := enc) (C := Try.checked) false ⟨#[], #[.slice none 0 0], []⟩ 8 (by kernel_rfl) (by kernel_rfl) (by kernel_rfl) (by kernel_rfl)) ?_
  intro W base args ds gs before hval0 hW _ _
  have hval : ∀ (j : Nat) t v, Try.f7.params[j]? = some t → args[j]? = some v → Value.okWide Try.prog W .any base t v := hval0
  have hW' := hW
  obtain ⟨p, q, hA0, hV, rfl, _, _⟩ := hW
  have hA : DataW.TrodAll enc Try.prog W 0 (fun _ => true) true Try.f7.params.toList args.toList ds p := hA0
  rw [Try.params7] at hA hval
  obtain ⟨v0, d0, rfl, rfl, h0⟩ := trodAll_one hA
  obtain ⟨rfl, rfl⟩ := trodVars_none hV
  obtain ⟨A, n, c, rfl, m0, l0, b0⟩ := in_bytes Try.underlying22 Try.underlying5 (by kernel_rfl) (hval 0 _ v0 rfl rfl) h0
  refine (lawDiceBack A c n _ m0 l0 b0).mono fun e W' ⟨he, hb⟩ => ⟨_, he, ?_⟩
  exact law_post (tb := 4) Try.laidOut (by kernel_rfl) rfl Try.underlying4 rfl hW' rfl hb

theorem pDiceBack_holds : Rows.FnDiceBackSaid :=
  OpenClaim.holds_of_wide 7 Try.f7 rfl rfl rfl rfl rfl rfl rfl ⟨rfl, rfl, rfl, rfl, rfl⟩ rfl rfl rfl rfl rfl (by kernel_rfl) Try.func7 pDiceBack_closed
    (of_decide_eq_true (by kernel_rfl)) (by unfold Func.isWrapper; first | (rw [if_pos (by decide +kernel)]; kernel_rfl) | (rw [if_neg (by decide +kernel)]; exact ⟨rfl, rfl⟩))
    (fun os started H enc _ => pDiceBack_lifted os started H enc)
#print axioms pDiceBack_holds
end Go.Proofs.Ytkhneligclhgaaa
