/- A letter is the same as itself: of every code that comes in. -/
import Derived.Test.YtjpbflehedbijaaMB
import Derived.Test.YtjpbflehedbijaaFx
import Derived.Test.YtjpbflehedbijaaFy
import Derived.Test.YtjpbflehedbijaaFz
import Derived.Test.YtjpbflehedbijaaFw
import Derived.Test.YtjpbflehedbijaaMD
import Derived.Test.YtjpbflehedbijaaDj
namespace Go.Proofs.Ytjpbflehedbijaa
open Go.ChangeShapes Go.WideShapes Go.ChangeAt Go.RowKit Go.Deep

theorem pMsgSame_k1 : (Rows.fnMsgSameRow.wf (OpenSpec.ofChange Rows.fnMsgSameSpec)) = true := by kernel_rfl
theorem pMsgSame_k4 : (Try.f3.params.all (Try.prog.readableRec ·)) = true := by kernel_rfl
theorem pMsgSame_k5 : (namedTie Try.prog Rows.fnMsgSameRow.named Rows.fnMsgSameSpec.vars) = true := by kernel_rfl
theorem pMsgSame_k6 : ((Rows.fnMsgSameRow.stops == [])) = true := by kernel_rfl
theorem pMsgSame_k8 : ((Rows.fnMsgSameRow.knobs == [])) = true := by kernel_rfl
theorem pMsgSame_k10 : ((Rows.fnMsgSameRow.inPlace == Try.prog.inPlace 3)) = true := by kernel_rfl
theorem pMsgSame_k11 : ((Rows.fnMsgSameRow.unfollowed == Try.prog.unfollowed 3)) = true := by kernel_rfl
theorem pMsgSame_k12 : ((Rows.fnMsgSameRow.recurses == Try.prog.recurses 3)) = true := by kernel_rfl
theorem pMsgSame_k13 : ((Rows.fnMsgSameRow.named == Try.prog.varsNamed 3)) = true := by kernel_rfl
theorem pMsgSame_k14 : ((Rows.fnMsgSameRow.maps == (Try.f3.params.toList ++ Rows.fnMsgSameSpec.plain.varTypes Try.prog).any (Try.prog.mapsRec ·))) = true := by kernel_rfl
theorem pMsgSame_k15 : ((Rows.fnMsgSameRow.ifaces == (Try.f3.params.toList ++ Rows.fnMsgSameSpec.plain.varTypes Try.prog).any (Try.prog.ifacesRec ·))) = true := by kernel_rfl
theorem pMsgSame_k16 : ((Rows.fnMsgSameRow.mapsOut == Try.prog.mapsAmong Try.f3.resultTypes.toList)) = true := by kernel_rfl
theorem pMsgSame_k17 : ((Rows.fnMsgSameRow.loops == (Try.f3.params.toList ++ Rows.fnMsgSameSpec.plain.varTypes Try.prog).any (Try.prog.loopsFrom ·))) = true := by kernel_rfl
theorem pMsgSame_k18 : ((Rows.fnMsgSameRow.wideKeys == (Try.f3.params.toList ++ Rows.fnMsgSameSpec.plain.varTypes Try.prog ++ Try.f3.resultTypes.toList).any (Try.prog.wideKeysFrom ·))) = true := by kernel_rfl
theorem pMsgSame_k19 : (Rows.fnMsgSameSpec.vars.all (Try.prog.varReadable ·)) = true := by kernel_rfl
theorem pMsgSame_k20 : (Try.f3.resultTypes.all (fun t => Try.prog.readableRec t && decide (t < Try.prog.types.size))) = true := by kernel_rfl
theorem pMsgSame_k21 : ((Rows.fnMsgSameRow.ifacesOut == Try.f3.resultTypes.toList.any (Try.prog.ifacesRec ·))) = true := by kernel_rfl
theorem pMsgSame_k22 : ((Rows.fnMsgSameRow.loopsOut == Try.f3.resultTypes.toList.any (Try.prog.loopsFrom ·))) = true := by kernel_rfl
theorem pMsgSame_k24 : (Rows.fnMsgSameRow.shortTexts.isNone) = true := by kernel_rfl
theorem pMsgSame_k30 : ((Rows.fnMsgSameRow.pinned == Rows.fnMsgSameRow.pinnedBy)) = true := by kernel_rfl
theorem pMsgSame_k31 : ((Rows.fnMsgSameRow.veiled == (Try.f3.params.toList ++ Rows.fnMsgSameSpec.plain.varTypes Try.prog ++ Try.f3.resultTypes.toList).any (Try.prog.veiledRec ·))) = true := by kernel_rfl
theorem pMsgSame_k32 : (Rows.fnMsgSameRow.veiledFits Try.prog Try.f3.params.toList (Try.f3.params.toList ++ Rows.fnMsgSameSpec.plain.varTypes Try.prog ++ Try.f3.resultTypes.toList)) = true := by kernel_rfl
theorem pMsgSame_closed : joinedFacts Try.prog 3 Try.f3 Rows.fnMsgSameSpec Rows.fnMsgSameRow = true :=
  facts_of pMsgSame_k1 Try.f_laid Try.f_maps pMsgSame_k4 pMsgSame_k5 pMsgSame_k6 Try.f_stops pMsgSame_k8 Try.f_knobs pMsgSame_k10 pMsgSame_k11 pMsgSame_k12 pMsgSame_k13 pMsgSame_k14 pMsgSame_k15 pMsgSame_k16 pMsgSame_k17 pMsgSame_k18 pMsgSame_k19 pMsgSame_k20 pMsgSame_k21 pMsgSame_k22 (by kernel_rfl) pMsgSame_k24 Try.f_heard Try.f_enter Try.f_lifts Try.f_make rfl rfl pMsgSame_k30 pMsgSame_k31 pMsgSame_k32

set_option maxRecDepth 100000 in
theorem pMsgSame_lifted (os : Os) (started : os.Started) (H : Type) (enc : TypeId × Value → H) :
    ReturnsInHanded {} Try.checked os 3 .any (Rows.fnMsgSameSpec.pre6 enc Try.prog Try.f3 Rows.fnMsgSameRow.domain false) (Rows.fnMsgSameSpec.post enc Try.prog Try.f3 false true false false) := by
  refine returnsInHanded_of_change (C := Try.checked) Try.own started (by kernel_rfl) Try.func3
    (ChangeSpec.witness6 (enc := enc) (C := Try.checked) false ⟨#[], #[.slice none 0 0], []⟩ 8 (by kernel_rfl) (by kernel_rfl) (by kernel_rfl) (by kernel_rfl)) ?_
  intro W base args ds gs before hval0 hW _ _
  have hval : ∀ (j : Nat) t v, Try.f3.params[j]? = some t → args[j]? = some v → Value.okWide Try.prog W .any base t v := hval0
  have hW' := hW
  obtain ⟨p, q, hA0, hV, rfl, _, _⟩ := hW
  have hA : DataW.TrodAll enc Try.prog W 0 (fun _ => true) true Try.f3.params.toList args.toList ds p := hA0
  rw [Try.params3] at hA hval
  obtain ⟨v0, d0, rfl, rfl, h0⟩ := trodAll_one hA
  obtain ⟨rfl, rfl⟩ := trodVars_none hV
  obtain ⟨A, n, c, rfl, m0, l0, b0⟩ := in_bytes Try.underlying22 Try.underlying5 (by kernel_rfl) (hval 0 _ v0 rfl rfl) h0
  refine (lawMsgSame m0 l0 b0).mono fun e W' ⟨he, hb⟩ => ⟨_, he, ?_⟩
  exact law_post (tb := 4) Try.laidOut (by kernel_rfl) rfl Try.underlying4 rfl hW' rfl hb

theorem pMsgSame_holds : Rows.FnMsgSameSaid :=
  OpenClaim.holds_of_wide 3 Try.f3 rfl rfl rfl rfl rfl rfl rfl ⟨rfl, rfl, rfl, rfl, rfl⟩ rfl rfl rfl rfl rfl (by kernel_rfl) Try.func3 pMsgSame_closed
    (of_decide_eq_true (by kernel_rfl)) (by unfold Func.isWrapper; first | (rw [if_pos (by decide +kernel)]; kernel_rfl) | (rw [if_neg (by decide +kernel)]; exact ⟨rfl, rfl⟩))
    (fun os started H enc _ => pMsgSame_lifted os started H enc)
#print axioms pMsgSame_holds
end Go.Proofs.Ytjpbflehedbijaa
