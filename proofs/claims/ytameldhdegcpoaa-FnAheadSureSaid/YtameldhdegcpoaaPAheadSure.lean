import Derived.Test.YtameldhdegcpoaaMB
import Derived.Test.YtameldhdegcpoaaNI
import Derived.Test.YtameldhdegcpoaaMM
import Derived.Test.YtameldhdegcpoaaLc
namespace Go.Proofs.Ytameldhdegcpoaa
open Go.ChangeShapes Go.WideShapes Go.ChangeAt Go.RowKit Go.Deep
theorem pAheadSure_k1 : (Rows.fnAheadSureRow.wf (OpenSpec.ofChange Rows.fnAheadSureSpec)) = true := by kernel_rfl
theorem pAheadSure_k4 : (Try.f6.params.all (Try.prog.readableRec ·)) = true := by kernel_rfl
theorem pAheadSure_k5 : (namedTie Try.prog Rows.fnAheadSureRow.named Rows.fnAheadSureSpec.vars) = true := by kernel_rfl
theorem pAheadSure_k6 : ((Rows.fnAheadSureRow.stops == [])) = true := by kernel_rfl
theorem pAheadSure_k8 : ((Rows.fnAheadSureRow.knobs == [])) = true := by kernel_rfl
theorem pAheadSure_k10 : ((Rows.fnAheadSureRow.inPlace == Try.prog.inPlace 6)) = true := by kernel_rfl
theorem pAheadSure_k11 : ((Rows.fnAheadSureRow.unfollowed == Try.prog.unfollowed 6)) = true := by kernel_rfl
theorem pAheadSure_k12 : ((Rows.fnAheadSureRow.recurses == Try.prog.recurses 6)) = true := by kernel_rfl
theorem pAheadSure_k13 : ((Rows.fnAheadSureRow.named == Try.prog.varsNamed 6)) = true := by kernel_rfl
theorem pAheadSure_k14 : ((Rows.fnAheadSureRow.maps == (Try.f6.params.toList ++ Rows.fnAheadSureSpec.plain.varTypes Try.prog).any (Try.prog.mapsRec ·))) = true := by kernel_rfl
theorem pAheadSure_k15 : ((Rows.fnAheadSureRow.ifaces == (Try.f6.params.toList ++ Rows.fnAheadSureSpec.plain.varTypes Try.prog).any (Try.prog.ifacesRec ·))) = true := by kernel_rfl
theorem pAheadSure_k16 : ((Rows.fnAheadSureRow.mapsOut == Try.prog.mapsAmong Try.f6.resultTypes.toList)) = true := by kernel_rfl
theorem pAheadSure_k17 : ((Rows.fnAheadSureRow.loops == (Try.f6.params.toList ++ Rows.fnAheadSureSpec.plain.varTypes Try.prog).any (Try.prog.loopsFrom ·))) = true := by kernel_rfl
theorem pAheadSure_k18 : ((Rows.fnAheadSureRow.wideKeys == (Try.f6.params.toList ++ Rows.fnAheadSureSpec.plain.varTypes Try.prog ++ Try.f6.resultTypes.toList).any (Try.prog.wideKeysFrom ·))) = true := by kernel_rfl
theorem pAheadSure_k19 : (Rows.fnAheadSureSpec.vars.all (Try.prog.varReadable ·)) = true := by kernel_rfl
theorem pAheadSure_k20 : (Try.f6.resultTypes.all (fun t => Try.prog.readableRec t && decide (t < Try.prog.types.size))) = true := by kernel_rfl
theorem pAheadSure_k21 : ((Rows.fnAheadSureRow.ifacesOut == Try.f6.resultTypes.toList.any (Try.prog.ifacesRec ·))) = true := by kernel_rfl
theorem pAheadSure_k22 : ((Rows.fnAheadSureRow.loopsOut == Try.f6.resultTypes.toList.any (Try.prog.loopsFrom ·))) = true := by kernel_rfl
theorem pAheadSure_k24 : (Rows.fnAheadSureRow.shortTexts.isNone) = true := by kernel_rfl
theorem pAheadSure_k30 : ((Rows.fnAheadSureRow.pinned == Rows.fnAheadSureRow.pinnedBy)) = true := by kernel_rfl
theorem pAheadSure_k31 : ((Rows.fnAheadSureRow.veiled == (Try.f6.params.toList ++ Rows.fnAheadSureSpec.plain.varTypes Try.prog ++ Try.f6.resultTypes.toList).any (Try.prog.veiledRec ·))) = true := by kernel_rfl
theorem pAheadSure_k32 : (Rows.fnAheadSureRow.veiledFits Try.prog Try.f6.params.toList (Try.f6.params.toList ++ Rows.fnAheadSureSpec.plain.varTypes Try.prog ++ Try.f6.resultTypes.toList)) = true := by kernel_rfl
theorem pAheadSure_closed : joinedFacts Try.prog 6 Try.f6 Rows.fnAheadSureSpec Rows.fnAheadSureRow = true :=
 facts_of pAheadSure_k1 Try.f_laid Try.f_maps pAheadSure_k4 pAheadSure_k5 pAheadSure_k6 Try.f_stops pAheadSure_k8 Try.f_knobs pAheadSure_k10 pAheadSure_k11 pAheadSure_k12 pAheadSure_k13 pAheadSure_k14 pAheadSure_k15 pAheadSure_k16 pAheadSure_k17 pAheadSure_k18 pAheadSure_k19 pAheadSure_k20 pAheadSure_k21 pAheadSure_k22 (by kernel_rfl) pAheadSure_k24 Try.f_heard Try.f_enter Try.f_lifts Try.f_make rfl rfl pAheadSure_k30 pAheadSure_k31 pAheadSure_k32
set_option maxRecDepth 100000 in
theorem pAheadSure_lifted (os : Os) (started : os.Started) (H : Type) (enc : TypeId × Value → H) :
 ReturnsInHanded {} Try.checked os 6 .any (Rows.fnAheadSureSpec.pre6 enc Try.prog Try.f6 Rows.fnAheadSureRow.domain false) (Rows.fnAheadSureSpec.post enc Try.prog Try.f6 false true false false) := by
 refine returnsInHanded_of_change (C := Try.checked) Try.own started (by kernel_rfl) Try.func6
  (ChangeSpec.witness6 (enc := enc) (C := Try.checked) false ⟨#[], #[.slice none 0 0], []⟩ 8 (by kernel_rfl) (by kernel_rfl) (by kernel_rfl) (by kernel_rfl)) ?_
 intro W base args ds gs before hval0 hW _ _
 have hval : ∀ (j : Nat) t v, Try.f6.params[j]? = some t → args[j]? = some v → Value.okWide Try.prog W .any base t v := hval0
 have hW' := hW
 obtain ⟨p, q, hA0, hV, rfl, _, _⟩ := hW
 have hA : DataW.TrodAll enc Try.prog W 0 (fun _ => true) true Try.f6.params.toList args.toList ds p := hA0
 rw [Try.params6] at hA hval
 obtain ⟨v0, d0, rfl, rfl, h0⟩ := trodAll_one hA
 obtain ⟨rfl, rfl⟩ := trodVars_none hV
 obtain ⟨A, n, c, rfl, m0, l0, b0⟩ := in_bytes Try.underlying43 Try.underlying5 (by kernel_rfl) (hval 0 _ v0 rfl rfl) h0
 refine (lawAheadSure m0 l0 b0).mono fun e W' ⟨he, hb⟩ => ⟨_, he, ?_⟩
 exact law_post (tb := 4) Try.laidOut (by kernel_rfl) rfl Try.underlying4 rfl hW' rfl hb
theorem pAheadSure_holds : Rows.FnAheadSureSaid :=
 OpenClaim.holds_of_wide 6 Try.f6 rfl rfl rfl rfl rfl rfl rfl ⟨rfl, rfl, rfl, rfl, rfl⟩ rfl rfl rfl rfl rfl (by kernel_rfl) Try.func6 pAheadSure_closed
  (of_decide_eq_true (by kernel_rfl)) (by unfold Func.isWrapper; first | (rw [if_pos (by decide +kernel)]; kernel_rfl) | (rw [if_neg (by decide +kernel)]; exact ⟨rfl, rfl⟩))
  (fun os started H enc _ => pAheadSure_lifted os started H enc)
#print axioms pAheadSure_holds
end Go.Proofs.Ytameldhdegcpoaa
