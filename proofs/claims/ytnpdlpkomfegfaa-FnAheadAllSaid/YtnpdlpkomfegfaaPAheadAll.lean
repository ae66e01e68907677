/- When all that was done ahead is done for good, in order, nothing was undone: of every code that comes in. -/
import Derived.Test.YtnpdlpkomfegfaaMB
import Derived.Test.YtnpdlpkomfegfaaNI
import Derived.Test.YtnpdlpkomfegfaaMM
import Derived.Test.YtnpdlpkomfegfaaLh
namespace Go.Proofs.Ytnpdlpkomfegfaa
open Go.ChangeShapes Go.WideShapes Go.ChangeAt Go.RowKit Go.Deep

theorem pAheadAll_k1 : (Rows.fnAheadAllRow.wf (OpenSpec.ofChange Rows.fnAheadAllSpec)) = true := by kernel_rfl
theorem pAheadAll_k4 : (Try.f6.params.all (Try.prog.readableRec ·)) = true := by kernel_rfl
theorem pAheadAll_k5 : (namedTie Try.prog Rows.fnAheadAllRow.named Rows.fnAheadAllSpec.vars) = true := by kernel_rfl
theorem pAheadAll_k6 : ((Rows.fnAheadAllRow.stops == [])) = true := by kernel_rfl
theorem pAheadAll_k8 : ((Rows.fnAheadAllRow.knobs == [])) = true := by kernel_rfl
theorem pAheadAll_k10 : ((Rows.fnAheadAllRow.inPlace == Try.prog.inPlace 6)) = true := by kernel_rfl
theorem pAheadAll_k11 : ((Rows.fnAheadAllRow.unfollowed == Try.prog.unfollowed 6)) = true := by kernel_rfl
theorem pAheadAll_k12 : ((Rows.fnAheadAllRow.recurses == Try.prog.recurses 6)) = true := by kernel_rfl
theorem pAheadAll_k13 : ((Rows.fnAheadAllRow.named == Try.prog.varsNamed 6)) = true := by kernel_rfl
theorem pAheadAll_k14 : ((Rows.fnAheadAllRow.maps == (Try.f6.params.toList ++ Rows.fnAheadAllSpec.plain.varTypes Try.prog).any (Try.prog.mapsRec ·))) = true := by kernel_rfl
theorem pAheadAll_k15 : ((Rows.fnAheadAllRow.ifaces == (Try.f6.params.toList ++ Rows.fnAheadAllSpec.plain.varTypes Try.prog).any (Try.prog.ifacesRec ·))) = true := by kernel_rfl
theorem pAheadAll_k16 : ((Rows.fnAheadAllRow.mapsOut == Try.prog.mapsAmong Try.f6.resultTypes.toList)) = true := by kernel_rfl
theorem pAheadAll_k17 : ((Rows.fnAheadAllRow.loops == (Try.f6.params.toList ++ Rows.fnAheadAllSpec.plain.varTypes Try.prog).any (Try.prog.loopsFrom ·))) = true := by kernel_rfl
theorem pAheadAll_k18 : ((Rows.fnAheadAllRow.wideKeys == (Try.f6.params.toList ++ Rows.fnAheadAllSpec.plain.varTypes Try.prog ++ Try.f6.resultTypes.toList).any (Try.prog.wideKeysFrom ·))) = true := by kernel_rfl
theorem pAheadAll_k19 : (Rows.fnAheadAllSpec.vars.all (Try.prog.varReadable ·)) = true := by kernel_rfl
theorem pAheadAll_k20 : (Try.f6.resultTypes.all (fun t => Try.prog.readableRec t && decide (t < Try.prog.types.size))) = true := by kernel_rfl
theorem pAheadAll_k21 : ((Rows.fnAheadAllRow.ifacesOut == Try.f6.resultTypes.toList.any (Try.prog.ifacesRec ·))) = true := by kernel_rfl
theorem pAheadAll_k22 : ((Rows.fnAheadAllRow.loopsOut == Try.f6.resultTypes.toList.any (Try.prog.loopsFrom ·))) = true := by kernel_rfl
theorem pAheadAll_k24 : (Rows.fnAheadAllRow.shortTexts.isNone) = true := by kernel_rfl
theorem pAheadAll_k30 : ((Rows.fnAheadAllRow.pinned == Rows.fnAheadAllRow.pinnedBy)) = true := by kernel_rfl
theorem pAheadAll_k31 : ((Rows.fnAheadAllRow.veiled == (Try.f6.params.toList ++ Rows.fnAheadAllSpec.plain.varTypes Try.prog ++ Try.f6.resultTypes.toList).any (Try.prog.veiledRec ·))) = true := by kernel_rfl
theorem pAheadAll_k32 : (Rows.fnAheadAllRow.veiledFits Try.prog Try.f6.params.toList (Try.f6.params.toList ++ Rows.fnAheadAllSpec.plain.varTypes Try.prog ++ Try.f6.resultTypes.toList)) = true := by kernel_rfl
theorem pAheadAll_closed : joinedFacts Try.prog 6 Try.f6 Rows.fnAheadAllSpec Rows.fnAheadAllRow = true :=
 facts_of pAheadAll_k1 Try.f_laid Try.f_maps pAheadAll_k4 pAheadAll_k5 pAheadAll_k6 Try.f_stops pAheadAll_k8 Try.f_knobs pAheadAll_k10 pAheadAll_k11 pAheadAll_k12 pAheadAll_k13 pAheadAll_k14 pAheadAll_k15 pAheadAll_k16 pAheadAll_k17 pAheadAll_k18 pAheadAll_k19 pAheadAll_k20 pAheadAll_k21 pAheadAll_k22 (by kernel_rfl) pAheadAll_k24 Try.f_heard Try.f_enter Try.f_lifts Try.f_make rfl rfl pAheadAll_k30 pAheadAll_k31 pAheadAll_k32

set_option maxRecDepth 100000 in
theorem pAheadAll_lifted (os : Os) (started : os.Started) (H : Type) (enc : TypeId × Value → H) :
 ReturnsInHanded {} Try.checked os 6 .any (Rows.fnAheadAllSpec.pre6 enc Try.prog Try.f6 Rows.fnAheadAllRow.domain false) (Rows.fnAheadAllSpec.post enc Try.prog Try.f6 false true false false) := by
 refine returnsInHanded_of_change (C := Try.checked) Try.own started (by kernel_rfl) Try.func6
  (ChangeSpec.witness6 (enc := enc) (C := Try.checked) false ⟨#[], #[.slice none 0 0], []⟩ 8 (by kernel_rfl) (by kernel_rfl) (by kernel_rfl) (by kernel_rfl)) ?_
 intro W base args ds gs before hval0 hW _ _
 have hval : ∀ (j : Nat) t v, Try.f6.params[j]? = some t → args[j]? = some v → Value.okWide Try.prog W .any base t v := hval0
 have hW' := hW
 obtain ⟨p, q, hA0, hV, rfl, _, _⟩ := hW
 have hA : DataW.TrodAll enc Try.prog W 0 (fun _ => true) true Try.f6.params.toList args.toList ds p := hA0
 rw [Try.params6] at hA hval
 obtain ⟨v0, d0, rfl, rfl, h0⟩ := trodAll_one hA
 obtain ⟨rfl, rfl⟩ := trodVars_none hV
 obtain ⟨A, n, c, rfl, m0, l0, b0⟩ := in_bytes Try.underlying22 Try.underlying5 (by kernel_rfl) (hval 0 _ v0 rfl rfl) h0
 refine (lawAheadAll m0 l0 b0).mono fun e W' ⟨he, hb⟩ => ⟨_, he, ?_⟩
 exact law_post (tb := 4) Try.laidOut (by kernel_rfl) rfl Try.underlying4 rfl hW' rfl hb

theorem pAheadAll_holds : Rows.FnAheadAllSaid :=
 OpenClaim.holds_of_wide 6 Try.f6 rfl rfl rfl rfl rfl rfl rfl ⟨rfl, rfl, rfl, rfl, rfl⟩ rfl rfl rfl rfl rfl (by kernel_rfl) Try.func6 pAheadAll_closed
  (of_decide_eq_true (by kernel_rfl)) (by unfold Func.isWrapper; first | (rw [if_pos (by decide +kernel)]; kernel_rfl) | (rw [if_neg (by decide +kernel)]; exact ⟨rfl, rfl⟩))
  (fun os started H enc _ => pAheadAll_lifted os started H enc)
#print axioms pAheadAll_holds
end Go.Proofs.Ytnpdlpkomfegfaa
